import PyProof.Rows.All
import Wide.All
import OpenK.AllK
import Wide.FinOn
import PySem.Challenge.RW_kindstocome_k02_kinds_made
import HandS.ForMost
import HandS.EndBits
import PyProof.ReprRoads
import HandS.IsInst
import HandS.Zip
import HandS.Walk
import HandS.Strs
import HandS.SetFor
import HandS.Style
import HandS.Conv
import KE.GoesEnum
import PyProof.AutoSeq1
import HandS.Property
import HandS.ForExc
import HandS.ExcInit
import HandS.ExcField
import HandS.ExcIs
import KE.KExcInit
import KE.KExcIs
import HandS.TryOnly
import HandS.TupAny
import HandS.TupMul
import PyProof.NeKinds
set_option Elab.async false
set_option linter.all false
set_option maxRecDepth 100000
set_option maxHeartbeats 4000000
/-! Defs that are promised where no repr is under way (so that repr of lists, tuples, dicts tells the whole text). -/
namespace Kg
open PySem PySem.Spec PyProof.Rows L2
/-- a def keeps sp wherever no repr runs around it -/
structure FnG (P : Program) (w : World) (K : PySem.W.Frag) (mg : Str → Option Value) (base : Heap) (k : Nat) (f : Addr) (fd : FuncData) (ps : List Str) (sp : Sp) : Prop where
  len : ∀ vs H Q E, sp vs H Q E → vs.length = ps.length
  go : ∀ (A : Around) (out : List Env) (s : Shared) (H : Hp) (ar : Args) (us : List Value) (vs : List V) (Q : VK), A.guards = some [] → Room k A → Env0 P w K mg base A out s H →
    BindsTo s fd ar (ps.zip us) → Vals vs us → sp vs H Q E0 → codeAny (model P w) A (.call (.ref f) ar) (CR CX0 out P w H s Q E0) s
section
variable {P : Program} {w : World} {K : PySem.W.Frag} {mg : Str → Option Value} {base : Heap} {k : Nat} {f : Addr} {fd : FuncData} {ps : List Str} {sp : Sp}
theorem FnG.mono {j : Nat} (F : FnG P w K mg base j f fd ps sp) (h : j ≤ k) : FnG P w K mg base k f fd ps sp :=
  ⟨F.len, fun A out s H ar us vs Q g r => F.go A out s H ar us vs Q g (r.mono h)⟩
/-- the rule for such a def: as Fun.ok, the body may lean on the guards -/
theorem okG {x qual : Str} {st : Stmt} {N : List Str} (F : Fun K x qual st f fd) (S : FnScope N ps (defScope st)) (len : ∀ vs H Q E, sp vs H Q E → vs.length = ps.length)
    (bd : ∀ (cdv : Value) (A : Around) (out : List Env) (s : Shared) (H : Hp) (vs : List V) (Q : VK), (A.deeper (envOfC qual (defScope st) s.heap.objs.size f cdv)).guards = some [] → Room k (A.deeper (envOfC qual (defScope st) s.heap.objs.size f cdv)) → sp vs H Q E0 →
      ∃ t, PSs (cxOf CX0 P w K mg base N qual (defScope st) f cdv A out s H E0).nox (defBody st) t ∧ t { nx := fun _ H' => Q .non H', rt := Q } (start N vs) H) : FnG P w K mg base (k + 1) f fd ps sp := by
  obtain ⟨oc, od, kV, dc, pm, an, cdv, ct, osl, rfl, lk, hcd⟩ := F.ex
  refine ⟨len, fun A out s H ar us vs Q hgu hro e0 hbi rv hs => ?_⟩
  have old : ∀ b o, base.get? b = some o → s.heap.get? b = some o := fun b o e => (e0.bs b o e).1
  have kin := e0.mod.kin.keeps old
  obtain ⟨t, ht, hq⟩ := bd cdv A out s H vs Q hgu (hro.deeper _) hs
  have par : ∀ y ∈ ps.zip us, (defScope st).names.lookup y.1 = some .local ∨ ((defScope st).names.lookup y.1 = some .cell ∧ ((cellsFrom (s.heap.objs.size + 1) (defScope st).names []).lookup y.1).isSome = true) := by
    intro y hy
    cases S.par y.1 (List.of_mem_zip (a := y.1) (b := y.2) hy).1 with
    | inl z => exact .inl z
    | inr z => exact .inr ⟨z, PySem.W.cellsFrom_some _ _ _ (.inl z)⟩
  refine codeAny_call_function hro.depth (kin f _ lk) rfl S.co S.gen rfl (PySem.W.codeRec_of kin hcd) (hbi _ _ _ _ (wpAny_newFunctionEnv_cells S.kind par fun env he s1 x => ?_))
  subst he
  refine ⟨(e0.mod.nolimit.keeps old).keeps x.toInCall.keep, codeAny_func (wpAny_mono (ht.nox.run [] s1 (start N vs) H _ (inv_start S hro.hd e0 (len _ _ _ _ hs) rv x) hq) (fun fl s' z => ?_) fun _ _ z => z)⟩
  match fl, z with
  | .ret _, ⟨v, _, H', J, r, q⟩ => exact ⟨v, H', J.os, J.bare, J.base, J.hok, r, q⟩
  | .next, ⟨_, H', J, q⟩ => exact ⟨V.non, H', J.os, J.bare, J.base, J.hok, rfl, q⟩
  | .brk, ⟨_, _, _, q⟩ => exact q.elim
  | .cont, ⟨_, _, _, q⟩ => exact q.elim
end
section
variable {X : Cx} {k : Nat} {f : Addr} {fd : FuncData} {ps : List Str} {sp : Sp} {x : Str} {p pos : Pos} {e : Expr} {es : List Expr} {t : TA}
/-- f(e, ..) of such a def, where no repr runs -/
theorem pe_callG (F : FnG X.prog X.w X.K X.mg X.base k f fd ps sp) (hgu : X.A.guards = some []) (hr : Room k X.A) (hg : Gl X x) (hm : X.mg x = some (.ref f)) (hk : PySem.W.keepIn X.K (.ref f) = true) (hb : Binds X.K fd ps [])
    (ha : PA X (e :: es) t) (hdb : (x == ("__debug__" : Str)) = false := by decide) (he : starEach (e :: es) X.env = (false, eval e X.env) :: starEach es X.env := by rfl) (hpl : (backTo pos (starEach es X.env)).any (·.1) = false := by rfl) :
    PE X (.Call (.Name x p) (e :: es) [] pos) (tCall sp [] E0 t) := by
  refine ⟨fun pins s σ H Q I h => wpAny_Call_Name_kw (ld_glob I hg hm (PySem.W.callWith_K (h₀ := X.base) I.ok.mod.kin hk (thn (ha.run pos pins s σ H _ I h) fun us s1 ⟨vs, H1, I1, r, q⟩ => ⟨I1.kIn, ?_⟩) he hpl) hdb)⟩
  have q' : sp vs H1 Q E0 := by rw [← List.append_nil vs]; exact q
  have hl : us.length = ps.length := (Vals.length r).symm.trans (F.len _ _ _ _ q')
  have bi := hb s1 us I1.kIn (by rw [List.append_nil]; exact hl)
  rw [List.append_nil] at bi
  refine wpAny_call (codeAny_mono (F.go X.A X.stack s1 H1 ⟨us, []⟩ us vs Q hgu hr I1.env0 bi r q') fun rs s' z => ?_)
  match rs, z with
  | .ok (.ret _), z => exact I1.after z
  | .ok .next, z => exact z.elim
  | .ok .brk, z => exact z.elim
  | .ok .cont, z => exact z.elim
  | .error _, z => exact z.elim
end
/-! ### the law's end -/
theorem endG {P : Program} {w : World} {K : PySem.W.Frag} {mg mb : Str → Option Value} {k : Nat} {fa a : Addr} {fd : FuncData} {x : Str} {sp : Sp} {s₁ : Shared} {vs : List Value} {ns : List Int}
    (KX : K.In s₁.heap) (hns : s₁.heap.Ns mainGlobals mg) (hb : s₁.heap.Ns builtinsNs mb) (hbb : ∀ x : Str, x ≠ "__name__" → mb x = bootBuiltins x) (hlim : s₁.heap.NoLimit) (hg : s₁.gens = #[])
    (ha : s₁.heap.get? a = some { cls := .type "list", data := .seq vs.toArray }) (hi : IntsAre vs ns) (hl : ns.length ≤ sizeLine) (hr : Room k callerA)
    (F : ∀ base : Heap, K.In base → base.Ns mainGlobals mg → FnG P w K mg base k fa fd [x] sp) (hbind : ∀ (s : Shared) (u : Value), BindsTo s fd ⟨[u], []⟩ [(x, u)])
    (hsp : ∀ H : Hp, Only H → SqL K H a (ns.map V.int) → sp [.ref a] H (fun v _ => v = .bl true) E0) :
    codeAny (model P w) callerA (.call (.ref fa) ⟨[.ref a], []⟩) (fun r s' => r = .ok (.ret (.bool true)) ∧ OldK s₁.heap s'.heap ∧ s'.os = s₁.os ∧ AllBare s'.gens) s₁ := by
  have main : ∀ H : Hp, Only H → SqL K H a (ns.map V.int) → HOk P w H s₁.heap → (∀ b o, H b = some o → b = a ∧ K.lookup a = none) →
      codeAny (model P w) callerA (.call (.ref fa) ⟨[.ref a], []⟩) (fun r s' => r = .ok (.ret (.bool true)) ∧ OldK s₁.heap s'.heap ∧ s'.os = s₁.os ∧ AllBare s'.gens) s₁ := by
    intro H only sq ok one
    have notD : ∀ {b : Addr} {o : Obj} {es : Array DictEntry} {n : Nat}, s₁.heap.get? b = some o → o.data = .dict es n → H b = none := by
      intro b o es n e d
      cases q : H b with
      | none => rfl
      | some u =>
        rw [(one b u q).1, ha] at e
        rw [← Option.some.inj e] at d
        exact nomatch d
    have hid : ∀ {b : Addr} {m : Str → Option Value}, s₁.heap.Ns b m → (hidT s₁.heap H).Ns b m := by
      intro b m z
      obtain ⟨o, es, n, e, d, r⟩ := z
      exact ⟨o, es, n, hidT_get e (notD e d), d, r⟩
    have kb : K.In (hidT s₁.heap H) := by
      intro b o e
      refine hidT_get (KX b o e) ?_
      cases q : H b with
      | none => rfl
      | some u =>
        obtain ⟨z1, z2⟩ := one b u q
        rw [z1, z2] at e
        exact nomatch e
    obtain ⟨mc, l1, l2⟩ := hlim
    have env : Env0 P w K mg (hidT s₁.heap H) callerA [] s₁ H :=
      { frames := rfl, mod := ⟨kb, hid hns, ⟨mb, hid hb, hbb⟩, ⟨mc, hid l1, l2⟩⟩, bs := fun b o e => of_hidT e, bsz := Nat.le_of_eq (hidT_size _ _), funs := trivial, frf := fun b z => (nomatch (show b ∈ ([] : List Addr) from z)), hok := ok, bare := .of_eq hg }
    refine codeAny_mono ((F _ kb (hid hns)).go callerA [] s₁ H ⟨[.ref a], []⟩ [.ref a] [.ref a] _ rfl hr env (hbind s₁ (.ref a)) (.cons rfl .nil) (hsp H only sq)) fun r s' z => ?_
    match r, z with
    | .error _, z => exact z.elim
    | .ok .next, z => exact z.elim
    | .ok .brk, z => exact z.elim
    | .ok .cont, z => exact z.elim
    | .ok (.ret u), ⟨v, H', zo, zb, un, ok', rv, ev⟩ =>
      have ev' : v = .bl true := ev
      rw [ev'] at rv
      have eu : u = Value.bool true := rv
      refine ⟨by rw [eu], OldK.of_keep fun b o e => ?_, zo, zb⟩
      cases q : H b with
      | none => exact un.keep b o e q (fun y => nomatch (show b ∈ ([] : List Addr) from y)) (fun y => nomatch y)
      | some u2 =>
        cases only b with
        | inl y => rw [q] at y; exact nomatch y
        | inr y =>
          obtain ⟨ob, xs, y⟩ := y
          have y1 : ObjOk P w H s₁.heap b (.frz ob (.lst xs)) := ok b _ y
          have y2 : ObjOk P w H' s'.heap b (.frz ob (.lst xs)) := ok' b _ (un.frzs b ob _ y)
          have y3 : some o = some ob := e.symm.trans y1.1
          rw [Option.some.inj y3]
          exact y2.1
  have rv := vals_ints hi
  cases hk : K.lookup a with
  | none =>
    let H0 : Hp := fun b => if b = a then some (.frz { cls := .type "list", data := .seq vs.toArray } (.lst (ns.map V.int))) else none
    have at0 : ∀ b o, H0 b = some o → b = a ∧ o = .frz { cls := .type "list", data := .seq vs.toArray } (.lst (ns.map V.int)) := by
      intro b o e
      by_cases z : b = a
      · exact ⟨z, (Option.some.inj ((if_pos z).symm.trans e)).symm⟩
      · exact nomatch ((if_neg z).symm.trans e)
    refine main H0 (fun b => ?_) (.inl (.inr ⟨_, if_pos rfl⟩)) (fun b o e => ?_) (fun b o e => ⟨(at0 b o e).1, hk⟩)
    · cases q : H0 b with
      | none => exact .inl rfl
      | some o => exact .inr ⟨_, _, by rw [(at0 b o q).2]⟩
    · obtain ⟨z1, z2⟩ := at0 b o e
      rw [z1, z2]
      exact ⟨ha, by rw [List.length_map]; exact hl, vs, _, rv, ha⟩
  | some o =>
    have eo : ({ cls := .type "list", data := .seq vs.toArray } : Obj) = o := Option.some.inj (ha.symm.trans (KX a o hk))
    rw [← eo] at hk
    refine main (fun _ => none) (fun _ => .inl rfl) (.inr ⟨_, vs.toArray, _, hk, rfl, rfl, rfl, ?_, by simpa using rv⟩) (fun b o e => nomatch (show (none : Option HO) = some o from e)) (fun b o e => nomatch (show (none : Option HO) = some o from e))
    rw [List.size_toArray, hi.length]; exact hl
/-- what k_head leaves, from the law's promise; the script's bits are told -/
theorem walkG {l : PySem.W.OpenLaw} {n k : Nat} {q : Program} {loose : List Str} {XP : (Str → Option Value) → Heap → Prop} {YP : World → Heap → Prop} {d : DefRec} {K : Params → PySem.W.Frag} {sp : PySem.W.Frag → Sp} {x : Str}
    (hn : l.most = some n) (hn2 : n ≤ sizeLine) (hdf : d.params.defaults = []) (hr : Room k callerA) (hY : ∀ (w : World) (h : Heap), YP w h → (K w.params).In h)
    (F : ∀ (w : World) (mg : Str → Option Value) (fa : Addr) (h : Heap), (K w.params).In h → h.Ns mainGlobals mg → mg d.name = some (.ref fa) →
      ∃ fd : FuncData, (∀ (s : Shared) (u : Value), BindsTo s fd ⟨[u], []⟩ [(x, u)]) ∧ ∀ base : Heap, (K w.params).In base → base.Ns mainGlobals mg → FnG l.prog w (K w.params) mg base k fa fd [x] (sp (K w.params)))
    (hsp : ∀ (K : PySem.W.Frag) (H : Hp) (a : Addr) (ns : List Int), ns.length ≤ n → (∀ z ∈ ns, Builtin.Int.intBits z ≤ 1048576) → Only H → SqL K H a (ns.map V.int) → sp K [.ref a] H (fun v _ => v = .bl true) E0) :
    PySem.W.WalkO q loose XP YP l.row.toRowW d [] (fun f vs => PySem.call f vs) := by
  refine Att.attach_callB hn hdf fun w s₀ s₁ mg mb fa o pm cd dc a vs ns G Y ho hd hcd hmg hobj hints hlen hbits hgen => ?_
  obtain ⟨fd, hbi, hF⟩ := F w mg fa _ (hY w _ Y) G.T.g hmg
  exact endG (hY w _ Y) G.T.g G.T.b G.T.builtins G.T.nolimit hgen hobj hints (Nat.le_trans hlen hn2) hr hF hbi fun H hO hS => hsp (K w.params) H a ns hlen hbits hO hS
end Kg

set_option Elab.async false
set_option linter.all false
set_option maxRecDepth 100000
set_option maxHeartbeats 4000000
/-! The law's end, where the table of modules is known to stand. -/
namespace Kg
open PySem PySem.Spec PyProof.Rows L2
/-! ### the law's end -/
theorem endH {P : Program} {w : World} {K : PySem.W.Frag} {mg mb : Str → Option Value} {k : Nat} {fa a : Addr} {fd : FuncData} {x : Str} {sp : Sp} {s₁ : Shared} {vs : List Value} {ns : List Int}
    (KX : K.In s₁.heap) (hns : s₁.heap.Ns mainGlobals mg) (hb : s₁.heap.Ns builtinsNs mb) (hbb : ∀ x : Str, x ≠ "__name__" → mb x = bootBuiltins x) (hlim : s₁.heap.NoLimit) (hg : s₁.gens = #[])
    (ha : s₁.heap.get? a = some { cls := .type "list", data := .seq vs.toArray }) (hi : IntsAre vs ns) (hl : ns.length ≤ sizeLine) (hr : Room k callerA)
    (hsm : ∃ o es n, s₁.heap.get? sysModules = some o ∧ o.data = .dict es n) (F : ∀ base : Heap, K.In base → base.Ns mainGlobals mg → (∃ o, base.get? sysModules = some o) → FnG P w K mg base k fa fd [x] sp) (hbind : ∀ (s : Shared) (u : Value), BindsTo s fd ⟨[u], []⟩ [(x, u)])
    (hsp : ∀ H : Hp, Only H → SqL K H a (ns.map V.int) → sp [.ref a] H (fun v _ => v = .bl true) E0) :
    codeAny (model P w) callerA (.call (.ref fa) ⟨[.ref a], []⟩) (fun r s' => r = .ok (.ret (.bool true)) ∧ OldK s₁.heap s'.heap ∧ s'.os = s₁.os ∧ AllBare s'.gens) s₁ := by
  have main : ∀ H : Hp, Only H → SqL K H a (ns.map V.int) → HOk P w H s₁.heap → (∀ b o, H b = some o → b = a ∧ K.lookup a = none) →
      codeAny (model P w) callerA (.call (.ref fa) ⟨[.ref a], []⟩) (fun r s' => r = .ok (.ret (.bool true)) ∧ OldK s₁.heap s'.heap ∧ s'.os = s₁.os ∧ AllBare s'.gens) s₁ := by
    intro H only sq ok one
    have notD : ∀ {b : Addr} {o : Obj} {es : Array DictEntry} {n : Nat}, s₁.heap.get? b = some o → o.data = .dict es n → H b = none := by
      intro b o es n e d
      cases q : H b with
      | none => rfl
      | some u =>
        rw [(one b u q).1, ha] at e
        rw [← Option.some.inj e] at d
        exact nomatch d
    have hid : ∀ {b : Addr} {m : Str → Option Value}, s₁.heap.Ns b m → (hidT s₁.heap H).Ns b m := by
      intro b m z
      obtain ⟨o, es, n, e, d, r⟩ := z
      exact ⟨o, es, n, hidT_get e (notD e d), d, r⟩
    have kb : K.In (hidT s₁.heap H) := by
      intro b o e
      refine hidT_get (KX b o e) ?_
      cases q : H b with
      | none => rfl
      | some u =>
        obtain ⟨z1, z2⟩ := one b u q
        rw [z1, z2] at e
        exact nomatch e
    obtain ⟨mc, l1, l2⟩ := hlim
    have env : Env0 P w K mg (hidT s₁.heap H) callerA [] s₁ H :=
      { frames := rfl, mod := ⟨kb, hid hns, ⟨mb, hid hb, hbb⟩, ⟨mc, hid l1, l2⟩⟩, bs := fun b o e => of_hidT e, bsz := Nat.le_of_eq (hidT_size _ _), funs := trivial, frf := fun b z => (nomatch (show b ∈ ([] : List Addr) from z)), hok := ok, bare := .of_eq hg }
    obtain ⟨osm, esm, nsm, hsm1, hsm2⟩ := hsm
    refine codeAny_mono ((F _ kb (hid hns) ⟨osm, hidT_get hsm1 (notD hsm1 hsm2)⟩).go callerA [] s₁ H ⟨[.ref a], []⟩ [.ref a] [.ref a] _ rfl hr env (hbind s₁ (.ref a)) (.cons rfl .nil) (hsp H only sq)) fun r s' z => ?_
    match r, z with
    | .error _, z => exact z.elim
    | .ok .next, z => exact z.elim
    | .ok .brk, z => exact z.elim
    | .ok .cont, z => exact z.elim
    | .ok (.ret u), ⟨v, H', zo, zb, un, ok', rv, ev⟩ =>
      have ev' : v = .bl true := ev
      rw [ev'] at rv
      have eu : u = Value.bool true := rv
      refine ⟨by rw [eu], OldK.of_keep fun b o e => ?_, zo, zb⟩
      cases q : H b with
      | none => exact un.keep b o e q (fun y => nomatch (show b ∈ ([] : List Addr) from y)) (fun y => nomatch y)
      | some u2 =>
        cases only b with
        | inl y => rw [q] at y; exact nomatch y
        | inr y =>
          obtain ⟨ob, xs, y⟩ := y
          have y1 : ObjOk P w H s₁.heap b (.frz ob (.lst xs)) := ok b _ y
          have y2 : ObjOk P w H' s'.heap b (.frz ob (.lst xs)) := ok' b _ (un.frzs b ob _ y)
          have y3 : some o = some ob := e.symm.trans y1.1
          rw [Option.some.inj y3]
          exact y2.1
  have rv := vals_ints hi
  cases hk : K.lookup a with
  | none =>
    let H0 : Hp := fun b => if b = a then some (.frz { cls := .type "list", data := .seq vs.toArray } (.lst (ns.map V.int))) else none
    have at0 : ∀ b o, H0 b = some o → b = a ∧ o = .frz { cls := .type "list", data := .seq vs.toArray } (.lst (ns.map V.int)) := by
      intro b o e
      by_cases z : b = a
      · exact ⟨z, (Option.some.inj ((if_pos z).symm.trans e)).symm⟩
      · exact nomatch ((if_neg z).symm.trans e)
    refine main H0 (fun b => ?_) (.inl (.inr ⟨_, if_pos rfl⟩)) (fun b o e => ?_) (fun b o e => ⟨(at0 b o e).1, hk⟩)
    · cases q : H0 b with
      | none => exact .inl rfl
      | some o => exact .inr ⟨_, _, by rw [(at0 b o q).2]⟩
    · obtain ⟨z1, z2⟩ := at0 b o e
      rw [z1, z2]
      exact ⟨ha, by rw [List.length_map]; exact hl, vs, _, rv, ha⟩
  | some o =>
    have eo : ({ cls := .type "list", data := .seq vs.toArray } : Obj) = o := Option.some.inj (ha.symm.trans (KX a o hk))
    rw [← eo] at hk
    refine main (fun _ => none) (fun _ => .inl rfl) (.inr ⟨_, vs.toArray, _, hk, rfl, rfl, rfl, ?_, by simpa using rv⟩) (fun b o e => nomatch (show (none : Option HO) = some o from e)) (fun b o e => nomatch (show (none : Option HO) = some o from e))
    rw [List.size_toArray, hi.length]; exact hl
/-- what k_head leaves, from the law's promise; the script's bits are told -/
theorem walkH {l : PySem.W.OpenLaw} {n k : Nat} {q : Program} {loose : List Str} {XP : (Str → Option Value) → Heap → Prop} {YP : World → Heap → Prop} {d : DefRec} {K : Params → PySem.W.Frag} {sp : PySem.W.Frag → Sp} {x : Str}
    (himp : importsNone q = true) (hn : l.most = some n) (hn2 : n ≤ sizeLine) (hdf : d.params.defaults = []) (hr : Room k callerA) (hY : ∀ (w : World) (h : Heap), YP w h → (K w.params).In h)
    (F : ∀ (w : World) (mg : Str → Option Value) (fa : Addr) (h : Heap), (K w.params).In h → h.Ns mainGlobals mg → mg d.name = some (.ref fa) →
      ∃ fd : FuncData, (∀ (s : Shared) (u : Value), BindsTo s fd ⟨[u], []⟩ [(x, u)]) ∧ ∀ base : Heap, (K w.params).In base → base.Ns mainGlobals mg → (∃ o, base.get? sysModules = some o) → FnG l.prog w (K w.params) mg base k fa fd [x] (sp (K w.params)))
    (hsp : ∀ (K : PySem.W.Frag) (H : Hp) (a : Addr) (ns : List Int), ns.length ≤ n → (∀ z ∈ ns, Builtin.Int.intBits z ≤ 1048576) → Only H → SqL K H a (ns.map V.int) → sp K [.ref a] H (fun v _ => v = .bl true) E0) :
    PySem.W.WalkO q loose XP YP l.row.toRowW d [] (fun f vs => PySem.call f vs) := by
  refine Att.attach_callB hn hdf fun w s₀ s₁ mg mb fa o pm cd dc a vs ns G Y ho hd hcd hmg hobj hints hlen hbits hgen => ?_
  obtain ⟨fd, hbi, hF⟩ := F w mg fa _ (hY w _ Y) G.T.g hmg
  exact endH (hY w _ Y) G.T.g G.T.b G.T.builtins G.T.nolimit hgen hobj hints (Nat.le_trans hlen hn2) hr (by
    obtain ⟨mm, ⟨o, es, n', e1, e2, _⟩, _⟩ := (G.T.seer himp).mods
    exact ⟨o, es, n', e1, e2⟩) hF hbi fun H hO hS => hsp (K w.params) H a ns hlen hbits hO hS
end Kg

set_option Elab.async false
set_option linter.all false
set_option maxRecDepth 100000
set_option maxHeartbeats 4000000
/-! Data: what the laws draw and compare. -/
namespace Kd
open PySem PySem.Spec PyProof.Rows L2 Kg
/-- all that was tracked stands as it was, but for the places of ds -/
def Keep (ds : Addr → Prop) (H H' : Hp) : Prop := ∀ c o, H c = some o → ¬ ds c → H' c = some o
theorem Keep.refl (ds : Addr → Prop) (H : Hp) : Keep ds H H := fun _ _ h _ => h
theorem Keep.trans {ds : Addr → Prop} {H H1 H2 : Hp} (a : Keep ds H H1) (b : Keep ds H1 H2) : Keep ds H H2 := fun c o h n => b c o (a c o h n) n
theorem Keep.of_same {ds : Addr → Prop} {H H' : Hp} (a : Same H H') : Keep ds H H' := fun c o h _ => a c o h
theorem same_new {H : Hp} {p : Addr} {o : HO} (h : H p = none) : Same H (upd H p o) := fun b x e => by
  rw [upd_ne (ne_of_none e h)]; exact e
theorem Keep.put {ds : Addr → Prop} {H : Hp} {p : Addr} {o : HO} (h : ds p) : Keep ds H (upd H p o) := fun c x e n => by
  rw [upd_ne (fun z => n (by rw [z]; exact h))]; exact e
/-! a value and the datum that it is; none of its objects stands at a place of av -/
mutual
inductive Da (av : Addr → Prop) (H : Hp) : V → PyData → Prop
  | non : Da av H .non .none
  | bl (b : Bool) : Da av H (.bl b) (.bool b)
  | int (i : Int) : Da av H (.int i) (.int i)
  | str (x : Str) : Da av H (.str x) (.str x)
  | lst {a : Addr} {xs : List V} {ds : List PyData} : ¬ av a → H a = some (.lst xs) → xs.length ≤ 1000 → DaAll av H xs ds → Da av H (.ref a) (.list ds)
  | tup {a : Addr} {xs : List V} {ds : List PyData} : ¬ av a → H a = some (.tup xs) → xs.length ≤ 1000 → DaAll av H xs ds → Da av H (.ref a) (.tuple ds)
  | dc0 {a : Addr} : ¬ av a → H a = some (.dK []) → Da av H (.ref a) (.dict [])
  | dc1 {a : Addr} : ¬ av a → H a = some (.dK [(Sum.inl 0, V.int 1)]) → Da av H (.ref a) (.dict [(.int 0, .int 1)])
inductive DaAll (av : Addr → Prop) (H : Hp) : List V → List PyData → Prop
  | nil : DaAll av H [] []
  | cons {v : V} {vs : List V} {d : PyData} {ds : List PyData} : Da av H v d → DaAll av H vs ds → DaAll av H (v :: vs) (d :: ds)
end
mutual
theorem Da.keep {av : Addr → Prop} {H H' : Hp} (k : Keep av H H') : ∀ {v : V} {d : PyData}, Da av H v d → Da av H' v d
  | _, _, .non => .non
  | _, _, .bl b => .bl b
  | _, _, .int i => .int i
  | _, _, .str x => .str x
  | _, _, .lst n h z r => .lst n (k _ _ h n) z (DaAll.keep k r)
  | _, _, .tup n h z r => .tup n (k _ _ h n) z (DaAll.keep k r)
  | _, _, .dc0 n h => .dc0 n (k _ _ h n)
  | _, _, .dc1 n h => .dc1 n (k _ _ h n)
theorem DaAll.keep {av : Addr → Prop} {H H' : Hp} (k : Keep av H H') : ∀ {vs : List V} {ds : List PyData}, DaAll av H vs ds → DaAll av H' vs ds
  | _, _, .nil => .nil
  | _, _, .cons h r => .cons (Da.keep k h) (DaAll.keep k r)
end
theorem Da.same {av : Addr → Prop} {H H' : Hp} {v : V} {d : PyData} (h : Da av H v d) (k : Same H H') : Da av H' v d := h.keep (.of_same k)
mutual
theorem Da.sub {av bv : Addr → Prop} {H : Hp} (k : ∀ a, bv a → av a) : ∀ {v : V} {d : PyData}, Da av H v d → Da bv H v d
  | _, _, .non => .non
  | _, _, .bl b => .bl b
  | _, _, .int i => .int i
  | _, _, .str x => .str x
  | _, _, .lst n h l r => .lst (fun z => n (k _ z)) h l (DaAll.sub k r)
  | _, _, .tup n h l r => .tup (fun z => n (k _ z)) h l (DaAll.sub k r)
  | _, _, .dc0 n h => .dc0 (fun z => n (k _ z)) h
  | _, _, .dc1 n h => .dc1 (fun z => n (k _ z)) h
theorem DaAll.sub {av bv : Addr → Prop} {H : Hp} (k : ∀ a, bv a → av a) : ∀ {vs : List V} {ds : List PyData}, DaAll av H vs ds → DaAll bv H vs ds
  | _, _, .nil => .nil
  | _, _, .cons h r => .cons (Da.sub k h) (DaAll.sub k r)
end
theorem DaAll.length {av : Addr → Prop} {H : Hp} : ∀ {vs : List V} {ds : List PyData}, DaAll av H vs ds → vs.length = ds.length
  | _, _, .nil => rfl
  | _, _, .cons _ r => congrArg (· + 1) (DaAll.length r)
theorem DaAll.get {av : Addr → Prop} {H : Hp} : ∀ {vs : List V} {ds : List PyData} {i : Nat} {v : V}, DaAll av H vs ds → vs[i]? = some v → ∃ d, ds[i]? = some d ∧ Da av H v d
  | _, _, _, _, .nil, e => by simp at e
  | _, _, 0, _, .cons h _, e => ⟨_, rfl, by simp at e; rw [← e]; exact h⟩
  | _, _, i + 1, v, .cons _ r, e => by
    obtain ⟨d, h1, h2⟩ := DaAll.get (i := i) (v := v) r (by simpa using e)
    exact ⟨d, by simpa using h1, h2⟩
/-- no place at all -/
def nil : Addr → Prop := fun _ => False
theorem Da.nil {av : Addr → Prop} {H : Hp} {v : V} {d : PyData} (h : Da av H v d) : Da Kd.nil H v d := h.sub fun _ z => z.elim
/-! ### kinds of data -/
def tyN : PyData → String
  | .none => "NoneType"
  | .bool _ => "bool"
  | .int _ => "int"
  | .str _ => "str"
  | .list _ => "list"
  | .tuple _ => "tuple"
  | .dict _ => "dict"
def isTup : PyData → Bool | .tuple _ => true | _ => false
def isLst : PyData → Bool | .list _ => true | _ => false
def isSeq : PyData → Bool | .tuple _ => true | .list _ => true | _ => false
def isStr : PyData → Bool | .str _ => true | _ => false
def isBool : PyData → Bool | .bool _ => true | _ => false
def isInt : PyData → Bool | .int _ => true | .bool _ => true | _ => false
def isDct : PyData → Bool | .dict _ => true | _ => false
theorem kt_tup (d : PyData) : kitB (tyN d) "tuple" = some (isTup d) := by cases d <;> kernel_rfl
theorem kt_lst (d : PyData) : kitB (tyN d) "list" = some (isLst d) := by cases d <;> kernel_rfl
theorem kt_str (d : PyData) : kitB (tyN d) "str" = some (isStr d) := by cases d <;> kernel_rfl
theorem kt_bool (d : PyData) : kitB (tyN d) "bool" = some (isBool d) := by cases d <;> kernel_rfl
theorem kt_int (d : PyData) : kitB (tyN d) "int" = some (isInt d) := by cases d <;> kernel_rfl
theorem kt_dct (d : PyData) : kitB (tyN d) "dict" = some (isDct d) := by cases d <;> kernel_rfl
theorem kt_seq {K : PySem.W.Frag} (d : PyData) : PySem.W.kitAny K (.type (tyN d)) [.type "tuple", .type "list"] = some (isSeq d) := by
  cases d with
  | tuple xs => exact kitAny_cons (b := true) (kit_ty (kt_tup (.tuple xs))) (fun z => nomatch z) (fun _ => rfl)
  | list xs => exact kitAny_cons (b := false) (kit_ty (kt_tup (.list xs))) (fun _ => kitAny_cons (b := true) (kit_ty (kt_lst (.list xs))) (fun z => nomatch z) (fun _ => rfl)) (fun z => nomatch z)
  | none => exact kitAny_cons (b := false) (kit_ty (kt_tup .none)) (fun _ => kitAny_cons (b := false) (kit_ty (kt_lst .none)) (fun _ => kitAny_nil) (fun z => nomatch z)) (fun z => nomatch z)
  | bool x => exact kitAny_cons (b := false) (kit_ty (kt_tup (.bool x))) (fun _ => kitAny_cons (b := false) (kit_ty (kt_lst (.bool x))) (fun _ => kitAny_nil) (fun z => nomatch z)) (fun z => nomatch z)
  | int x => exact kitAny_cons (b := false) (kit_ty (kt_tup (.int x))) (fun _ => kitAny_cons (b := false) (kit_ty (kt_lst (.int x))) (fun _ => kitAny_nil) (fun z => nomatch z)) (fun z => nomatch z)
  | str x => exact kitAny_cons (b := false) (kit_ty (kt_tup (.str x))) (fun _ => kitAny_cons (b := false) (kit_ty (kt_lst (.str x))) (fun _ => kitAny_nil) (fun z => nomatch z)) (fun z => nomatch z)
  | dict x => exact kitAny_cons (b := false) (kit_ty (kt_tup (.dict x))) (fun _ => kitAny_cons (b := false) (kit_ty (kt_lst (.dict x))) (fun _ => kitAny_nil) (fun z => nomatch z)) (fun z => nomatch z)
theorem Da.ty {K : PySem.W.Frag} {av : Addr → Prop} {H : Hp} {v : V} {d : PyData} (h : Da av H v d) : TyX K H v (.type (tyN d)) := by
  cases h with
  | non => exact .base .non
  | bl b => exact .base (.bl b)
  | int i => exact .base (.int i)
  | str x => exact .base (.str x)
  | lst _ e _ _ => exact .base (.lst e)
  | tup _ e _ _ => exact .base (.tup e)
  | dc0 _ e => exact .base (.dK e)
  | dc1 _ e => exact .base (.dK e)
theorem Da.non_iff {av : Addr → Prop} {H : Hp} {v : V} {d : PyData} (h : Da av H v d) : decide (v = .non) = (match d with | .none => true | _ => false) := by
  cases h with
  | non => rfl
  | _ => exact decide_eq_false (fun z => nomatch z)
/-! ### repr of the dicts that the laws draw -/
theorem shows0 : (PyData.dict []).shown.length ≤ sizeLine := by decide +kernel
theorem shows1 : (PyData.dict [(.int 0, .int 1)]).shown.length ≤ sizeLine := by decide +kernel
section
variable {X : Cx}
def rRepr : List V → Hp → VK → Prop := fun xs H Q => ∃ (av : Addr → Prop) (v : V) (kvs : List (PyData × PyData)), xs = [v] ∧ Da av H v (.dict kvs) ∧ Q (.str (PyData.dict kvs).shown) H
theorem call_reprD (hg : X.A.guards = some []) (hu : X.A.units + 64 < cLine) : CallR X (.builtin "repr") rRepr := by
  intro pins s σ H xs us Q I r h
  obtain ⟨av, v, kvs, rfl, hd, q⟩ := h
  obtain ⟨u, rfl, rx⟩ := vals1 r
  cases hd with
  | @dc0 a _ e =>
    cases rx
    obtain ⟨_, hsys, vs, kv, o, es, ep, ho, hex, hdt, _, prs, _⟩ := (show ObjOk X.prog X.w H s.heap a (.dK []) from I.hok a _ e)
    cases kv
    have rd : Reads s.heap (.ref a) (.dict []) [a] := by
      have el : es.toList = [] := by cases hh : es.toList with
        | nil => rfl
        | cons _ _ => rw [hh] at prs; cases prs
      exact Reads.dict (as := []) (bs := []) ho hex.1 hdt (by rw [el]; exact .nil) (by rw [el]; exact .nil)
    exact repr_of_reads' rd (by decide +kernel) (fun _ z => by rw [List.mem_singleton.mp z] at hsys; simp at hsys) hg (by show X.A.units + (PyData.depthKv [] + 1 + 1) < cLine; show X.A.units + (0 + 1 + 1) < cLine; omega) (fun _ _ z => z) (fun h' u tk k => ⟨.str (PyData.dict []).shown, H, I.kept (t' := tk) k, ⟨u, rfl⟩, q⟩) shows0
  | @dc1 a _ e =>
    cases rx
    obtain ⟨_, hsys, vs, kv, o, es, ep, ho, hex, hdt, _, prs, _⟩ := (show ObjOk X.prog X.w H s.heap a (.dK [(Sum.inl 0, V.int 1)]) from I.hok a _ e)
    cases kv with
    | @cons p qv l1 l2 hh tt =>
      cases tt
      obtain ⟨e1, t1, e2⟩ := hh
      obtain ⟨qk, qw⟩ := qv
      have e1' : qk = Sum.inl 0 := e1.symm
      have e2' : qw = Value.int 1 t1 := e2
      subst e1' e2'
      have rd : Reads s.heap (.ref a) (.dict [(.int 0, .int 1)]) [a] := by
        cases hl : es.toList with
        | nil => rw [hl] at prs; cases prs
        | cons en er =>
          rw [hl] at prs
          cases prs with
          | cons z1 z2 z3 =>
            cases z3
            obtain ⟨tk, z1'⟩ := Value.isInt_shape (k := 0) (v := en.key) z1
            refine Reads.dict (as := []) (bs := []) ho hex.1 hdt ?_ ?_
            · rw [hl]
              show ReadsAll s.heap [en.key] [.int 0] ([] ++ [])
              rw [z1']
              exact .cons (.int 0 tk) .nil
            · rw [hl]
              show ReadsAll s.heap [en.val] [.int 1] ([] ++ [])
              rw [z2]
              exact .cons (.int 1 t1) .nil
      exact repr_of_reads' rd (by decide +kernel) (fun _ z => by rw [List.mem_singleton.mp z] at hsys; simp at hsys) hg (by show X.A.units + (PyData.depthKv [(.int 0, .int 1)] + 1 + 1) < cLine; show X.A.units + (0 + 1 + 1) < cLine; omega) (fun _ _ z => z) (fun h' u tk k => ⟨.str (PyData.dict [(.int 0, .int 1)]).shown, H, I.kept (t' := tk) k, ⟨u, rfl⟩, q⟩) shows1
end
/-! ### zip of two tuples, as a walk -/
theorem walk_zipT {K : PySem.W.Frag} {a b : Addr} {xs ys : List V} {n : Nat} (hn : n = min xs.length ys.length) : Walk (RZ.ItzT K a b) n (fun H => SqT K H a xs ∧ SqT K H b ys) (YPair (fun i => xs[i]?) (fun i => ys[i]?)) := by
  subst hn
  refine ⟨fun i _ hi z => ⟨xs, ys, xs[i]'(by omega), ys[i]'(by omega), z.1, z.2, by simp [show i < xs.length by omega], by simp [show i < ys.length by omega]⟩, fun _ z => ⟨xs, ys, z.1, z.2, by omega⟩, fun i H v H' _ z y => ?_⟩
  obtain ⟨T, x1, x2, g1, g2, g3, g4, g5⟩ := y
  exact ⟨T, x1, x2, g1, g2, g3, g4 xs z.1, g5 ys z.2⟩
/-! ### sameness, as the laws ask it -/
mutual
def sameD : PyData → PyData → Bool
  | .tuple ds, .tuple es => sameA ds es
  | .list ds, .list es => sameA ds es
  | .none, .none => true
  | .str x, .str y => decide (x = y)
  | .bool a, .bool b => decide (a = b)
  | .int i, .int j => decide (i = j)
  | .dict a, .dict b => decide ((PyData.dict a).shown = (PyData.dict b).shown)
  | _, _ => false
def sameA : List PyData → List PyData → Bool
  | [], [] => true
  | d :: ds, e :: es => sameD d e && sameA ds es
  | _, _ => false
end
mutual
theorem sameD_refl : ∀ d : PyData, sameD d d = true
  | .none => by simp [sameD]
  | .bool b => by simp [sameD]
  | .int i => by simp [sameD]
  | .str x => by simp [sameD]
  | .list ds => by simp [sameD, sameA_refl ds]
  | .tuple ds => by simp [sameD, sameA_refl ds]
  | .dict a => by simp [sameD]
theorem sameA_refl : ∀ ds : List PyData, sameA ds ds = true
  | [] => by simp [sameA]
  | d :: ds => by simp [sameA, sameD_refl d, sameA_refl ds]
end
/-- the answers at each place -/
def sameL : List PyData → List PyData → List Bool
  | d :: ds, e :: es => sameD d e :: sameL ds es
  | _, _ => []
theorem sameL_len : ∀ (ds es : List PyData), (sameL ds es).length = min ds.length es.length
  | [], _ => by simp [sameL]
  | _ :: _, [] => by simp [sameL]
  | _ :: ds, _ :: es => by simp [sameL, sameL_len ds es]
theorem sameL_get : ∀ (ds es : List PyData) (i : Nat) (d e : PyData), ds[i]? = some d → es[i]? = some e → (sameL ds es)[i]? = some (sameD d e)
  | [], _, _, _, _, h, _ => by simp at h
  | _ :: _, [], _, _, _, _, h => by simp at h
  | a :: ds, b :: es, 0, d, e, h, h2 => by simp at h h2; simp [sameL, h, h2]
  | a :: ds, b :: es, i + 1, d, e, h, h2 => by simp at h h2; simp [sameL, sameL_get ds es i d e h h2]
theorem sameA_eq : ∀ (ds es : List PyData), sameA ds es = (decide (ds.length = es.length) && (sameL ds es).all id)
  | [], [] => by simp [sameA, sameL]
  | [], _ :: _ => by simp [sameA]
  | _ :: _, [] => by simp [sameA]
  | d :: ds, e :: es => by
    simp only [sameA, sameL, sameA_eq ds es, List.length_cons, List.all_cons, id]
    by_cases h : ds.length = es.length
    · simp [h]
    · simp [h]
end Kd

set_option Elab.async false
set_option linter.all false
set_option maxRecDepth 100000
set_option maxHeartbeats 4000000
/-! Displays of data: an expression that makes a datum anew. -/
namespace Kd
open PySem PySem.Spec PyProof.Rows L2 Kg
def trk (H : Hp) : Addr → Prop := fun a => H a ≠ none
theorem trk_mono {H H' : Hp} (s : Same H H') : ∀ a, trk H a → trk H' a := fun a h z => h (s.free z)
theorem Keep.free {ds : Addr → Prop} {H H' : Hp} (k : Keep ds H H') (d : ∀ a, ds a → H' a ≠ none) {a : Addr} (h : H' a = none) : H a = none := by
  cases q : H a with
  | none => rfl
  | some o =>
    by_cases z : ds a
    · exact absurd h (d a z)
    · rw [k a o q z] at h; exact nomatch h
theorem pe_imp {X : Cx} {e : Expr} {t t' : TE} (h : PE X e t) (i : ∀ σ H Q, t' σ H Q → t σ H Q) : PE X e t' := ⟨fun pins s σ H Q I z => h.run pins s σ H Q I (i σ H Q z)⟩
theorem pa_imp {X : Cx} {es : List Expr} {t t' : TA} (h : PA X es t) (i : ∀ σ H Q, t' σ H Q → t σ H Q) : PA X es t' := ⟨fun pos pins s σ H Q I z => h.run pos pins s σ H Q I (i σ H Q z)⟩
/-- a datum, made anew -/
def tDat (d : PyData) : TE := fun _ H Q => ∀ v H', Same H H' → Da (trk H) H' v d → Q v H'
def tDats (ds : List PyData) : TA := fun _ H Q => ∀ vs H', Same H H' → DaAll (trk H) H' vs ds → Q vs H'
section
variable {X : Cx}
theorem pd_non {j pos} : PE X (.Constant .none j pos) (tDat .none) := pe_imp pe_non fun _ H _ z => z _ H (Same.refl H) .non
theorem pd_bl {b : Bool} {j pos} : PE X (.Constant (.bool b) j pos) (tDat (.bool b)) := pe_imp pe_bl fun _ H _ z => z _ H (Same.refl H) (.bl b)
theorem pd_int {i : Int} {j pos} : PE X (.Constant (.int i) j pos) (tDat (.int i)) := pe_imp pe_int fun _ H _ z => z _ H (Same.refl H) (.int i)
theorem pd_str {x : Str} {j pos} : PE X (.Constant (.str x) j pos) (tDat (.str x)) := pe_imp pe_str fun _ H _ z => z _ H (Same.refl H) (.str x)
theorem pd_neg {i : Int} {j p pos} : PE X (.UnaryOp .USub (.Constant (.int i) j p) pos) (tDat (.int (-i))) := pe_imp (pe_un un_neg pe_int) fun _ H _ z => ⟨i, rfl, z _ H (Same.refl H) (.int (-i))⟩
theorem pd_pow {a b : Int} {j p j2 p2 pos} (h : CPow a b) : PE X (.BinOp (.Constant (.int a) j p) .Pow (.Constant (.int b) j2 p2) pos) (tDat (.int (a ^ b.toNat))) := pe_imp (pe_op op_pow pe_int pe_int) fun _ H _ z => ⟨a, b, rfl, rfl, h, z _ H (Same.refl H) (.int (a ^ b.toNat))⟩
theorem pds_nil : PA X [] (tDats []) := pa_imp pa_nil fun _ H _ z => z _ H (Same.refl H) .nil
theorem pds_cons {e : Expr} {es : List Expr} {d : PyData} {ds : List PyData} (h : PE X e (tDat d)) (r : PA X es (tDats ds)) (hs : starEach (e :: es) X.env = (false, eval e X.env) :: starEach es X.env := by rfl) : PA X (e :: es) (tDats (d :: ds)) :=
  pa_imp (pa_cons h r hs) fun _ H _ z v H1 s1 hv vs H2 s2 hvs => z _ H2 (s1.trans s2) (.cons (hv.same s2) (hvs.sub (trk_mono s1)))
theorem pd_tup {es : List Expr} {ds : List PyData} {x1} {pos : Pos} (h : PA X es (tDats ds)) (hl : ds.length ≤ 1000 := by decide) : PE X (.Tuple es x1 pos) (tDat (.tuple ds)) :=
  pe_imp (pe_tup h) fun _ H _ z vs H1 s1 hvs => ⟨by rw [hvs.length]; exact Nat.le_of_lt (small1000 hl), fun p np => z _ _ (s1.trans (same_new np)) (.tup (fun c => c (s1.free np)) upd_same (by rw [hvs.length]; exact hl) (hvs.keep (.of_same (same_new np))))⟩
theorem pd_lst {es : List Expr} {ds : List PyData} {pos : Pos} (h : PA X es (tDats ds)) (hl : ds.length ≤ 1000 := by decide) : PE X (.List es pos) (tDat (.list ds)) :=
  pe_imp (pe_lst h) fun _ H _ z vs H1 s1 hvs => ⟨by rw [hvs.length]; exact Nat.le_of_lt (small1000 hl), fun p np => z _ _ (s1.trans (same_new np)) (.lst (fun c => c (s1.free np)) upd_same (by rw [hvs.length]; exact hl) (hvs.keep (.of_same (same_new np))))⟩
theorem pd_d0 {pos : Pos} : PE X (.Dict [] [] pos) (tDat (.dict [])) := pe_imp pe_dnewK fun _ H _ z p np => z _ _ (same_new np) (.dc0 (fun c => c np) upd_same)
theorem pd_d1 {j p j2 p2 pos} : PE X (.Dict [some (.Constant (.int 0) j p)] [.Constant (.int 1) j2 p2] pos) (tDat (.dict [(.int 0, .int 1)])) := by
  refine pe_imp (pe_disp (pps_cons pe_int pe_int pps_nil) (by rfl) (by rfl) (fun z => by cases z) (show 1 ≤ 15 by decide)) fun σ H Q z p np => ?_
  refine ⟨upd_same, [(Sum.inl 0, V.int 1)], rfl, by decide, ?_⟩
  refine z _ _ (fun b o e => ?_) (.dc1 (fun c => c np) (upd_same.trans ?_))
  · rw [upd_ne (ne_of_none e np), upd_ne (ne_of_none e np)]; exact e
  · rfl
end
/-! ### what is tracked stands apart from what is not -/
mutual
theorem Da.apart {av bv : Addr → Prop} {H : Hp} (k : ∀ a, bv a → H a = none) : ∀ {v : V} {d : PyData}, Da av H v d → Da bv H v d
  | _, _, .non => .non
  | _, _, .bl b => .bl b
  | _, _, .int i => .int i
  | _, _, .str x => .str x
  | _, _, .lst _ h l r => .lst (fun z => nomatch (k _ z).symm.trans h) h l (DaAll.apart k r)
  | _, _, .tup _ h l r => .tup (fun z => nomatch (k _ z).symm.trans h) h l (DaAll.apart k r)
  | _, _, .dc0 _ h => .dc0 (fun z => nomatch (k _ z).symm.trans h) h
  | _, _, .dc1 _ h => .dc1 (fun z => nomatch (k _ z).symm.trans h) h
theorem DaAll.apart {av bv : Addr → Prop} {H : Hp} (k : ∀ a, bv a → H a = none) : ∀ {vs : List V} {ds : List PyData}, DaAll av H vs ds → DaAll bv H vs ds
  | _, _, .nil => .nil
  | _, _, .cons h r => .cons (Da.apart k h) (DaAll.apart k r)
end
/-! ### displays that lean on something that stays -/
def Stays (pre : L2.St → Hp → Prop) : Prop := ∀ σ H H', Same H H' → pre σ H → pre σ H'
def tDatP (pre : L2.St → Hp → Prop) (d : PyData) : TE := fun σ H Q => pre σ H ∧ ∀ v H', Same H H' → Da (trk H) H' v d → Q v H'
def tDatsP (pre : L2.St → Hp → Prop) (ds : List PyData) : TA := fun σ H Q => pre σ H ∧ ∀ vs H', Same H H' → DaAll (trk H) H' vs ds → Q vs H'
section
variable {X : Cx} {pre : L2.St → Hp → Prop}
theorem pdp_of {e : Expr} {d : PyData} (h : PE X e (tDat d)) : PE X e (tDatP pre d) := pe_imp h fun _ _ _ z => z.2
theorem pdps_nil : PA X [] (tDatsP pre []) := pa_imp pds_nil fun _ _ _ z => z.2
theorem pdps_cons {e : Expr} {es : List Expr} {d : PyData} {ds : List PyData} (st : Stays pre) (h : PE X e (tDatP pre d)) (r : PA X es (tDatsP pre ds)) (hs : starEach (e :: es) X.env = (false, eval e X.env) :: starEach es X.env := by rfl) : PA X (e :: es) (tDatsP pre (d :: ds)) :=
  pa_imp (pa_cons h r hs) fun σ H _ z => ⟨z.1, fun v H1 s1 hv => ⟨st σ H H1 s1 z.1, fun vs H2 s2 hvs => z.2 _ H2 (s1.trans s2) (.cons (hv.same s2) (hvs.sub (trk_mono s1)))⟩⟩
theorem pdp_tup {es : List Expr} {ds : List PyData} {x1} {pos : Pos} (h : PA X es (tDatsP pre ds)) (hl : ds.length ≤ 1000 := by first | decide | simp) : PE X (.Tuple es x1 pos) (tDatP pre (.tuple ds)) :=
  pe_imp (pe_tup h) fun _ H _ z => ⟨z.1, fun vs H1 s1 hvs => ⟨by rw [hvs.length]; exact Nat.le_of_lt (small1000 hl), fun p np => z.2 _ _ (s1.trans (same_new np)) (.tup (fun c => c (s1.free np)) upd_same (by rw [hvs.length]; exact hl) (hvs.keep (.of_same (same_new np))))⟩⟩
theorem pdp_lst {es : List Expr} {ds : List PyData} {pos : Pos} (h : PA X es (tDatsP pre ds)) (hl : ds.length ≤ 1000 := by first | decide | simp) : PE X (.List es pos) (tDatP pre (.list ds)) :=
  pe_imp (pe_lst h) fun _ H _ z => ⟨z.1, fun vs H1 s1 hvs => ⟨by rw [hvs.length]; exact Nat.le_of_lt (small1000 hl), fun p np => z.2 _ _ (s1.trans (same_new np)) (.lst (fun c => c (s1.free np)) upd_same (by rw [hvs.length]; exact hl) (hvs.keep (.of_same (same_new np))))⟩⟩
end
end Kd

set_option Elab.async false
set_option linter.all false
set_option maxRecDepth 100000
set_option maxHeartbeats 4000000
/-! repr of data, at any depth. -/
namespace Kd
open PySem PySem.Spec PyProof.Rows L2 Kg
section
variable {X : Cx} {pins : List (Addr × Obj)} {σ : L2.St} {H : Hp} {s : Shared}
theorem reads0 {P : Program} {w : World} {a : Addr} (ok : HOk P w H s.heap) (e : H a = some (.dK [])) : Reads s.heap (.ref a) (.dict []) [a] := by
  obtain ⟨_, hsys, vs, kv, o, es, ep, ho, hex, hdt, _, prs, _⟩ := (show ObjOk P w H s.heap a (.dK []) from ok a _ e)
  cases kv
  have el : es.toList = [] := by cases hh : es.toList with
    | nil => rfl
    | cons _ _ => rw [hh] at prs; cases prs
  exact Reads.dict (as := []) (bs := []) ho hex.1 hdt (by rw [el]; exact .nil) (by rw [el]; exact .nil)
theorem reads1 {P : Program} {w : World} {a : Addr} (ok : HOk P w H s.heap) (e : H a = some (.dK [(Sum.inl 0, V.int 1)])) : Reads s.heap (.ref a) (.dict [(.int 0, .int 1)]) [a] := by
  obtain ⟨_, hsys, vs, kv, o, es, ep, ho, hex, hdt, _, prs, _⟩ := (show ObjOk P w H s.heap a (.dK [(Sum.inl 0, V.int 1)]) from ok a _ e)
  cases kv with
  | @cons p qv l1 l2 hh tt =>
    cases tt
    obtain ⟨e1, t1, e2⟩ := hh
    obtain ⟨qk, qw⟩ := qv
    have e1' : qk = Sum.inl 0 := e1.symm
    have e2' : qw = Value.int 1 t1 := e2
    subst e1' e2'
    cases hl : es.toList with
    | nil => rw [hl] at prs; cases prs
    | cons en er =>
      rw [hl] at prs
      cases prs with
      | cons z1 z2 z3 =>
        cases z3
        obtain ⟨tk, z1'⟩ := Value.isInt_shape (k := 0) (v := en.key) z1
        refine Reads.dict (as := []) (bs := []) ho hex.1 hdt ?_ ?_
        · rw [hl]
          show ReadsAll s.heap [en.key] [.int 0] ([] ++ [])
          rw [z1']
          exact .cons (.int 0 tk) .nil
        · rw [hl]
          show ReadsAll s.heap [en.val] [.int 1] ([] ++ [])
          rw [z2]
          exact .cons (.int 1 t1) .nil
mutual
theorem Da.reads {P : Program} {w : World} (ok : HOk P w H s.heap) {av : Addr → Prop} : ∀ {v : V} {d : PyData}, Da av H v d → ∀ u, RelV v u → ∃ as, Reads s.heap u d as ∧ ∀ a ∈ as, H a ≠ none
  | _, _, .non, u, r => by cases (show u = Value.none from r); exact ⟨[], .none, fun a z => nomatch z⟩
  | _, _, .bl b, u, r => by cases (show u = Value.bool b from r); exact ⟨[], .bool b, fun a z => nomatch z⟩
  | _, _, .int i, u, r => by obtain ⟨t, rfl⟩ := r; exact ⟨[], .int i t, fun a z => nomatch z⟩
  | _, _, .str x, u, r => by obtain ⟨t, rfl⟩ := r; exact ⟨[], .str x t, fun a z => nomatch z⟩
  | _, _, .lst (a := a) (xs := xs) n h z q, u, r => by
    cases (show u = Value.ref a from r)
    obtain ⟨_, its, m, rv, hg⟩ := (show ObjOk P w H s.heap a (.lst xs) from ok a _ h)
    obtain ⟨as, h1, h2⟩ := DaAll.reads ok q its rv
    refine ⟨a :: as, .list hg rfl rfl (by simpa using h1), fun b hb => ?_⟩
    rcases List.mem_cons.mp hb with y | y
    · rw [y, h]; simp
    · exact h2 b y
  | _, _, .tup (a := a) (xs := xs) n h z q, u, r => by
    cases (show u = Value.ref a from r)
    obtain ⟨_, its, rv, o, ho, hc, m, hd⟩ := (show ObjOk P w H s.heap a (.tup xs) from ok a _ h)
    obtain ⟨as, h1, h2⟩ := DaAll.reads ok q its rv
    exact ⟨as, .tuple ho hc hd (by simpa using h1), h2⟩
  | _, _, .dc0 (a := a) n h, u, r => by
    cases (show u = Value.ref a from r)
    exact ⟨[a], reads0 ok h, fun b hb => by rw [List.mem_singleton.mp hb, h]; simp⟩
  | _, _, .dc1 (a := a) n h, u, r => by
    cases (show u = Value.ref a from r)
    exact ⟨[a], reads1 ok h, fun b hb => by rw [List.mem_singleton.mp hb, h]; simp⟩
theorem DaAll.reads {P : Program} {w : World} (ok : HOk P w H s.heap) {av : Addr → Prop} : ∀ {vs : List V} {ds : List PyData}, DaAll av H vs ds → ∀ us, Vals vs us → ∃ as, ReadsAll s.heap us ds as ∧ ∀ a ∈ as, H a ≠ none
  | _, _, .nil, us, r => by cases r; exact ⟨[], .nil, fun a z => nomatch z⟩
  | _, _, .cons h q, us, r => by
    cases r with
    | cons r1 r2 =>
      obtain ⟨as, h1, h2⟩ := Da.reads ok h _ r1
      obtain ⟨bs, h3, h4⟩ := DaAll.reads ok q _ r2
      refine ⟨as ++ bs, .cons h1 h3, fun a ha => ?_⟩
      rcases List.mem_append.mp ha with y | y
      · exact h2 a y
      · exact h4 a y
end
def rReprA : List V → Hp → VK → Prop := fun xs H Q => ∃ (av : Addr → Prop) (a : Addr) (d : PyData), xs = [.ref a] ∧ Da av H (.ref a) d ∧ d.showable = true ∧ d.depth ≤ 60 ∧ d.shown.length ≤ sizeLine ∧ Q (.str d.shown) H
theorem call_reprA (hg : X.A.guards = some []) (hu : X.A.units + 64 < cLine) (hs : ∃ o, X.base.get? sysModules = some o) : CallR X (.builtin "repr") rReprA := by
  intro pins s σ H xs us Q I r h
  obtain ⟨av, a, d, rfl, hd, sh, dp, ln, q⟩ := h
  obtain ⟨u, rfl, rx⟩ := vals1 r
  cases rx
  obtain ⟨as, h1, h2⟩ := Da.reads I.hok hd (.ref a) rfl
  obtain ⟨o, ho⟩ := hs
  have hn := (I.bs _ _ ho).2
  exact repr_of_reads' h1 sh (fun _ z => h2 _ z hn) hg (by omega) (fun _ _ z => z) (fun h' u tk k => ⟨.str d.shown, H, I.kept (t' := tk) k, ⟨u, rfl⟩, q⟩) ln
end
end Kd

set_option Elab.async false
set_option linter.all false
set_option maxRecDepth 100000
set_option maxHeartbeats 4000000
/-! Further rules: enumerate of a tuple, extend by a tuple, set of a list of ints. -/
namespace Kr
open PySem PySem.Spec PyProof.Rows L2 Kg Kd
/-! ### xs.extend(t), t a tuple -/
theorem ext_tup (l b : Addr) (xs ys : Array Value) (n m : Nat) (dd : Option Addr) (sl : Array (Option Value)) (c0 : ¬(!xs.isEmpty && Builtin.List.listTooLong (xs.size + ys.size)) = true) (c1 : xs.size ≤ sizeLine) (c2 : xs.size + ys.size ≤ sizeLine + 1) :
    Meets (Builtin.«list.extend» ⟨[.ref l, .ref b], []⟩) (fun _ R s => s.heap.get? l = some { cls := .type "list", dict := none, data := .seq xs n, slots := #[] } ∧ s.heap.get? b = some ⟨.type "tuple", dd, .seq ys m, sl⟩ ∧
      R (.ok (.ret Value.none)) { s with heap := s.heap.update l (Obj.mapSeq fun x => x ++ ys), toks := s.toks }) := by
  refine .of_wp fun prog w A R s z => ?_
  obtain ⟨h0, g, d, tk, os⟩ := s
  obtain ⟨zl, zb, z⟩ := z
  have f1 := AutoSeq1.idx_int
  have f2 := AutoSeq1.sub_tuple_tuple
  have f3 := AutoSeq1.sub_list_list
  have f4 := AutoSeq1.sub_tuple_list
  have f5 := AutoSeq1.sub_list_tuple
  have big : (xs ++ ys).size ≤ sizeLine + 1 := by rw [Array.size_append]; exact c2
  wp_walk using (wpAny_updateSeq zl rfl (hz := c1) (_hz' := big)), wpAny_loadPart' zl, wpAny_loadPart' zb
  exact ⟨_, rfl, z⟩
section
variable {X : Cx}
def rExtT (K : PySem.W.Frag) : V → List V → Hp → VK → Prop := fun x vs H Q => ∃ l b xs zs, x = .ref l ∧ vs = [.ref b] ∧ H l = some (.lst xs) ∧ SqT K H b zs ∧ xs.length + zs.length ≤ sizeLine ∧ Q .non (upd H l (.lst (xs ++ zs)))
theorem mt_extT : MtM X "list.extend" (rExtT X.K) := by
  intro pins s σ H x vs v us Q I rx rv h
  obtain ⟨l, b, xs, zs, rfl, rfl, hH, hB, hz, q⟩ := h
  cases rx
  obtain ⟨u, rfl, ru⟩ := rv.one
  cases ru
  obtain ⟨z, its, n, r, hl, e⟩ := I.lstM hH
  obtain ⟨its2, r2, ⟨ob, e2, c2, m, d2⟩, z2⟩ := I.tuple hB
  obtain ⟨oc, od, dt, sl⟩ := ob
  have c2' : oc = .type "tuple" := c2
  have d2' : dt = .seq its2.toArray m := d2
  subst c2' d2'
  have l2 := r2.length
  have fit : its.toArray.size + its2.toArray.size ≤ sizeLine := by rw [List.size_toArray, List.size_toArray]; omega
  refine call_meets F.slot_list_extend ⟨_, e, rfl⟩ F.entry_list_extend (F.args_list_extend_2 _ _) (ext_tup l b its.toArray its2.toArray n m od sl (by rw [notLongL fit, Bool.and_false]; exact Bool.false_ne_true) (by rw [List.size_toArray]; omega) (by omega)) ⟨e, e2, ?_⟩
  exact ⟨.non, _, I.lset (its' := its ++ its2) hH e (by simp) (r.append r2) (by rw [List.length_append]; exact hz), rfl, q⟩
end
/-! ### enumerate(t), t a tuple -/
theorem enum_new {v : Value} {o : Obj} {H : Heap → Prop} (B : Begins v o H) :
    Meets (Builtin.«enumerate.__new__» ⟨[.type "enumerate", v], []⟩) (fun _ R s => H s.heap ∧
      R (.ok (.ret (.ref (s.heap.push o).objs.size))) { s with heap := (s.heap.push o).push { cls := .type "enumerate", data := .fields #[.none, .bool false, .ref s.heap.objs.size, rawInt 0, .none, .none] } }) := by
  refine .of_wp fun prog w A R s z => ?_
  obtain ⟨h0, g, d, tk, os⟩ := s
  obtain ⟨z1, z⟩ := z
  have hsub := sub_enumerate
  have it : ∀ {A' : Around} {E : Value → Shared → Prop} {Q : Value → Shared → Prop}, Q (.ref h0.objs.size) ⟨h0.push o, g, d, tk, os⟩ → wpAny (model prog w) A' (pyIter v) Q E ⟨h0, g, d, tk, os⟩ := fun q => B.iter prog w _ _ ⟨h0, g, d, tk, os⟩ _ z1 q
  wp_walk using it
  refine wpAny_stack_any fun st => wpAny_pure ?_
  split
  · rename_i c _ _ _ _ _
    cases (c == Value.type "enumerate")
    · (wp_walk using it); exact ⟨_, rfl, z⟩
    · (wp_walk using it); exact ⟨_, rfl, z⟩
  · (wp_walk using it); exact ⟨_, rfl, z⟩
theorem call_enumT {prog : Program} {w : World} {A : Around} {E : Value → Shared → Prop} {s : Shared} {t : Addr} {items : Array Value} {Q : Value → Shared → Prop} (ht : s.heap.IsTuple t items)
    (h : ∀ h', IsEnum h' (s.heap.objs.size + 1) s.heap.objs.size 0 .none → h'.IsTupleIter s.heap.objs.size t 0 → h'.objs.size = s.heap.objs.size + 2 → (∀ b o, s.heap.get? b = some o → h'.get? b = some o) → Q (.ref (s.heap.objs.size + 1)) { s with heap := h' }) :
    wpAny (model prog w) A (call (.type "enumerate") [.ref t]) Q E s := by
  refine callType_new F.called_enumerate (by decide) (F.typeCall_enumerate_1 _) (F.newCall_enumerate_1 _) (fun obj => F.args_object_init_2 obj _) F.entry_enumerate_new (enum_new (begins_tuple t items)) ⟨ht, ?_⟩
  have sz : (s.heap.push { cls := .type "tuple_iterator", data := .fields #[.ref t, .int 0 0] }).objs.size = s.heap.objs.size + 1 := Heap.size_push ..
  show _ ∧ _
  rw [sz]
  have at1 := Heap.get?_push_size (s.heap.push { cls := .type "tuple_iterator", data := .fields #[.ref t, .int 0 0] }) (o := { cls := .type "enumerate", data := .fields #[.none, .bool false, .ref s.heap.objs.size, rawInt 0, .none, .none] }) rfl
  rw [sz] at at1
  exact ⟨⟨_, at1, rfl⟩, h _ at1 ⟨_, Heap.get?_push_of_some _ (Heap.get?_push_size _ rfl), rfl, rfl⟩ (by rw [Heap.size_push, sz]) fun b o z => Heap.get?_push_of_some _ (Heap.get?_push_of_some _ z)⟩
/-- the tuple at a, each item in a new pair -/
def IteT (K : PySem.W.Frag) (a : Addr) : It where
  go := fun i H => ∃ (xs : List V) (x : V), SqT K H a xs ∧ xs[i]? = some x
  yld := fun i H v H' => ∃ T x, v = .ref T ∧ H T = none ∧ H' = upd H T (.tup [.int (i : Nat), x]) ∧ ∀ xs, SqT K H a xs → xs[i]? = some x
  stop := fun i H => ∃ xs : List V, SqT K H a xs ∧ xs.length = i
theorem turn_enumT {P : Program} {w : World} {K : PySem.W.Frag} {elts : List Expr} {kk : Nat} {tp : Pos} (a e it : Addr) (hae : a ≠ e) (hai : a ≠ it) (hei : e ≠ it) :
    Turn P w K (.Tuple elts kk tp) (IteT K a) [e, it] e (fun i h => (∃ old, IsEnum h e it ((i : Nat) : Int) old) ∧ h.IsTupleIter it a i) where
  mem := by simp
  obj := fun i h st b hb => by
    obtain ⟨⟨old, z1⟩, ⟨o, z2, z3, z4⟩⟩ := st
    cases hb with
    | head => exact ⟨_, z1, fun v q => nomatch q⟩
    | tail _ hb =>
      rw [List.mem_singleton.mp hb]
      exact ⟨o, z2, fun v q => by rw [z4] at q; exact nomatch q⟩
  keep := fun i h h' st k => by
    obtain ⟨⟨old, z1⟩, z2⟩ := st
    exact ⟨⟨old, k e (by simp) _ z1⟩, z2.at fun o q => k it (by simp) o q⟩
  item := by
    intro X e1 e2 e3 hc i pins s σ H E I hf st hg
    subst e1 e2 e3
    obtain ⟨⟨old, z1⟩, z2⟩ := st
    obtain ⟨xs, x, hq, hx⟩ := hg
    obtain ⟨its, rv, p, _⟩ := I.tuple hq
    obtain ⟨u, hu, ru⟩ := rv.get hx
    have lt : i < its.toArray.size := by
      rw [List.size_toArray, ← rv.length]
      exact (List.getElem?_eq_some_iff.mp hx).1
    have le : e < s.heap.objs.size := Heap.lt_size z1
    have li : it < s.heap.objs.size := by
      obtain ⟨_, z, _⟩ := z2
      exact Heap.lt_size z
    have D := Draws.tuple (prog := X.prog) (w := X.w) (A := X.A.in1) (I.ok.hd hc) it a hai its.toArray
    refine wpAny_pyNext_enum_itemD D z1 ⟨z2, p⟩ lt hei (by simp [hei, hae.symm]) fun x' h' tk px out st' new sz k => ?_
    have ex : x' = u := by
      have q : its.toArray[i]? = some u := by simpa using hu
      exact Option.some.inj (px.symm.trans q)
    subst ex
    refine ⟨_, rfl, wpAny_letOwnedTupleGo_enum (s := { s with heap := h', toks := tk + 1 }) out fun h'' z3 sb => ?_⟩
    have new2 : h''.get? s.heap.objs.size = some { cls := .type "tuple", data := .seq #[.int i tk, x'] } := (sb.2 _ (Nat.ne_of_gt le)).trans new
    have J : Inv X pins σ (upd H s.heap.objs.size (.tup [.int (i : Nat), x])) { s with heap := h'', toks := tk + 1 } :=
      I.turnedNew (ch := [e, it]) (fun b ob hb q => (sb.2 b (fun z => hb (by simp [z]))).trans (k b ob (fun z => hb (by simp [z])) (fun z => hb (by simp [z])) q)) hf (Nat.le_refl _)
        ⟨(show 2 ≤ sizeLine by decide), [.int i tk, x'], .cons ⟨_, rfl⟩ (.cons ru .nil), ⟨_, new2, rfl, _, rfl⟩⟩
    refine ⟨.ref s.heap.objs.size, _, J, rfl, ⟨_, x, rfl, I.hok.fresh (Nat.le_refl _), rfl, fun ys hy => by rw [I.tuple_inj hy hq]; exact hx⟩, ⟨⟨x', ?_⟩, st'.1.at fun o q => (sb.2 it hei.symm).trans q⟩, fun b hb => ?_⟩
    · rw [show ((i + 1 : Nat) : Int) = (i : Int) + 1 by omega]; exact z3
    · have lb : b < s.heap.objs.size := by
        cases hb with
        | head => exact le
        | tail _ hb => rw [List.mem_singleton.mp hb]; exact li
      rw [upd_ne (Nat.ne_of_lt lb)]
      exact (hf b hb).1
  done := by
    intro X e1 e2 e3 hc i pins s σ H E I hf st hg
    subst e1 e2 e3
    obtain ⟨⟨old, z1⟩, z2⟩ := st
    obtain ⟨xs, hq, hx⟩ := hg
    obtain ⟨its, rv, p, _⟩ := I.tuple hq
    have D := Draws.tuple (prog := X.prog) (w := X.w) (A := X.A.in1) (I.ok.hd hc) it a hai its.toArray
    have ei : i = its.toArray.size := by rw [List.size_toArray, ← rv.length, hx]
    rw [ei] at z2
    obtain ⟨f0, f1, f2, f3, f4, f5⟩ := hf it (by simp)
    exact wpAny_pyNext_enum_endD D z1 ⟨z2, p⟩ fun h' eb => ⟨rfl, I.turned (t' := s.toks) (fun b o hb q => eb b o hb q) f0 f1 f3 f4 f5⟩
  self := fun A i s Q E st h => by
    obtain ⟨⟨_, z⟩, _⟩ := st
    exact wpAny_pyIter_enum z h
def iEnumT (K : PySem.W.Frag) (ta : TA) : TI := fun σ H R => ta σ H fun vs H1 => ∃ a xs, vs = [.ref a] ∧ SqT K H1 a xs ∧ R (IteT K a) H1
theorem pi_enumT {X : Cx} {e : Expr} {ta : TA} {p pos tp : Pos} {elts : List Expr} {kk : Nat} (hg : Gl X "enumerate") (hm : X.mg "enumerate" = none) (ha : PA X [e] ta) (hs : starEach [e] X.env = [(false, eval e X.env)] := by rfl) :
    PI X (.Tuple elts kk tp) (.Call (.Name "enumerate" p) [e] [] pos) (iEnumT X.K ta) := by
  refine ⟨fun pins s σ H R I h => Call_ (ld_blt I hg hm boot_enumerate (PyProof.Rows.callWith_type1 (thn (ha.run pos pins s σ H _ I h) fun us s1 ⟨vs, H1, I1, r1, a, xs, ex, hq, q⟩ => ?_) hs rfl))⟩
  subst ex
  obtain ⟨u, rfl, ru⟩ := vals1 r1
  cases ru
  obtain ⟨its, rv, p', _⟩ := I1.tuple hq
  have la : a < s1.heap.objs.size := by
    obtain ⟨_, z, _⟩ := p'
    exact Heap.lt_size z
  refine call_enumT (show s1.heap.IsTuple a its.toArray from p') fun h' he hi sz k => wpAny_pyIter_enum he ?_
  refine ⟨s1.heap.objs.size + 1, [s1.heap.objs.size + 1, s1.heap.objs.size], _, _, H1, rfl, I1.kept (t' := s1.toks) k, turn_enumT a (s1.heap.objs.size + 1) s1.heap.objs.size (Nat.ne_of_lt (Nat.lt_succ_of_lt la)) (Nat.ne_of_lt la) (Nat.succ_ne_self _), ⟨⟨.none, he⟩, hi⟩, fun b hb => ?_, q⟩
  have ge : s1.heap.objs.size ≤ b := by
    cases hb with
    | head => exact Nat.le_succ _
    | tail _ hb => rw [List.mem_singleton.mp hb]; exact Nat.le_refl _
  exact I1.fpOk ge (I1.hok.fresh ge)
theorem walk_enumT {K : PySem.W.Frag} {a : Addr} {xs : List V} : Walk (IteT K a) xs.length (fun H => SqT K H a xs) (YPair (fun i => some (.int (i : Nat))) (fun i => xs[i]?)) := by
  refine ⟨fun i _ hi z => ⟨xs, xs[i], z, by simp [hi]⟩, fun _ z => ⟨xs, z, rfl⟩, fun i H v H' _ z y => ?_⟩
  obtain ⟨T, x, g1, g2, g3, g4⟩ := y
  exact ⟨T, .int (i : Nat), x, g1, g2, g3, rfl, g4 xs z⟩
end Kr

set_option Elab.async false
set_option linter.all false
set_option maxRecDepth 100000
set_option maxHeartbeats 4000000
/-! set(xs) of a list of ints. -/
namespace Kr
open PySem PySem.Spec PyProof.Rows L2 Kg Kd
abbrev emp (w : World) : Obj := { cls := .type "set", dict := none, data := .set #[] 0 (.fresh 0 0 (!w.params.followText "set-order")) }
section
variable {P : Program} {w : World} {A : Around} {E : Value → Shared → Prop} {s : Shared}
/-- the filling of the new set from a list -/
theorem set_fill {l : Addr} {items : Array Value} {ns : List Int} {R : Result → Shared → Prop} (hh : A.handled = none) (hl : s.heap.IsList l items) (hi : IntsAre items.toList ns) (hb : ns.length + 1 < scanBound)
    (h : ∀ h' tk c, SetR w h' s.heap.objs.size (fun j => decide (j ∈ ns)) c → c ≤ ns.length → (∀ b o, s.heap.get? b = some o → h'.get? b = some o) → R (.ok (.ret .none)) { s with heap := h', toks := tk }) :
    codeAny (model P w) A (.builtin "set.update.loop" ⟨[.ref s.heap.objs.size, .ref (s.heap.objs.size + 1)], []⟩) R { s with heap := (s.heap.push (emp w)).push { cls := .type "list_iterator", data := .fields #[.ref l, .int 0 0] } } := by
  have sz : items.size = ns.length := by rw [← Array.length_toList]; exact IntsAre.length hi
  obtain ⟨ol, zl, zc, nl, zd⟩ := hl
  have ll : l < s.heap.objs.size := Heap.lt_size zl
  have at1 : (s.heap.push (emp w)).get? s.heap.objs.size = some (emp w) := Heap.get?_push_size _ rfl
  have s1 : (s.heap.push (emp w)).objs.size = s.heap.objs.size + 1 := Heap.size_push ..
  have at2 := Heap.get?_push_size (s.heap.push (emp w)) (o := { cls := .type "list_iterator", data := .fields #[.ref l, .int 0 0] }) rfl
  rw [s1] at at2
  have keepL : ∀ b o, s.heap.get? b = some o → ((s.heap.push (emp w)).push { cls := .type "list_iterator", data := .fields #[.ref l, .int 0 0] }).get? b = some o := fun b o z => Heap.get?_push_of_some _ (Heap.get?_push_of_some _ z)
  have val : ∀ (i : Nat) (v : Value), items[i]? = some v → ∃ k t, ns[i]? = some k ∧ v = .int k t := by
    intro i v z
    have lt : i < ns.length := sz ▸ (Array.getElem?_eq_some_iff.mp z).1
    obtain ⟨t, e⟩ := IntsAre.int_at hi i v (by rw [Array.getElem?_toList]; exact z)
    rw [List.getD_eq_getElem?_getD, List.getElem?_eq_getElem lt] at e
    exact ⟨ns[i], t, List.getElem?_eq_getElem lt, e⟩
  have W := (Walks.list (prog := P) (w := w) (A := A.in1) hh (s.heap.objs.size + 1) l (Nat.ne_of_lt (Nat.lt_succ_of_lt ll)) items).toS
  have nS : s.heap.objs.size ∉ [s.heap.objs.size + 1, l] := by
    intro z
    rcases List.mem_cons.mp z with z | z
    · exact Nat.ne_of_lt (Nat.lt_succ_self _) z
    · exact Nat.ne_of_gt ll (List.mem_singleton.mp z)
  refine set_update_ints W s.heap.objs.size nS ns sz hb val (items.size - 0) 0 { s with heap := (s.heap.push (emp w)).push { cls := .type "list_iterator", data := .fields #[.ref l, .int 0 0] } } rfl (Nat.zero_le _)
    ⟨⟨_, at2, rfl, rfl⟩, ⟨ol, keepL l ol zl, zc, nl, zd⟩⟩ ⟨0, Nat.le_refl 0, setR_new_at (Heap.get?_push_of_some _ at1)⟩ fun s' c mv hc hS => ?_
  obtain ⟨h', g', d', t', o'⟩ := s'
  have e1 : g' = s.gens := mv.gens
  have e2 : d' = s.drawn := mv.drawn
  have e3 : o' = s.os := mv.os
  subst e1 e2 e3
  refine h h' t' c hS (by omega) fun b o z => mv.heap b o (fun y => ?_) (keepL b o z)
  have lb := Heap.lt_size z
  rcases List.mem_cons.mp y with y | y
  · exact Nat.ne_of_lt lb y
  · exact Nat.ne_of_lt (Nat.lt_succ_of_lt lb) (List.mem_singleton.mp y)
set_option maxHeartbeats 3200000 in
theorem call_setL {l : Addr} {items : Array Value} {ns : List Int} {Q : Value → Shared → Prop} (hh : A.handled = none) (hl : s.heap.IsList l items) (hi : IntsAre items.toList ns) (hb : ns.length + 1 < scanBound)
    (h : ∀ h' tk c, SetR w h' s.heap.objs.size (fun j => decide (j ∈ ns)) c → c ≤ ns.length → (∀ b o, s.heap.get? b = some o → h'.get? b = some o) → Q (.ref s.heap.objs.size) { s with heap := h', toks := tk }) :
    wpAny (model P w) A (call (.type "set") [.ref l]) Q E s := by
  obtain ⟨c0, tl, mro⟩ := F.called_set.mro
  have made := F.called_set.made
  have sub0 := F.called_set.sub
  have nt := F.called_set.notType
  have cc := F.called_set.canCreate
  have tc := F.typeCall_set_1 (.ref l)
  refine wpAny_call (codeAny_of_tree ?_)
  show wpAny _ _ (callAny (.type "set") _) _ _ _
  refine wpAny_pure ⟨Code.quiet_builtin _ (by decide +kernel), codeAny_builtin F.entry_type_call ?_⟩
  rw [Around.under_plain (weight_type_call_type "set" [.ref l] []) rfl]
  repeat (any_goals (first | assumption | wp_step))
  refine codeAny_mono (code_set_led1 (.ref l) (E := E) (Q₁ := fun ob s₁ => ob = .ref s.heap.objs.size ∧ s₁ = { s with heap := s.heap.push (emp w) }) ⟨rfl, rfl⟩) fun r s₁ hr => ?_
  match r, hr with
  | .error e, hr => exact hr
  | .ok .next, hr => exact hr.elim
  | .ok .brk, hr => exact hr.elim
  | .ok .cont, hr => exact hr.elim
  | .ok (.ret ob), hr =>
    obtain ⟨rfl, rfl⟩ := hr
    have at1 : (s.heap.push (emp w)).get? s.heap.objs.size = some (emp w) := Heap.get?_push_size _ rfl
    have ty : Shared.TypeIs { s with heap := s.heap.push (emp w) } (.ref s.heap.objs.size) "set" := ⟨_, at1, rfl⟩
    have il := F.called_set.init.lookup
    have ib := F.called_set.init.bind (.ref s.heap.objs.size)
    repeat (any_goals (first | assumption | wp_step))
    refine codeAny_mono (codeAny_call_builtin (R := wants (fun r s₂ => r = .none ∧ ∃ h' tk c, s₂ = { s with heap := h', toks := tk } ∧ SetR w h' s.heap.objs.size (fun j => decide (j ∈ ns)) c ∧ c ≤ ns.length ∧ ∀ b o, s.heap.get? b = some o → h'.get? b = some o) E)
      F.called_set.init.plain F.entry_set_init (check_set_init_1 ty ?_)) fun r₂ s₂ hr₂ => ?_
    · obtain ⟨⟨oc, od, dt, sl⟩, zl, zc, nl, zd⟩ := id hl
      have zc' : oc = .type "list" := zc
      have zd' : dt = .seq items nl := zd
      subst zc' zd'
      have zl' : (s.heap.push (emp w)).get? l = some { cls := .type "list", dict := od, data := .seq items nl, slots := sl } := Heap.get?_push_of_some _ zl
      have n1 := F.sub_list_set
      have n2 := F.sub_list_frozenset
      have n3 : (Value.type "list" == Value.type "dict") = false := by decide
      unfold Builtin.«set.__init__» noKeywords Builtin.Frozenset.updateFrom
      generalize hPI : pyIter = PI
      wp_walk
      subst hPI
      refine wpAny_pyIter_list (items := items) ⟨_, zl', rfl, nl, rfl⟩ ?_
      refine wpAny_bind (wpAny_runValue ?_)
      have e1 : (s.heap.push (emp w)).objs.size = s.heap.objs.size + 1 := Heap.size_push ..
      rw [e1]
      refine set_fill (s := s) (hh := by simp [hh]) hl hi hb fun h' tk c hS hc hk => ?_
      show wpAny _ _ _ _ _ _
      exact wpAny_pure (wpAny_pure ⟨rfl, h', tk, c, rfl, hS, hc, hk⟩)
    · match r₂, hr₂ with
      | .error e, hr₂ => exact hr₂
      | .ok .next, hr₂ => exact hr₂.elim
      | .ok .brk, hr₂ => exact hr₂.elim
      | .ok .cont, hr₂ => exact hr₂.elim
      | .ok (.ret _), hr₂ =>
        obtain ⟨rfl, h', tk, c, rfl, hS, hc, hk⟩ := hr₂
        repeat (any_goals (first | assumption | wp_step))
        exact h _ _ _ hS hc hk
end
/-- set(xs): a list or a tuple of ints -/
def rSetI (K : PySem.W.Frag) (w : World) : List V → Hp → VK → Prop := fun xs H Q => ∃ (l : Addr) (ns : List Int), xs = [.ref l] ∧ (SqL K H l (ns.map V.int) ∨ SqT K H l (ns.map V.int)) ∧ ns.length ≤ 1000 ∧
  ∀ p c, H p = none → c ≤ ns.length → Q (.ref p) (upd H p (SetO w p (fun j => decide (j ∈ ns)) c))
theorem cr_setI {X : Cx} (hc : X.calm = true) : CallR X (.type "set") (rSetI X.K X.w) := by
  intro pins s σ H xs us Q I r h
  obtain ⟨l, ns, rfl, hq, hl, q⟩ := h
  obtain ⟨u, rfl, ru⟩ := vals1 r
  cases ru
  have room : ns.length + 1 < scanBound := by unfold scanBound; omega
  have fin : ∀ (h' : Heap) (tk c : Nat), SetR X.w h' s.heap.objs.size (fun j => decide (j ∈ ns)) c → c ≤ ns.length → (∀ b o, s.heap.get? b = some o → h'.get? b = some o) → EP X pins σ Q (.ref s.heap.objs.size) { s with heap := h', toks := tk } := by
    intro h' tk c hS hc hk
    exact ⟨.ref s.heap.objs.size, _, I.laid (t' := tk) hk (Nat.le_refl _) (setO_new hS), rfl, q _ c (I.hok.fresh (Nat.le_refl _)) hc⟩
  rcases hq with hq | hq
  · obtain ⟨its, rv, p, _⟩ := I.list hq
    exact call_setL (I.ok.hd hc) p.isList (by simpa using RZ.intsAre_vals rv) room fin
  · obtain ⟨its, rv, p, _⟩ := I.tuple hq
    exact call_set_tupI ns (I.ok.hd hc) (show s.heap.IsTuple l its.toArray from p) (by simpa using RZ.intsAre_vals rv) room fin
end Kr

set_option Elab.async false
set_option linter.all false
set_option maxRecDepth 100000
set_option maxHeartbeats 4000000
/-! Things that never change once they stand: tuples, made objects. -/
namespace Kf
open PySem PySem.Spec PyProof.Rows L2 Kg Kd
/-- what never changes -/
def Fz : HO → Prop
  | .tup _ => True
  | .ins _ _ _ => True
  | .own _ => True
  | _ => False
/-- all tuples and objects stand as they were -/
def KF (H H' : Hp) : Prop := ∀ a o, H a = some o → Fz o → H' a = some o
theorem KF.refl (H : Hp) : KF H H := fun _ _ h _ => h
theorem KF.trans {H H1 H2 : Hp} (a : KF H H1) (b : KF H1 H2) : KF H H2 := fun c o h f => b c o (a c o h f) f
theorem KF.of_same {H H' : Hp} (s : Same H H') : KF H H' := fun c o h _ => s c o h
theorem KF.put {H : Hp} {l : Addr} {o u : HO} (h : H l = some o) (n : ¬ Fz o) : KF H (upd H l u) := fun a x e f => by
  rw [upd_ne (fun z => n (by rw [z, h] at e; rw [Option.some.inj e]; exact f))]; exact e
theorem KF.putL {H : Hp} {l : Addr} {xs : List V} {u : HO} (h : H l = some (.lst xs)) : KF H (upd H l u) := KF.put h (fun z => z)
theorem KF.new {H : Hp} {l : Addr} {u : HO} (h : H l = none) : KF H (upd H l u) := .of_same (same_new h)
theorem KF.tup {H H' : Hp} (k : KF H H') {a : Addr} {xs : List V} (h : H a = some (.tup xs)) : H' a = some (.tup xs) := k a _ h trivial
theorem KF.ins {H H' : Hp} (k : KF H H') {a C dx : Addr} {fs : List (Str × V)} (h : H a = some (.ins C dx fs)) : H' a = some (.ins C dx fs) := k a _ h trivial
mutual
inductive Tu (H : Hp) : V → PyData → Prop
  | non : Tu H .non .none
  | bl (b : Bool) : Tu H (.bl b) (.bool b)
  | int (i : Int) : Tu H (.int i) (.int i)
  | str (x : Str) : Tu H (.str x) (.str x)
  | tup {a : Addr} {xs : List V} {ds : List PyData} : H a = some (.tup xs) → xs.length ≤ 1000 → TuAll H xs ds → Tu H (.ref a) (.tuple ds)
inductive TuAll (H : Hp) : List V → List PyData → Prop
  | nil : TuAll H [] []
  | cons {v : V} {vs : List V} {d : PyData} {ds : List PyData} : Tu H v d → TuAll H vs ds → TuAll H (v :: vs) (d :: ds)
end
mutual
theorem Tu.keep {H H' : Hp} (k : KF H H') : ∀ {v : V} {d : PyData}, Tu H v d → Tu H' v d
  | _, _, .non => .non
  | _, _, .bl b => .bl b
  | _, _, .int i => .int i
  | _, _, .str x => .str x
  | _, _, .tup h z r => .tup (k.tup h) z (TuAll.keep k r)
theorem TuAll.keep {H H' : Hp} (k : KF H H') : ∀ {vs : List V} {ds : List PyData}, TuAll H vs ds → TuAll H' vs ds
  | _, _, .nil => .nil
  | _, _, .cons h r => .cons (Tu.keep k h) (TuAll.keep k r)
end
theorem Tu.same {H H' : Hp} {v : V} {d : PyData} (h : Tu H v d) (k : Same H H') : Tu H' v d := h.keep (.of_same k)
mutual
theorem Tu.da {H : Hp} : ∀ {v : V} {d : PyData}, Tu H v d → Da Kd.nil H v d
  | _, _, .non => .non
  | _, _, .bl b => .bl b
  | _, _, .int i => .int i
  | _, _, .str x => .str x
  | _, _, .tup h z r => .tup (fun z => z) h z (TuAll.da r)
theorem TuAll.da {H : Hp} : ∀ {vs : List V} {ds : List PyData}, TuAll H vs ds → DaAll Kd.nil H vs ds
  | _, _, .nil => .nil
  | _, _, .cons h r => .cons (Tu.da h) (TuAll.da r)
end
mutual
theorem Tu.dp {K : PySem.W.Frag} {H : Hp} : ∀ {v : V} {d : PyData}, Tu H v d → Dp K H v d
  | _, _, .non => .non
  | _, _, .bl b => .bl b
  | _, _, .int i => .int i
  | _, _, .str x => .str x
  | _, _, .tup h z r => .tup (SqT.of h) (TuAll.dp r)
theorem TuAll.dp {K : PySem.W.Frag} {H : Hp} : ∀ {vs : List V} {ds : List PyData}, TuAll H vs ds → DpAll K H vs ds
  | _, _, .nil => .nil
  | _, _, .cons h r => .cons (Tu.dp h) (TuAll.dp r)
end
theorem TuAll.length {H : Hp} : ∀ {vs : List V} {ds : List PyData}, TuAll H vs ds → vs.length = ds.length
  | _, _, .nil => rfl
  | _, _, .cons _ r => congrArg (· + 1) (TuAll.length r)
theorem TuAll.get {H : Hp} : ∀ {vs : List V} {ds : List PyData} {i : Nat} {v : V}, TuAll H vs ds → vs[i]? = some v → ∃ d, ds[i]? = some d ∧ Tu H v d
  | _, _, _, _, .nil, e => by simp at e
  | _, _, 0, _, .cons h _, e => ⟨_, rfl, by simp at e; rw [← e]; exact h⟩
  | _, _, i + 1, v, .cons _ r, e => by
    obtain ⟨d, h1, h2⟩ := TuAll.get (i := i) (v := v) r (by simpa using e)
    exact ⟨d, by simpa using h1, h2⟩
theorem TuAll.get' {H : Hp} : ∀ {vs : List V} {ds : List PyData} {i : Nat} {d : PyData}, TuAll H vs ds → ds[i]? = some d → ∃ v, vs[i]? = some v ∧ Tu H v d
  | _, _, _, _, .nil, e => by simp at e
  | _, _, 0, _, .cons h _, e => ⟨_, rfl, by simp at e; rw [← e]; exact h⟩
  | _, _, i + 1, d, .cons _ r, e => by
    obtain ⟨d, h1, h2⟩ := TuAll.get' (i := i) (d := d) r (by simpa using e)
    exact ⟨d, by simpa using h1, h2⟩
theorem TuAll.append {H : Hp} : ∀ {vs us : List V} {ds es : List PyData}, TuAll H vs ds → TuAll H us es → TuAll H (vs ++ us) (ds ++ es)
  | _, _, _, _, .nil, h => h
  | _, _, _, _, .cons a r, h => .cons a (TuAll.append r h)
/-! ### numbers -/
def iV (n : Nat) : V := .int (n : Nat)
def iD (n : Nat) : PyData := .int (n : Nat)
/-- a tuple of kinds, as data -/
def pdI (l : List Nat) : PyData := .tuple (l.map iD)
/-- elders, as data -/
def pdE (es : List (List Nat)) : PyData := .tuple (es.map pdI)
theorem tus_ints {H : Hp} : ∀ l : List Nat, TuAll H (l.map iV) (l.map iD)
  | [] => .nil
  | n :: l => .cons (.int (n : Nat)) (tus_ints l)
theorem tus_inv {H : Hp} : ∀ {l : List Nat} {vs : List V}, TuAll H vs (l.map iD) → vs = l.map iV
  | [], _, .nil => rfl
  | n :: l, _, .cons h r => by
    cases h
    rw [tus_inv r]; rfl
theorem tu_ints {H : Hp} {a : Addr} {l : List Nat} (h : H a = some (.tup (l.map iV))) (hl : l.length ≤ 1000) : Tu H (.ref a) (pdI l) := .tup h (by rw [List.length_map]; exact hl) (tus_ints l)
theorem tu_inv {H : Hp} {v : V} {l : List Nat} (h : Tu H v (pdI l)) : ∃ a, v = .ref a ∧ H a = some (.tup (l.map iV)) ∧ l.length ≤ 1000 := by
  unfold pdI at h
  cases h with
  | @tup a xs _ h1 h2 h3 =>
    have e := tus_inv h3
    subst e
    exact ⟨a, rfl, h1, by rwa [List.length_map] at h2⟩
theorem map_iV (l : List Nat) : l.map iV = (l.map fun n => ((n : Nat) : Int)).map V.int := by rw [List.map_map]; rfl
/-! ### the order -/
theorem asc_uniq : ∀ {l m : List Nat}, l.Pairwise (· < ·) → m.Pairwise (· < ·) → (∀ x, x ∈ l ↔ x ∈ m) → l = m
  | [], [], _, _, _ => rfl
  | [], b :: m, _, _, h => absurd ((h b).mpr (List.mem_cons_self ..)) (by simp)
  | a :: l, [], _, _, h => absurd ((h a).mp (List.mem_cons_self ..)) (by simp)
  | a :: l, b :: m, hl, hm, h => by
    rw [List.pairwise_cons] at hl hm
    have e : a = b := by
      rcases List.mem_cons.mp ((h a).mp (List.mem_cons_self ..)) with z | z
      · exact z
      · rcases List.mem_cons.mp ((h b).mpr (List.mem_cons_self ..)) with y | y
        · exact y.symm
        · have := hm.1 a z; have := hl.1 b y; omega
    subst e
    congr 1
    refine asc_uniq hl.2 hm.2 fun x => ⟨fun z => ?_, fun z => ?_⟩
    · rcases List.mem_cons.mp ((h x).mp (List.mem_cons_of_mem _ z)) with y | y
      · have := hl.1 x z; omega
      · exact y
    · rcases List.mem_cons.mp ((h x).mpr (List.mem_cons_of_mem _ z)) with y | y
      · have := hm.1 x z; omega
      · exact y
theorem asc_len : ∀ {l : List Nat} {n lo : Nat}, l.Pairwise (· < ·) → (∀ x ∈ l, lo ≤ x ∧ x < n) → l.length ≤ n - lo
  | [], _, _, _, _ => by simp
  | a :: l, n, lo, hl, h => by
    rw [List.pairwise_cons] at hl
    have z := asc_len (l := l) (n := n) (lo := a + 1) hl.2 (fun x hx => ⟨hl.1 x hx, (h x (List.mem_cons_of_mem _ hx)).2⟩)
    have y := h a (List.mem_cons_self ..)
    rw [List.length_cons]; omega
theorem rg_filter {n : Nat} {p : Nat → Bool} : ((List.range n).filter p).Pairwise (· < ·) := (List.pairwise_lt_range (n := n)).filter _
/-- ints from 0 on are numbers -/
theorem to_nats : ∀ {l : List Int}, (∀ x ∈ l, 0 ≤ x) → ∃ m : List Nat, l = m.map (fun n => ((n : Nat) : Int))
  | [], _ => ⟨[], rfl⟩
  | a :: l, h => by
    obtain ⟨m, e⟩ := to_nats (l := l) (fun x hx => h x (List.mem_cons_of_mem _ hx))
    have := h a (List.mem_cons_self ..)
    exact ⟨a.toNat :: m, by rw [e, List.map_cons]; congr 1; omega⟩
theorem asc_map {m : List Nat} (h : (m.map (fun n => ((n : Nat) : Int))).Pairwise (· < ·)) : m.Pairwise (· < ·) := by
  rw [List.pairwise_map] at h
  exact h.imp (fun z => by omega)
/-! ### kinds -/
/-- whether k lies under j -/
def abv (es : List (List Nat)) (k : Nat) (j : Nat) : Bool := decide (j = k) || (es.getD k []).attach.any (fun e => if h : e.1 < k then abv es e.1 j else false)
termination_by k
theorem abv_eq (es : List (List Nat)) (k j : Nat) : abv es k j = true ↔ j = k ∨ ∃ e ∈ es.getD k [], e < k ∧ abv es e j = true := by
  rw [abv, Bool.or_eq_true, decide_eq_true_iff, List.any_eq_true]
  constructor
  · rintro (h | ⟨⟨e, he⟩, _, h2⟩)
    · exact .inl h
    · by_cases c : e < k
      · rw [dif_pos c] at h2; exact .inr ⟨e, he, c, h2⟩
      · rw [dif_neg c] at h2; exact nomatch h2
  · rintro (h | ⟨e, he, c, h2⟩)
    · exact .inl h
    · exact .inr ⟨⟨e, he⟩, List.mem_attach .., by rw [dif_pos c]; exact h2⟩
theorem abv_le (es : List (List Nat)) : ∀ k j, abv es k j = true → j ≤ k := by
  intro k
  induction k using Nat.strongRecOn with
  | _ k ih =>
    intro j h
    rcases (abv_eq es k j).mp h with h | ⟨e, _, c, h⟩
    · omega
    · have := ih e c j h; omega
/-- the kinds under which k lies -/
def lot (es : List (List Nat)) (k : Nat) : List Nat := (List.range es.length).filter (abv es k)
theorem lot_mem {es : List (List Nat)} {k j : Nat} (hk : k < es.length) : j ∈ lot es k ↔ abv es k j = true := by
  unfold lot
  rw [List.mem_filter, List.mem_range]
  exact ⟨fun h => h.2, fun h => ⟨by have := abv_le es k j h; omega, h⟩⟩
theorem lot_asc (es : List (List Nat)) (k : Nat) : (lot es k).Pairwise (· < ·) := rg_filter
theorem lot_len (es : List (List Nat)) (k : Nat) : (lot es k).length ≤ es.length := by
  unfold lot
  have := List.length_filter_le (abv es k) (List.range es.length)
  rwa [List.length_range] at this
/-- right elders -/
structure Eld (es : List (List Nat)) (sv : Bool) : Prop where
  lo : 1 ≤ es.length
  hi : es.length ≤ 6
  asc : ∀ (k : Nat) (l : List Nat), es[k]? = some l → l.Pairwise (· < ·)
  low : ∀ (k : Nat) (l : List Nat), es[k]? = some l → ∀ x ∈ l, x < k
  one : ∀ (k : Nat) (l : List Nat), es[k]? = some l → sv = false → l.length ≤ 1
/-- right closed or hollow kinds -/
structure Som (n : Nat) (l : List Nat) : Prop where
  asc : l.Pairwise (· < ·)
  low : ∀ x ∈ l, x < n
theorem Som.len {n : Nat} {l : List Nat} (h : Som n l) : l.length ≤ n := by
  have := asc_len (lo := 0) h.asc (fun x hx => ⟨Nat.zero_le _, h.low x hx⟩)
  omega
theorem Som.filter {n : Nat} {p : Nat → Bool} : Som n ((List.range n).filter p) := ⟨rg_filter, fun x hx => List.mem_range.mp (List.mem_filter.mp hx).1⟩
theorem Eld.som {es : List (List Nat)} {sv : Bool} (h : Eld es sv) {k : Nat} {l : List Nat} (e : es[k]? = some l) : Som k l := ⟨h.asc k l e, h.low k l e⟩
end Kf

set_option Elab.async false
set_option linter.all false
set_option maxRecDepth 100000
set_option maxHeartbeats 4000000
namespace Kc
open PySem PySem.Spec PyProof.Rows L2 Kg Kd
/-! ### the text -/
def topS (i : Nat) : Stmt := PySem.Challenge.pw_kindstocome_k02_kinds_made.main.body.getD i (.Pass ⟨0, 0, 0, 0⟩)
abbrev sDeck : Stmt := topS 16
abbrev sNext : Stmt := topS 17
abbrev nDeck : List Str := ["_law_script", "_law_cells", "_law_number"]
theorem scDeck : FnScope nDeck ["_law_script"] (defScope sDeck) := ⟨rfl, rfl, rfl, by decide +kernel, rfl, by decide +kernel, by decide +kernel⟩
theorem scNext : FnScope ["_law_deck_here", "_law_many", "_law_rest", "_law_turn", "_law_number", "_law_mixed"] ["_law_deck_here", "_law_many"] (defScope sNext) := ⟨rfl, rfl, rfl, by decide +kernel, rfl, by decide +kernel, by decide +kernel⟩
/-! ### heaps -/
/-- what a draw changes -/
def dk (d la : Addr) : Addr → Prop := fun a => a = d ∨ a = la
/-- a deck at d: its two lists at la and lb, its turn; b more draws may be made -/
structure DeckAt (H : Hp) (d la lb : Addr) (b : Nat) : Prop where
  ex : ∃ (xs ys : List Int) (t : Int), H d = some (.lst [.ref la, .ref lb, .int t]) ∧ H la = some (.lst (xs.map V.int)) ∧ H lb = some (.lst (ys.map V.int)) ∧ ys ≠ [] ∧ ys.length ≤ 100 ∧ 0 ≤ t ∧ t + b ≤ 1152921504606846976
  n1 : d ≠ la
  n2 : d ≠ lb
  n3 : la ≠ lb
theorem DeckAt.less {H : Hp} {d la lb : Addr} {b c : Nat} (D : DeckAt H d la lb b) (h : c ≤ b) : DeckAt H d la lb c := by
  obtain ⟨⟨xs, ys, t, h1, h2, h3, h4, h5, h6, h7⟩, n1, n2, n3⟩ := D
  exact ⟨⟨xs, ys, t, h1, h2, h3, h4, h5, h6, by omega⟩, n1, n2, n3⟩
theorem DeckAt.same {H H' : Hp} {d la lb : Addr} {b : Nat} (D : DeckAt H d la lb b) (h : Same H H') : DeckAt H' d la lb b := by
  obtain ⟨⟨xs, ys, t, h1, h2, h3, h4⟩, n1, n2, n3⟩ := D
  exact ⟨⟨xs, ys, t, h _ _ h1, h _ _ h2, h _ _ h3, h4⟩, n1, n2, n3⟩
theorem DeckAt.tracked {H : Hp} {d la lb : Addr} {b : Nat} (D : DeckAt H d la lb b) : H d ≠ none ∧ H la ≠ none ∧ H lb ≠ none := by
  obtain ⟨⟨xs, ys, t, h1, h2, h3, h4⟩, n1, n2, n3⟩ := D
  exact ⟨by rw [h1]; simp, by rw [h2]; simp, by rw [h3]; simp⟩
/-! ### promises -/
def spDeck (K : PySem.W.Frag) : Sp := fun vs H Q _ => ∃ (a : Addr) (ns : List Int), vs = [.ref a] ∧ SqL K H a (ns.map V.int) ∧ ns.length ≤ 63 ∧
  ∀ H' d la lb, Same H H' → H d = none → H la = none → H lb = none → DeckAt H' d la lb 1152921504606846976 → Q (.ref d) H'
def spNext : Sp := fun vs H Q _ => ∃ (d la lb : Addr) (m : Int) (b : Nat), vs = [.ref d, .int m] ∧ 0 < m ∧ m < 1073741824 ∧ DeckAt H d la lb (b + 1) ∧
  ∀ (v : Int) H', 0 ≤ v → v < m → DeckAt H' d la lb b → Keep (dk d la) H H' → Q (.int v) H'
theorem tk_map {α β : Type} {f : α → β} {l : List α} {i : Nat} {x : α} (h : l[i]? = some x) : (l.take (i + 1)).map f = (l.take i).map f ++ [f x] := by
  rw [List.take_add_one, h, List.map_append]; rfl
theorem map_get {α β : Type} {f : α → β} {l : List α} {i : Nat} {y : β} (h : (l.map f)[i]? = some y) : ∃ x, l[i]? = some x ∧ y = f x := by
  rw [List.getElem?_map] at h
  cases e : l[i]? with
  | none => rw [e] at h; cases h
  | some x => rw [e] at h; exact ⟨x, rfl, (Option.some.inj h).symm⟩
theorem ab_of (n : Int) : 0 ≤ (if n < 0 then -n else n) := by split <;> omega
section
variable {P : Program} {w : World} {K : PySem.W.Frag} {mg : Str → Option Value} {base : Heap}
theorem ok_deck {f : Addr} {fd : FuncData} {k : Nat} (F : Fun K "_law_deck" "_law_deck" sDeck f fd) (ma : mg "abs" = none) (ml : mg "len" = none) : FnOk P w K mg base CX0 (k + 1) f fd ["_law_script"] (spDeck K) := by
  refine F.ok scDeck (fun vs H Q E h => ?_) (fun cdv A outer s H vs Q E hr h => ?_)
  · obtain ⟨a, ns, rfl, _⟩ := h
    rfl
  · obtain ⟨a, ns, rfl, hS, hlen, q⟩ := h
    refine ⟨_, pss_cons (ps_setLc (i := 1) (own := [("_law_number", 2)]) (g := gName 2) rfl scDeck.nd rfl rfl (sw_true rfl rfl rfl (by decide +kernel)) (pi_list (pv 0))
        (blkOk_by (N := nDeck) (sc := defScope sDeck) (by decide +kernel)) (fun _ _ _ _ _ => pg_name (i := 2) scDeck.nd rfl (Or.inl rfl)) (fun _ _ _ _ _ => pts_nil)
        (fun _ _ _ _ _ => pe_callB call_abs (by rfl) ma boot_abs (pa_cons (pv 2) pa_nil)))
      (pss_one (ps_ret (pe_lst (pa_cons (pe_lc (own := [("_law_number", 2)]) (g := gName 2) rfl scDeck.nd (pi_list (pv 1)) (blkOk_by (N := nDeck) (sc := defScope sDeck) (by decide +kernel))
          (fun _ _ _ _ _ => pg_name (i := 2) scDeck.nd rfl (Or.inl rfl)) (fun _ _ _ _ _ => pts_one (pt_cmpR op_ge (pv 2) (pe_op op_pow pe_int pe_int) (nomark _))) (fun _ _ _ _ _ => pv 2))
        (pa_cons (pe_op op_cat (pv 1) (pe_lst (pa_cons (pe_op op_add (pe_callB call_len_seq (by rfl) ml PySem.boot_len (pa_cons (pv 1) pa_nil)) pe_int) pa_nil)))
        (pa_cons pe_int pa_nil)))))), ?_⟩
    -- the cells
    refine ⟨.ref a, rfl, a, rfl, ⟨_, hS⟩, fun D nD => ?_⟩
    refine lc_list (K := K) (a := a) (xs := ns.map V.int) (fun i H1 => Same H H1 ∧ H1 D = some (.lst ((ns.take i).map fun n => V.int (if n < 0 then -n else n)))) ⟨same_new nD, upd_same⟩ (fun i H1 _ p => p.1.seq hS) (fun i x H1 hx p => ?_) (fun H1 p => ?_)
    · obtain ⟨n, hn, rfl⟩ := map_get hx
      refine ⟨rfl, _, rfl, n, rfl, _, p.2, ?_, ?_, ?_⟩
      · rw [List.length_map, List.length_take]
        exact Nat.lt_of_le_of_lt (Nat.min_le_right _ _) (small1000 (by omega))
      · exact fun b o e => by rw [upd_ne (ne_of_none e nD)]; exact p.1 b o e
      · rw [upd_same, tk_map hn]
    · obtain ⟨s1, hD⟩ := p
      rw [List.length_map, List.take_length] at hD
      have hD' : H1 D = some (.lst ((ns.map fun n => if n < 0 then -n else n).map V.int)) := by rw [hD, List.map_map]; rfl
      generalize hc : (ns.map fun n : Int => if n < 0 then -n else n) = cs at hD'
      have hcl : cs.length = ns.length := by rw [← hc, List.length_map]
      -- the great ones
      refine ⟨.ref D, rfl, D, rfl, ⟨_, SqL.of hD'⟩, fun G nG => ?_⟩
      refine lc_list (K := K) (a := D) (xs := cs.map V.int) (fun i H2 => ∃ gs : List Int, gs.length ≤ i ∧ Same H1 H2 ∧ H2 G = some (.lst (gs.map V.int))) ⟨[], Nat.le_refl _, same_new nG, upd_same⟩ (fun i H2 _ p => by obtain ⟨_, _, p, _⟩ := p; exact p.seq (SqL.of hD')) (fun i x H2 hx p => ?_) (fun H2 p => ?_)
      · obtain ⟨gs, hg, s2, hG⟩ := p
        obtain ⟨n, hn, rfl⟩ := map_get hx
        have hi : i < cs.length := (List.getElem?_eq_some_iff.mp hn).1
        refine ⟨rfl, _, rfl, 10, 18, rfl, rfl, ⟨by decide, by decide, by decide⟩, n, _, rfl, rfl, _, rfl, ite2 (fun _ => ?_) (fun _ => ?_)⟩
        · refine ⟨_, rfl, _, hG, ?_, gs ++ [n], ?_, ?_, ?_⟩
          · rw [List.length_map]
            exact small1000 (by omega)
          · rw [List.length_append, List.length_singleton]; omega
          · exact fun b o e => by rw [upd_ne (ne_of_none e nG)]; exact s2 b o e
          · rw [upd_same, List.map_append]; rfl
        · exact ⟨gs, by omega, s2, hG⟩
      · obtain ⟨gs, hg, s2, hG⟩ := p
        rw [List.length_map] at hg
        have hD2 := s2 _ _ hD'
        -- the cells and one more
        refine ⟨.ref D, rfl, .ref D, rfl, D, _, rfl, .inl (SqL.of hD2), _, 5, rfl, rfl, ?_, fun l nl => ?_⟩
        · exact (show 1 ≤ sizeLine by decide)
        · have s3 : Same H2 (upd H2 l (.lst [.int (((cs.map V.int).length : Nat) + 5)])) := same_new nl
          refine ⟨D, l, _, _, rfl, rfl, s3 _ _ hD2, upd_same, ?_, fun c nc => ?_⟩
          · rw [List.length_map, List.length_singleton]
            exact Nat.le_of_lt (small1000 (by omega))
          · have s4 := same_new (o := HO.lst (cs.map V.int ++ [V.int (((cs.map V.int).length : Nat) + 5)])) nc
            refine ⟨(show 3 ≤ sizeLine by decide), fun d nd => ?_⟩
            have s5 := same_new (o := HO.lst [V.ref G, V.ref c, V.int 0]) nd
            have hG4 := s4 _ _ (s3 _ _ hG)
            refine q _ d G c (s1.trans (s2.trans (s3.trans (s4.trans s5)))) ?_ ?_ ?_ ⟨⟨gs, cs ++ [(cs.length : Int) + 5], 0, upd_same, ?_, ?_, ?_, ?_, ?_, ?_⟩, ?_, ?_, ?_⟩
            · exact (s1.trans (s2.trans (s3.trans s4))).free nd
            · exact s1.free nG
            · exact (s1.trans (s2.trans s3)).free nc
            · exact s5 _ _ hG4
            · rw [s5 _ _ upd_same, List.map_append, List.length_map]; rfl
            · intro z
              have := congrArg List.length z
              rw [List.length_append] at this
              simp at this
            · rw [List.length_append, List.length_singleton]; omega
            · exact Int.le_refl 0
            · show (0 : Int) + ((1152921504606846976 : Nat) : Int) ≤ 1152921504606846976
              decide
            · exact fun z => by rw [z, hG4] at nd; cases nd
            · exact fun z => by rw [z, upd_same] at nd; cases nd
            · exact fun z => by rw [← z, s3 _ _ hG] at nc; cases nc
end
end Kc

set_option Elab.async false
set_option linter.all false
set_option maxRecDepth 100000
set_option maxHeartbeats 4000000
namespace Kc
open PySem PySem.Spec PyProof.Rows L2 Kg Kd
section
variable {P : Program} {w : World} {K : PySem.W.Frag} {mg : Str → Option Value} {base : Heap}
theorem dp_ints {K : PySem.W.Frag} {H : Hp} : ∀ xs : List Int, DpAll K H (xs.map V.int) (xs.map PyData.int)
  | [] => .nil
  | x :: r => .cons (.int x) (dp_ints r)
theorem lay_ints : ∀ xs : List Int, PyData.canLayAll0 (xs.map PyData.int) = true
  | [] => rfl
  | x :: r => by
    show (PyData.canLay0 (.int x) && PyData.canLayAll0 (r.map PyData.int)) = true
    rw [lay_ints r]; rfl
theorem dep_ints : ∀ xs : List Int, PyData.depthAll (xs.map PyData.int) = 0
  | [] => rfl
  | x :: r => by
    show max (PyData.depth (.int x)) (PyData.depthAll (r.map PyData.int)) = 0
    rw [dep_ints r]; rfl
theorem shaped_ints (xs : List Int) : SeqAt.shaped (.list (xs.map PyData.int)) = true := by
  unfold SeqAt.shaped
  rw [Bool.and_eq_true]
  refine ⟨?_, decide_eq_true ?_⟩
  · show PyData.canLayAll0 (xs.map PyData.int) = true
    exact lay_ints xs
  · show PyData.depthAll (xs.map PyData.int) + 1 ≤ 64
    rw [dep_ints]; decide
theorem eqv_nil (xs : List Int) : PyData.eqv (.list (xs.map PyData.int)) (.list []) = xs.isEmpty := by
  cases xs with
  | nil => simp [PyData.eqv, PyData.eqvAll]
  | cons x r => simp [PyData.eqv, PyData.eqvAll]
theorem ok_next {f : Addr} {fd : FuncData} {k : Nat} (F : Fun K "_law_next" "_law_next" sNext f fd) (mi : mg "int" = none) (ml : mg "len" = none) : FnOk P w K mg base CX0 (k + 1) f fd ["_law_deck_here", "_law_many"] spNext := by
  refine F.ok scNext (fun vs H Q E h => ?_) (fun cdv A outer s H vs Q E hr h => ?_)
  · obtain ⟨d, la, lb, m, b, rfl, _⟩ := h
    rfl
  · obtain ⟨d, la, lb, m, b, rfl, hm0, hm1, D, q⟩ := h
    refine ⟨_, pss_cons (ps_while PassesOwn.never (pt_cmpR (op_neD hr.units) (pe_ix ix_list (pv 0) pe_int (fun _ _ => rfl)) (pe_lst pa_nil) (nomark _))
        (pss_cons (ps_set (i := 2) scNext.nd rfl (.inl rfl) (pe_ix ix_list (pe_ix ix_list (pv 0) pe_int (fun _ _ => rfl)) pe_int (fun _ _ => rfl)))
        (pss_cons (ps_if (pt_cmpR op_gt (pv 2) pe_int (nomark _))
            (pss_cons (ps_asg (pe_op op_fdivN (pv 2) (pv 1)) (pg_sub (pe_ix ix_list (pv 0) pe_int (fun _ _ => rfl)) pe_int set_list))
            (pss_one (ps_ret (pe_op op_mod (pe_callTy call_int1 (by rfl) mi PyProof.Rows.boot_int (pa_cons (pv 2) pa_nil)) (pv 1))))) pss_nil)
        (pss_one (ps_expr (pe_bm PySem.F.plainAttrs_list PySem.F.slot_list_pop PySem.F.type_list_pop mt_popAt (pe_ix ix_list (pv 0) pe_int (fun _ _ => rfl)) (pa_cons pe_int pa_nil)))))))
      (pss_cons (ps_asg (pe_op op_add (pe_ix ix_list (pv 0) pe_int (fun _ _ => rfl)) pe_int) (pg_sub (pv 0) pe_int set_list))
      (pss_cons (ps_set (i := 3) scNext.nd rfl (.inl rfl) (pe_ix ix_list (pv 0) pe_int (fun _ _ => rfl)))
      (pss_cons (ps_set (i := 4) scNext.nd rfl (.inl rfl) (pe_op op_mod (pe_callTy call_int1 (by rfl) mi PyProof.Rows.boot_int
          (pa_cons (pe_ix ix_list (pe_ix ix_list (pv 0) pe_int (fun _ _ => rfl)) (pe_op op_mod (pe_callTy call_int1 (by rfl) mi PyProof.Rows.boot_int (pa_cons (pv 3) pa_nil))
            (pe_callB call_len_seq (by rfl) ml PySem.boot_len (pa_cons (pe_ix ix_list (pv 0) pe_int (fun _ _ => rfl)) pa_nil))) (fun _ _ => rfl)) pa_nil)) pe_int))
      (pss_cons (ps_set (i := 5) scNext.nd rfl (.inl rfl) (pe_op op_mod (pe_callTy call_int1 (by rfl) mi PyProof.Rows.boot_int
          (pa_cons (pe_op op_add (pe_op op_add (pe_op op_mul (pv 4) (pe_op op_add pe_int (pe_op op_mul pe_int (pv 3)))) (pe_op op_mul (pe_op op_mul pe_int (pv 3)) (pv 3))) pe_int) pa_nil)) pe_int))
      (pss_one (ps_ret (pe_op op_mod (pe_op op_fdiv (pe_op op_mod (pe_callTy call_int1 (by rfl) mi PyProof.Rows.boot_int (pa_cons (pe_op op_mul (pv 5) (pv 5)) pa_nil)) pe_int) pe_int) (pv 1)))))))), ?_⟩
    obtain ⟨⟨xs, ys, t, h1, h2, h3, hy, hyl, ht0, ht⟩, n1, n2, n3⟩ := D
    refine ⟨fun n σ H1 => ∃ (xs : List Int) (y2 : Option V), n = xs.length ∧ σ = [some (.ref d), some (.int m), y2, none, none, none] ∧ H1 d = some (.lst [.ref la, .ref lb, .int t]) ∧ H1 la = some (.lst (xs.map V.int)) ∧ H1 lb = some (.lst (ys.map V.int)) ∧ Keep (dk d la) H H1,
      ⟨_, xs, none, rfl, rfl, h1, h2, h3, Keep.refl _ _⟩, ?_⟩
    rintro n σ H1 ⟨xs, y2, rfl, rfl, g1, g2, g3, kp⟩
    -- the test
    refine ⟨_, rfl, d, _, 0, .ref la, rfl, rfl, SqL.of g1, atI_nat (j := 0) rfl, (show 0 ≤ sizeLine by decide), fun e ne => ?_⟩
    have s1 : Same H1 (upd H1 e (.lst [])) := same_new ne
    have g1' := s1 _ _ g1
    have g2' := s1 _ _ g2
    have g3' := s1 _ _ g3
    refine ⟨.list (xs.map PyData.int), .list [], .lst (SqL.of g2') (dp_ints xs), .lst (SqL.of upd_same) .nil, shaped_ints xs, by decide +kernel, _, rfl, ?_⟩
    rw [eqv_nil]
    have kp' : Keep (dk d la) H (upd H1 e (.lst [])) := kp.trans (Keep.of_same s1)
    generalize (upd H1 e (.lst [])) = H2 at g1' g2' g3' kp'
    cases xs with
    | cons x r =>
      refine iteT ⟨fun σ' H' => ∃ (y2 : Option V), σ' = [some (.ref d), some (.int m), y2, none, none, none] ∧ H' d = some (.lst [.ref la, .ref lb, .int t]) ∧ H' la = some (.lst (r.map V.int)) ∧ H' lb = some (.lst (ys.map V.int)) ∧ Keep (dk d la) H H',
        fun σ' H' ⟨y2, e1, e2, e3, e4, e5⟩ => ⟨r.length, Nat.lt_succ_self _, r, y2, rfl, e1, e2, e3, e4, e5⟩, ?_⟩
      -- rest
      refine ⟨_, rfl, d, _, 0, .ref la, rfl, rfl, SqL.of g1', atI_nat (j := 0) rfl, la, _, 0, .int x, rfl, rfl, SqL.of g2', atI_nat (j := 0) rfl, ?_⟩
      refine ⟨_, rfl, x, 0, rfl, rfl, _, rfl, ite2 (fun hx => ?_) (fun hx => ?_)⟩
      · have hx' : 0 < x := of_decide_eq_true hx
        refine ⟨_, rfl, _, rfl, x, m, rfl, rfl, ⟨by omega, by omega⟩, _, rfl, d, _, 0, .ref la, rfl, rfl, SqL.of g1', atI_nat (j := 0) rfl, la, _, 0, 0, rfl, rfl, g2', by simp [ixN], ?_⟩
        refine ⟨_, rfl, .inl ⟨x, rfl, _, rfl, x, m, rfl, rfl, hm0, ?_⟩⟩
        refine q _ _ (Int.emod_nonneg _ (by omega)) (Int.emod_lt_of_pos _ hm0) ⟨⟨x.fdiv m :: r, ys, t, ?_, ?_, ?_, hy, hyl, ht0, by omega⟩, n1, n2, n3⟩ (kp'.trans (Keep.put (by simp [dk])))
        · rw [upd_ne n1]; exact g1'
        · rw [upd_same]; rfl
        · rw [upd_ne n3.symm]; exact g3'
      · refine ⟨_, rfl, d, _, 0, .ref la, rfl, rfl, SqL.of g1', atI_nat (j := 0) rfl, .inl ⟨rfl, _, SqL.of g2'⟩, la, _, 0, 0, .int x, rfl, rfl, g2', by decide, by decide, by simp [seqIndex?], rfl, ?_⟩
        refine ⟨_, rfl, ?_, ?_, ?_, kp'.trans (Keep.put (by simp [dk]))⟩
        · rw [upd_ne n1]; exact g1'
        · rw [upd_same]; rfl
        · rw [upd_ne n3.symm]; exact g3'
    | nil =>
      refine iteF ?_
      -- the turn goes on
      refine ⟨_, rfl, d, _, 2, .int t, rfl, rfl, SqL.of g1', atI_nat (j := 2) rfl, t, 1, rfl, rfl, _, rfl, d, _, 2, 2, rfl, rfl, g1', by simp [ixN], ?_⟩
      have kp3 : Keep (dk d la) H (upd H2 d (.lst [.ref la, .ref lb, .int (t + 1)])) := kp'.trans (Keep.put (by simp [dk]))
      have e1 : (upd H2 d (.lst [.ref la, .ref lb, .int (t + 1)])) d = some (.lst [.ref la, .ref lb, .int (t + 1)]) := upd_same
      have e2 : (upd H2 d (.lst [.ref la, .ref lb, .int (t + 1)])) la = some (.lst (([] : List Int).map V.int)) := by rw [upd_ne n1.symm]; exact g2'
      have e3 : (upd H2 d (.lst [.ref la, .ref lb, .int (t + 1)])) lb = some (.lst (ys.map V.int)) := by rw [upd_ne n2.symm]; exact g3'
      generalize hH : (upd H2 d (.lst [.ref la, .ref lb, .int (t + 1)])) = H3 at kp3 e1 e2 e3
      have hH' : (upd H2 d (.lst (([.ref la, .ref lb, .int t] : List V).set 2 (.int (t + 1))))) = H3 := hH
      rw [hH']
      refine ⟨_, rfl, d, _, 2, .int (t + 1), rfl, rfl, SqL.of e1, atI_nat (j := 2) rfl, ?_⟩
      have hpos : 0 < ys.length := by
        cases ys with
        | nil => exact absurd rfl hy
        | cons y r => simp
      have hj : ((t + 1) % (ys.length : Int)).toNat < ys.length := by
        have z1 := Int.emod_lt_of_pos (t + 1) (show (0 : Int) < ys.length by omega)
        have z2 := Int.emod_nonneg (t + 1) (show (ys.length : Int) ≠ 0 by omega)
        omega
      refine ⟨_, rfl, d, _, 1, .ref lb, rfl, rfl, SqL.of e1, atI_nat (j := 1) rfl, _, rfl, .inl ⟨t + 1, rfl, _, rfl, d, _, 1, .ref lb, rfl, rfl, SqL.of e1, atI_nat (j := 1) rfl, lb, _, rfl, .inl (SqL.of e3), t + 1, _, rfl, rfl, ?_,
        lb, _, _, .int ys[((t + 1) % (ys.length : Int)).toNat], rfl, rfl, SqL.of e3, ?_, .inl ⟨_, rfl, _, 2147483629, rfl, rfl, (by show (0 : Int) < 2147483629; decide), ?_⟩⟩⟩
      · rw [List.length_map]; omega
      · have z2 := Int.emod_nonneg (t + 1) (show (ys.length : Int) ≠ 0 by omega)
        rw [List.length_map]
        exact at_of (j := ((t + 1) % (ys.length : Int)).toNat) (by omega) (by rw [List.getElem?_map, List.getElem?_eq_getElem hj]; rfl)
      generalize ys[((t + 1) % (ys.length : Int)).toNat] = y0
      have b1 := Int.emod_nonneg y0 (show (2147483629 : Int) ≠ 0 by decide)
      have b2 := Int.emod_lt_of_pos y0 (show (0 : Int) < 2147483629 by decide)
      obtain ⟨nu, enu, b1, b2⟩ : ∃ nu : Int, (fun i j : Int => V.int (i % j)) y0 2147483629 = V.int nu ∧ 0 ≤ nu ∧ nu < 2147483629 := ⟨_, rfl, b1, b2⟩
      rw [enu]
      refine ⟨_, rfl, _, rfl, 68111, t + 1, rfl, rfl, .inl ⟨by decide, by decide⟩, 50331, _, rfl, rfl, nu, _, rfl, rfl, .inl ⟨by omega, by omega⟩, _, rfl, 41287, t + 1, rfl, rfl, .inl ⟨by decide, by decide⟩, _, rfl, _, t + 1, rfl, rfl, .inr ⟨by omega, by omega⟩, _, _, rfl, rfl, _, 19, rfl, rfl, .inl ⟨_, rfl, _, 2147483587, rfl, rfl, (by show (0 : Int) < 2147483587; decide), ?_⟩⟩
      generalize nu * (50331 + 68111 * (t + 1)) + 41287 * (t + 1) * (t + 1) + 19 = big
      have c1 := Int.emod_nonneg big (show (2147483587 : Int) ≠ 0 by decide)
      have c2 := Int.emod_lt_of_pos big (show (0 : Int) < 2147483587 by decide)
      obtain ⟨mi', emi, c1, c2⟩ : ∃ nu : Int, (fun i j : Int => V.int (i % j)) big 2147483587 = V.int nu ∧ 0 ≤ nu ∧ nu < 2147483587 := ⟨_, rfl, c1, c2⟩
      rw [emi]
      refine ⟨_, rfl, _, rfl, mi', mi', rfl, rfl, .inl ⟨by omega, by omega⟩, .inl ⟨_, rfl, _, 2147483579, rfl, rfl, (by show (0 : Int) < 2147483579; decide), _, 16, rfl, rfl, ⟨by decide, by decide⟩, _, rfl, _, m, rfl, rfl, hm0, ?_⟩⟩
      exact q _ _ (Int.emod_nonneg _ (by omega)) (Int.emod_lt_of_pos _ hm0) ⟨⟨[], ys, t + 1, e1, e2, e3, hy, hyl, by omega, by omega⟩, n1, n2, n3⟩ kp3
end
end Kc

set_option Elab.async false
set_option linter.all false
set_option maxRecDepth 100000
set_option maxHeartbeats 4000000
namespace Kc
open PySem PySem.Spec PyProof.Rows L2 Kg Kd
abbrev sSame : Stmt := topS 18
abbrev nSame : List Str := ["_law_found", "_law_due", "_law_one", "_law_other"]
theorem scSame : FnScope nSame ["_law_found", "_law_due"] (defScope sSame) := ⟨rfl, rfl, rfl, by decide +kernel, rfl, by decide +kernel, by decide +kernel⟩
/-- the built-in names that the laws use are the built-ins -/
structure Bl (mg : Str → Option Value) : Prop where
  abs : mg "abs" = none
  len : mg "len" = none
  int : mg "int" = none
  isi : mg "isinstance" = none
  tuple : mg "tuple" = none
  list : mg "list" = none
  str : mg "str" = none
  bool : mg "bool" = none
  dict : mg "dict" = none
  zip : mg "zip" = none
  all : mg "all" = none
  repr : mg "repr" = none
  range : mg "range" = none
def spSame (n : Nat) : Sp := fun vs H Q _ => ∃ (x y : V) (d e : PyData), vs = [x, y] ∧ Da Kd.nil H x d ∧ Da Kd.nil H y e ∧ e.depth < n ∧ ∀ H', Same H H' → Q (.bl (sameD d e)) H'
theorem dep_mem : ∀ {es : List PyData} {i : Nat} {e : PyData}, es[i]? = some e → e.depth ≤ PyData.depthAll es
  | [], i, e, h => by simp at h
  | a :: es, 0, e, h => by
    simp at h
    rw [← h]
    show a.depth ≤ max a.depth (PyData.depthAll es)
    omega
  | a :: es, i + 1, e, h => by
    have z := dep_mem (es := es) (i := i) (e := e) (by simpa using h)
    show e.depth ≤ max a.depth (PyData.depthAll es)
    omega
section
variable {P : Program} {w : World} {K : PySem.W.Frag} {mg : Str → Option Value} {base : Heap}
theorem ok_same1 {f : Addr} {fd : FuncData} {n : Nat} (F : Fun K "_law_same" "_law_same" sSame f fd) (B : Bl mg) (bS : Binds K fd ["_law_found", "_law_due"] []) (gS : mg "_law_same" = some (.ref f))
    (G : FnG P w K mg base n f fd ["_law_found", "_law_due"] (spSame n)) : FnG P w K mg base (n + 1) f fd ["_law_found", "_law_due"] (spSame (n + 1)) := by
  refine okG F scSame (fun vs H Q E h => ?_) (fun cdv A out s H vs Q hgu hr h => ?_)
  · obtain ⟨x, y, d, e, rfl, _⟩ := h
    rfl
  · obtain ⟨x, y, d, e, rfl, hx, hy, hn, q⟩ := h
    refine ⟨_, pss_cons (ps_if (pt_val (pe_callB call_isiT (by rfl) B.isi boot_isinstance (pa_cons (pv 1) (pa_cons (pe_tup (pa_cons (pe_bltn (v := .ty "tuple") (by rfl) B.tuple PyProof.Rows.boot_tuple rfl) (pa_cons (pe_bltn (v := .ty "list") (by rfl) B.list PyProof.Rows.boot_list rfl) pa_nil))) pa_nil))))
        (pss_cons (ps_if (PW.pt (pw_or (pt_cmpR op_ne (pe_callB call_isi (by rfl) B.isi boot_isinstance (pa_cons (pv 1) (pa_cons (pe_bltn (v := .ty "tuple") (by rfl) B.tuple PyProof.Rows.boot_tuple rfl) pa_nil))) (pe_callB call_isi (by rfl) B.isi boot_isinstance (pa_cons (pv 0) (pa_cons (pe_bltn (v := .ty "tuple") (by rfl) B.tuple PyProof.Rows.boot_tuple rfl) pa_nil))) (nomark _))
            (pw_or1 (pt_cmpR op_ne (pe_callB call_isi (by rfl) B.isi boot_isinstance (pa_cons (pv 1) (pa_cons (pe_bltn (v := .ty "list") (by rfl) B.list PyProof.Rows.boot_list rfl) pa_nil))) (pe_callB call_isi (by rfl) B.isi boot_isinstance (pa_cons (pv 0) (pa_cons (pe_bltn (v := .ty "list") (by rfl) B.list PyProof.Rows.boot_list rfl) pa_nil))) (nomark _)))))
          (pss_one (ps_ret pe_bl)) pss_nil)
        (pss_one (ps_ret (pe_and (pe_cmpR op_eq (pe_callB call_len_seq (by rfl) B.len PySem.boot_len (pa_cons (pv 0) pa_nil)) (pe_callB call_len_seq (by rfl) B.len PySem.boot_len (pa_cons (pv 1) pa_nil)) (nomark _))
          (pe_one (pe_callB (cr_all rfl) (by rfl) B.all boot_all (pa_cons (pe_lc (own := [("_law_one", 2), ("_law_other", 3)]) (g := gTup K 2 (gCons (gName 2) (gCons (gName 3) gNil))) rfl scSame.nd (RZ.pi_zipA (by rfl) B.zip (pa_cons (pv 0) (pa_cons (pv 1) pa_nil))) (blkOk_by (N := nSame) (sc := defScope sSame) (by decide +kernel))
            (fun _ _ _ _ _ => pg_tup rfl (pgs_cons (pg_name (i := 2) scSame.nd rfl (.inl rfl)) (pgs_cons (pg_name (i := 3) scSame.nd rfl (.inl rfl)) pgs_nil))) (fun _ _ _ _ _ => pts_nil)
            (fun _ _ _ _ _ => pe_callG G hgu hr (by rfl) gS F.kp bS (pa_cons (pv 2) (pa_cons (pv 3) pa_nil)))) pa_nil)))))))
        pss_nil)
      (pss_cons (ps_if (pt_cmpR op_isN (pv 1) pe_non (nomark _)) (pss_one (ps_ret (pe_cmpR op_isN (pv 0) pe_non (nomark _)))) pss_nil)
      (pss_cons (ps_if (pt_val (pe_callB call_isi (by rfl) B.isi boot_isinstance (pa_cons (pv 1) (pa_cons (pe_bltn (v := .ty "str") (by rfl) B.str PyProof.Rows.boot_str rfl) pa_nil))))
        (pss_one (ps_ret (pe_and (pe_callB call_isi (by rfl) B.isi boot_isinstance (pa_cons (pv 0) (pa_cons (pe_bltn (v := .ty "str") (by rfl) B.str PyProof.Rows.boot_str rfl) pa_nil))) (pe_one (pe_cmpR op_eq (pv 0) (pv 1) (nomark _)))))) pss_nil)
      (pss_cons (ps_if (PW.pt (pw_or (pt_val (pe_callB call_isi (by rfl) B.isi boot_isinstance (pa_cons (pv 1) (pa_cons (pe_bltn (v := .ty "bool") (by rfl) B.bool PyProof.Rows.boot_bool rfl) pa_nil)))) (pw_or1 (pt_val (pe_callB call_isi (by rfl) B.isi boot_isinstance (pa_cons (pv 0) (pa_cons (pe_bltn (v := .ty "bool") (by rfl) B.bool PyProof.Rows.boot_bool rfl) pa_nil)))))))
        (pss_one (ps_ret (pe_and (pe_callB call_isi (by rfl) B.isi boot_isinstance (pa_cons (pv 0) (pa_cons (pe_bltn (v := .ty "bool") (by rfl) B.bool PyProof.Rows.boot_bool rfl) pa_nil))) (pe_and (pe_callB call_isi (by rfl) B.isi boot_isinstance (pa_cons (pv 1) (pa_cons (pe_bltn (v := .ty "bool") (by rfl) B.bool PyProof.Rows.boot_bool rfl) pa_nil))) (pe_one (pe_cmpR op_eq (pv 0) (pv 1) (nomark _))))))) pss_nil)
      (pss_cons (ps_if (pt_val (pe_callB call_isi (by rfl) B.isi boot_isinstance (pa_cons (pv 1) (pa_cons (pe_bltn (v := .ty "int") (by rfl) B.int PyProof.Rows.boot_int rfl) pa_nil))))
        (pss_one (ps_ret (pe_and (pe_callB call_isi (by rfl) B.isi boot_isinstance (pa_cons (pv 0) (pa_cons (pe_bltn (v := .ty "int") (by rfl) B.int PyProof.Rows.boot_int rfl) pa_nil))) (pe_one (pe_cmpR op_eq (pv 0) (pv 1) (nomark _)))))) pss_nil)
      (pss_one (ps_ret (pe_and (pe_callB call_isi (by rfl) B.isi boot_isinstance (pa_cons (pv 1) (pa_cons (pe_bltn (v := .ty "dict") (by rfl) B.dict PyProof.Rows.boot_dict rfl) pa_nil))) (pe_and (pe_callB call_isi (by rfl) B.isi boot_isinstance (pa_cons (pv 0) (pa_cons (pe_bltn (v := .ty "dict") (by rfl) B.dict PyProof.Rows.boot_dict rfl) pa_nil)))
        (pe_one (pe_cmpR op_eq (pe_callB (call_reprD hgu hr.units) (by rfl) B.repr PyProof.Rows.boot_repr (pa_cons (pv 0) pa_nil)) (pe_callB (call_reprD hgu hr.units) (by rfl) B.repr PyProof.Rows.boot_repr (pa_cons (pv 1) pa_nil)) (nomark _))))))))))), ?_⟩
    refine ⟨y, rfl, (show 2 ≤ sizeLine by decide), fun tp ntp => ?_⟩
    have s1 : Same H (upd H tp (.tup [.ty "tuple", .ty "list"])) := same_new ntp
    have hx1 := hx.same s1
    have hy1 := hy.same s1
    refine ⟨y, tp, _, _, _, isSeq e, rfl, upd_same, .cons (.ty _) (.cons (.ty _) .nil), hy1.ty, kt_seq e, _, rfl, ?_⟩
    generalize upd H tp (.tup [.ty "tuple", .ty "list"]) = H1 at s1 hx1 hy1 ⊢
    have q1 : ∀ H', Same H1 H' → Q (.bl (sameD d e)) H' := fun H' z => q H' (s1.trans z)
    clear q hx hy s1
    have r1 := Same.refl H1
    cases e with
    | none =>
      refine iteF ⟨_, rfl, rfl, _, rfl, ?_⟩
      rw [hy1.non_iff]
      refine iteT ⟨_, rfl, rfl, ?_⟩
      rw [hx1.non_iff]
      cases d <;> exact q1 _ r1
    | str z =>
      refine iteF ⟨_, rfl, rfl, _, rfl, ?_⟩
      rw [hy1.non_iff]
      refine iteF ⟨_, rfl, _, _, _, _, true, rfl, .ty _, hy1.ty, kit_ty (kt_str _), _, rfl, iteT ?_⟩
      refine ⟨_, rfl, _, _, _, _, isStr d, rfl, .ty _, hx1.ty, kit_ty (kt_str _), _, rfl, ?_⟩
      cases hx1 with
      | str z2 =>
        cases hy1
        refine iteT ⟨_, rfl, _, rfl, rfl, ?_⟩
        have e1 : decide (V.str z2 = V.str z) = decide (z2 = z) := by
          by_cases h : z2 = z
          · rw [h]; simp
          · rw [decide_eq_false h, decide_eq_false (fun c => h (V.str.inj c))]
        rw [e1]
        exact q1 _ r1
      | _ => exact iteF (q1 _ r1)
    | bool z =>
      refine iteF ⟨_, rfl, rfl, _, rfl, ?_⟩
      rw [hy1.non_iff]
      refine iteF ⟨_, rfl, _, _, _, _, false, rfl, .ty _, hy1.ty, kit_ty (kt_str _), _, rfl, iteF ?_⟩
      refine ⟨_, rfl, _, _, _, _, true, rfl, .ty _, hy1.ty, kit_ty (kt_bool _), _, rfl, iteT (iteT ?_)⟩
      refine ⟨_, rfl, _, _, _, _, isBool d, rfl, .ty _, hx1.ty, kit_ty (kt_bool _), _, rfl, ?_⟩
      cases hx1 with
      | bl z2 =>
        refine iteT ⟨_, rfl, _, _, _, _, true, rfl, .ty _, hy1.ty, kit_ty (kt_bool _), _, rfl, iteT ?_⟩
        cases hy1
        refine ⟨_, rfl, _, rfl, rfl, ?_⟩
        have e1 : decide (V.bl z2 = V.bl z) = decide (z2 = z) := by
          by_cases h : z2 = z
          · rw [h]; simp
          · rw [decide_eq_false h, decide_eq_false (fun c => h (V.bl.inj c))]
        rw [e1]
        exact q1 _ r1
      | _ => exact iteF (q1 _ r1)
    | int z =>
      refine iteF ⟨_, rfl, rfl, _, rfl, ?_⟩
      rw [hy1.non_iff]
      refine iteF ⟨_, rfl, _, _, _, _, false, rfl, .ty _, hy1.ty, kit_ty (kt_str _), _, rfl, iteF ?_⟩
      refine ⟨_, rfl, _, _, _, _, false, rfl, .ty _, hy1.ty, kit_ty (kt_bool _), _, rfl, iteF ?_⟩
      refine ⟨_, rfl, _, _, _, _, isBool d, rfl, .ty _, hx1.ty, kit_ty (kt_bool _), _, rfl, ?_⟩
      cases hx1 with
      | bl z2 =>
        refine iteT ⟨_, rfl, _, _, _, _, true, rfl, .ty _, Da.ty (Da.bl (av := Kd.nil) z2), kit_ty (kt_bool (.bool z2)), _, rfl, iteT ?_⟩
        exact ⟨_, rfl, _, _, _, _, false, rfl, .ty _, hy1.ty, kit_ty (kt_bool _), _, rfl, iteF (q1 _ r1)⟩
      | int z2 =>
        refine iteF ⟨_, rfl, _, _, _, _, true, rfl, .ty _, hy1.ty, kit_ty (kt_int _), _, rfl, iteT ?_⟩
        refine ⟨_, rfl, _, _, _, _, true, rfl, .ty _, Da.ty (Da.int (av := Kd.nil) z2), kit_ty (kt_int (.int z2)), _, rfl, iteT ?_⟩
        cases hy1
        refine ⟨_, rfl, _, rfl, rfl, ?_⟩
        have e1 : decide (V.int z2 = V.int z) = decide (z2 = z) := by
          by_cases h : z2 = z
          · rw [h]; simp
          · rw [decide_eq_false h, decide_eq_false (fun c => h (V.int.inj c))]
        rw [e1]
        exact q1 _ r1
      | non => exact iteF ⟨_, rfl, _, _, _, _, true, rfl, .ty _, hy1.ty, kit_ty (kt_int _), _, rfl, iteT ⟨_, rfl, _, _, _, _, false, rfl, .ty _, Da.ty (Da.non (av := Kd.nil)), kit_ty (kt_int .none), _, rfl, iteF (q1 _ r1)⟩⟩
      | str z2 => exact iteF ⟨_, rfl, _, _, _, _, true, rfl, .ty _, hy1.ty, kit_ty (kt_int _), _, rfl, iteT ⟨_, rfl, _, _, _, _, false, rfl, .ty _, Da.ty (Da.str (av := Kd.nil) z2), kit_ty (kt_int (.str z2)), _, rfl, iteF (q1 _ r1)⟩⟩
      | lst a1 a2 a3 a4 => exact iteF ⟨_, rfl, _, _, _, _, true, rfl, .ty _, hy1.ty, kit_ty (kt_int _), _, rfl, iteT ⟨_, rfl, _, _, _, _, false, rfl, .ty _, Da.ty (Da.lst a1 a2 a3 a4), kit_ty (kt_int (.list _)), _, rfl, iteF (q1 _ r1)⟩⟩
      | tup a1 a2 a3 a4 => exact iteF ⟨_, rfl, _, _, _, _, true, rfl, .ty _, hy1.ty, kit_ty (kt_int _), _, rfl, iteT ⟨_, rfl, _, _, _, _, false, rfl, .ty _, Da.ty (Da.tup a1 a2 a3 a4), kit_ty (kt_int (.tuple _)), _, rfl, iteF (q1 _ r1)⟩⟩
      | dc0 a1 a2 => exact iteF ⟨_, rfl, _, _, _, _, true, rfl, .ty _, hy1.ty, kit_ty (kt_int _), _, rfl, iteT ⟨_, rfl, _, _, _, _, false, rfl, .ty _, Da.ty (Da.dc0 a1 a2), kit_ty (kt_int (.dict _)), _, rfl, iteF (q1 _ r1)⟩⟩
      | dc1 a1 a2 => exact iteF ⟨_, rfl, _, _, _, _, true, rfl, .ty _, hy1.ty, kit_ty (kt_int _), _, rfl, iteT ⟨_, rfl, _, _, _, _, false, rfl, .ty _, Da.ty (Da.dc1 a1 a2), kit_ty (kt_int (.dict _)), _, rfl, iteF (q1 _ r1)⟩⟩
    | dict z =>
      refine iteF ⟨_, rfl, rfl, _, rfl, ?_⟩
      rw [hy1.non_iff]
      refine iteF ⟨_, rfl, _, _, _, _, false, rfl, .ty _, hy1.ty, kit_ty (kt_str _), _, rfl, iteF ?_⟩
      refine ⟨_, rfl, _, _, _, _, false, rfl, .ty _, hy1.ty, kit_ty (kt_bool _), _, rfl, iteF ?_⟩
      refine ⟨_, rfl, _, _, _, _, isBool d, rfl, .ty _, hx1.ty, kit_ty (kt_bool _), _, rfl, ?_⟩
      by_cases hb : isBool d = true
      · cases d with
        | bool z2 => exact iteT ⟨_, rfl, _, _, _, _, true, rfl, .ty _, hx1.ty, kit_ty (kt_bool (.bool z2)), _, rfl, iteT ⟨_, rfl, _, _, _, _, false, rfl, .ty _, hy1.ty, kit_ty (kt_bool _), _, rfl, iteF (q1 _ r1)⟩⟩
        | _ => exact nomatch hb
      · rw [Bool.not_eq_true] at hb
        rw [hb]
        refine iteF ⟨_, rfl, _, _, _, _, false, rfl, .ty _, hy1.ty, kit_ty (kt_int _), _, rfl, iteF ?_⟩
        refine ⟨_, rfl, _, _, _, _, true, rfl, .ty _, hy1.ty, kit_ty (kt_dct _), _, rfl, iteT ?_⟩
        refine ⟨_, rfl, _, _, _, _, isDct d, rfl, .ty _, hx1.ty, kit_ty (kt_dct _), _, rfl, ?_⟩
        cases d with
        | dict z2 =>
          refine iteT ⟨_, rfl, Kd.nil, _, _, rfl, hx1, _, rfl, Kd.nil, _, _, rfl, hy1, rfl, ?_⟩
          have e1 : decide (V.str (PyData.dict z2).shown = V.str (PyData.dict z).shown) = sameD (.dict z2) (.dict z) := by
            show _ = decide ((PyData.dict z2).shown = (PyData.dict z).shown)
            by_cases h : (PyData.dict z2).shown = (PyData.dict z).shown
            · rw [h]; simp
            · rw [decide_eq_false h, decide_eq_false (fun c => h (V.str.inj c))]
          rw [e1]
          exact q1 _ r1
        | _ => exact iteF (q1 _ r1)
    | tuple es =>
      refine iteT ⟨_, rfl, _, _, _, _, true, rfl, .ty _, hy1.ty, kit_ty (kt_tup _), _, rfl, _, _, _, _, isTup d, rfl, .ty _, hx1.ty, kit_ty (kt_tup _), rfl, _, rfl, ?_⟩
      by_cases hb : isTup d = true
      · cases d with
        | tuple ds =>
          refine iteF ⟨_, rfl, _, _, _, _, false, rfl, .ty _, hy1.ty, kit_ty (kt_lst (.tuple es)), _, rfl, _, _, _, _, false, rfl, .ty _, hx1.ty, kit_ty (kt_lst (.tuple ds)), rfl, _, rfl, iteF ?_⟩
          cases hx1 with
          | @tup a xs _ na ha hal hA =>
            cases hy1 with
            | @tup b ys _ nb hb2 hbl hB =>
              refine ⟨_, rfl, a, xs, rfl, .inr (SqT.of ha), _, rfl, b, ys, rfl, .inr (SqT.of hb2), rfl, _, rfl, ?_⟩
              have l1 := hA.length
              have l2 := hB.length
              refine ite2 (fun c => ?_) (fun c => ?_)
              · have c' : xs.length = ys.length := by
                  have := V.int.inj (of_decide_eq_true c)
                  omega
                refine ⟨_, rfl, _, rfl, a, b, xs, ys, rfl, .inr ⟨SqT.of ha, SqT.of hb2, fun D nD => ?_⟩⟩
                refine lc_it (walk_zipT (n := xs.length) (by omega)) (fun i H2 => Same H1 H2 ∧ H2 D = some (.lst (((sameL ds es).take i).map V.bl))) ⟨same_new nD, upd_same⟩ (fun i H2 _ p => ⟨SqT.of (p.1 _ _ ha), SqT.of (p.1 _ _ hb2)⟩) (fun i v H2 H3 hi p yy => ?_) (fun H2 p => ?_)
                · obtain ⟨T, v1, v2, rfl, nT, rfl, f1, f2⟩ := yy
                  obtain ⟨d1, g1, k1⟩ := hA.get f1
                  obtain ⟨e1, g2, k2⟩ := hB.get f2
                  have s3 : Same H1 (upd H2 T (.tup [v1, v2])) := p.1.trans (same_new nT)
                  refine ⟨T, _, rfl, SqT.of upd_same, rfl, v1, _, rfl, v2, _, rfl, rfl, rfl, ?_⟩
                  refine ⟨_, rfl, _, rfl, v1, v2, d1, e1, rfl, k1.same s3, k2.same s3, ?_, fun H4 s4 => ⟨((sameL ds es).take i).map V.bl, ?_, ?_, ?_, ?_⟩⟩
                  · have z := dep_mem g2
                    have z2 : PyData.depthAll es + 1 < n + 1 := hn
                    omega
                  · exact s4 _ _ (same_new nT _ _ p.2)
                  · rw [List.length_map, List.length_take]
                    exact Nat.lt_of_le_of_lt (Nat.min_le_left _ _) (small1000 (by omega))
                  · exact fun bb o z => by rw [upd_ne (ne_of_none z nD)]; exact s4 _ _ (s3 _ _ z)
                  · rw [upd_same, tk_map (sameL_get ds es i d1 e1 g1 g2)]
                · have e3 : (sameL ds es).take xs.length = sameL ds es := List.take_of_length_le (by rw [sameL_len]; omega)
                  rw [e3] at p
                  refine ⟨D, _, rfl, SqL.of p.2, ?_⟩
                  have e4 : sameD (.tuple ds) (.tuple es) = (sameL ds es).all id := by
                    show sameA ds es = _
                    rw [sameA_eq, decide_eq_true (show ds.length = es.length by omega)]
                    exact Bool.true_and _
                  rw [← e4]
                  exact q1 _ p.1
              · have c' : ds.length ≠ es.length := fun z => c (decide_eq_true (congrArg V.int (by omega)))
                have e4 : sameD (.tuple ds) (.tuple es) = false := by
                  show sameA ds es = _
                  rw [sameA_eq, decide_eq_false c']
                  exact Bool.false_and _
                rw [← e4]
                exact q1 _ r1
        | _ => exact nomatch hb
      · rw [Bool.not_eq_true] at hb
        rw [hb]
        refine iteT (iteT ?_)
        have e4 : sameD d (.tuple es) = false := by
          cases d with
          | tuple ds => exact nomatch hb
          | _ => rfl
        rw [← e4]
        exact q1 _ r1
    | list es =>
      refine iteT ⟨_, rfl, _, _, _, _, false, rfl, .ty _, hy1.ty, kit_ty (kt_tup _), _, rfl, _, _, _, _, isTup d, rfl, .ty _, hx1.ty, kit_ty (kt_tup _), rfl, _, rfl, ?_⟩
      by_cases hb : isLst d = true
      · cases d with
        | list ds =>
          refine iteF ⟨_, rfl, _, _, _, _, true, rfl, .ty _, hy1.ty, kit_ty (kt_lst (.list es)), _, rfl, _, _, _, _, true, rfl, .ty _, hx1.ty, kit_ty (kt_lst (.list ds)), rfl, _, rfl, iteF ?_⟩
          cases hx1 with
          | @lst a xs _ na ha hal hA =>
            cases hy1 with
            | @lst b ys _ nb hb2 hbl hB =>
              refine ⟨_, rfl, a, xs, rfl, .inl (SqL.of ha), _, rfl, b, ys, rfl, .inl (SqL.of hb2), rfl, _, rfl, ?_⟩
              have l1 := hA.length
              have l2 := hB.length
              refine ite2 (fun c => ?_) (fun c => ?_)
              · have c' : xs.length = ys.length := by
                  have := V.int.inj (of_decide_eq_true c)
                  omega
                refine ⟨_, rfl, _, rfl, a, b, xs, ys, rfl, .inl ⟨SqL.of ha, SqL.of hb2, fun D nD => ?_⟩⟩
                refine lc_it (walk_zip (n := xs.length) (xs := xs) (ys := ys) (by omega)) (fun i H2 => Same H1 H2 ∧ H2 D = some (.lst (((sameL ds es).take i).map V.bl))) ⟨same_new nD, upd_same⟩ (fun i H2 _ p => ⟨SqL.of (p.1 _ _ ha), SqL.of (p.1 _ _ hb2)⟩) (fun i v H2 H3 hi p yy => ?_) (fun H2 p => ?_)
                · obtain ⟨T, v1, v2, rfl, nT, rfl, f1, f2⟩ := yy
                  obtain ⟨d1, g1, k1⟩ := hA.get f1
                  obtain ⟨e1, g2, k2⟩ := hB.get f2
                  have s3 : Same H1 (upd H2 T (.tup [v1, v2])) := p.1.trans (same_new nT)
                  refine ⟨T, _, rfl, SqT.of upd_same, rfl, v1, _, rfl, v2, _, rfl, rfl, rfl, ?_⟩
                  refine ⟨_, rfl, _, rfl, v1, v2, d1, e1, rfl, k1.same s3, k2.same s3, ?_, fun H4 s4 => ⟨((sameL ds es).take i).map V.bl, ?_, ?_, ?_, ?_⟩⟩
                  · have z := dep_mem g2
                    have z2 : PyData.depthAll es + 1 < n + 1 := hn
                    omega
                  · exact s4 _ _ (same_new nT _ _ p.2)
                  · rw [List.length_map, List.length_take]
                    exact Nat.lt_of_le_of_lt (Nat.min_le_left _ _) (small1000 (by omega))
                  · exact fun bb o z => by rw [upd_ne (ne_of_none z nD)]; exact s4 _ _ (s3 _ _ z)
                  · rw [upd_same, tk_map (sameL_get ds es i d1 e1 g1 g2)]
                · have e3 : (sameL ds es).take xs.length = sameL ds es := List.take_of_length_le (by rw [sameL_len]; omega)
                  rw [e3] at p
                  refine ⟨D, _, rfl, SqL.of p.2, ?_⟩
                  have e4 : sameD (.list ds) (.list es) = (sameL ds es).all id := by
                    show sameA ds es = _
                    rw [sameA_eq, decide_eq_true (show ds.length = es.length by omega)]
                    exact Bool.true_and _
                  rw [← e4]
                  exact q1 _ p.1
              · have c' : ds.length ≠ es.length := fun z => c (decide_eq_true (congrArg V.int (by omega)))
                have e4 : sameD (.list ds) (.list es) = false := by
                  show sameA ds es = _
                  rw [sameA_eq, decide_eq_false c']
                  exact Bool.false_and _
                rw [← e4]
                exact q1 _ r1
        | _ => exact nomatch hb
      · rw [Bool.not_eq_true] at hb
        have e4 : sameD d (.list es) = false := by
          cases d with
          | list ds => exact nomatch hb
          | _ => rfl
        rw [e4] at q1
        by_cases ht : isTup d = true
        · rw [ht]
          exact iteT (iteT (q1 _ r1))
        · rw [Bool.not_eq_true] at ht
          rw [ht]
          refine iteF ⟨_, rfl, _, _, _, _, true, rfl, .ty _, hy1.ty, kit_ty (kt_lst (.list es)), _, rfl, _, _, _, _, isLst d, rfl, .ty _, hx1.ty, kit_ty (kt_lst _), rfl, _, rfl, ?_⟩
          rw [hb]
          exact iteT (q1 _ r1)
theorem ok_same {f : Addr} {fd : FuncData} (F : Fun K "_law_same" "_law_same" sSame f fd) (B : Bl mg) (bS : Binds K fd ["_law_found", "_law_due"] []) (gS : mg "_law_same" = some (.ref f)) :
    ∀ n : Nat, FnG P w K mg base n f fd ["_law_found", "_law_due"] (spSame n)
  | 0 => ⟨fun vs H Q E h => by obtain ⟨x, y, d, e, _, _, _, z, _⟩ := h; exact absurd z (Nat.not_lt_zero _), fun A out s H ar us vs Q _ _ _ _ _ h => by obtain ⟨x, y, d, e, _, _, _, z, _⟩ := h; exact absurd z (Nat.not_lt_zero _)⟩
  | n + 1 => ok_same1 F B bS gS (ok_same F B bS gS n)
end
end Kc

set_option Elab.async false
set_option linter.all false
set_option maxRecDepth 100000
set_option maxHeartbeats 4000000
namespace Kc
open PySem PySem.Spec PyProof.Rows L2 Kg Kd Kr
abbrev sNum : Stmt := topS 3
abbrev sAsc : Stmt := topS 4
abbrev sEld : Stmt := topS 9
abbrev sWrE : Stmt := topS 10
abbrev sWrP : Stmt := topS 11
abbrev sTab : Stmt := topS 12
theorem scNum : FnScope ["value"] ["value"] (defScope sNum) := ⟨rfl, rfl, rfl, by decide +kernel, rfl, by decide +kernel, by decide +kernel⟩
theorem scAsc : FnScope ["value", "limit", "least", "item"] ["value", "limit"] (defScope sAsc) := ⟨rfl, rfl, rfl, by decide +kernel, rfl, by decide +kernel, by decide +kernel⟩
theorem scEld : FnScope ["value", "kind", "several"] ["value", "kind", "several"] (defScope sEld) := ⟨rfl, rfl, rfl, by decide +kernel, rfl, by decide +kernel, by decide +kernel⟩
theorem scWrE : FnScope ["elders", "several", "kind", "value"] ["elders", "several"] (defScope sWrE) := ⟨rfl, rfl, rfl, by decide +kernel, rfl, by decide +kernel, by decide +kernel⟩
theorem scWrP : FnScope ["elders", "closed", "hollow", "several", "kind"] ["elders", "closed", "hollow", "several"] (defScope sWrP) := ⟨rfl, rfl, rfl, by decide +kernel, rfl, by decide +kernel, by decide +kernel⟩
/-! ### x is not False, whatever x is -/
theorem op_notBv {X : Cx} : OpR X (compareOp .IsNot) (fun x y H Q => ∃ b : Bool, y = .bl b ∧ Q (.bl (!decide (x = .bl b))) H) := by
  intro pins s σ H x y v u Q I rx ry h
  obtain ⟨b, rfl, q⟩ := h
  cases (show u = Value.bool b from ry)
  cases x with
  | bl a =>
    cases (show v = Value.bool a from rx)
    by_cases e : a = b
    · subst e
      exact wpAny_isNot_self rfl ⟨.bl false, H, I, rfl, by simpa using q⟩
    · exact wpAny_isNot_other rfl (fun z => e (Value.bool.inj z)) ⟨.bl true, H, I, rfl, by simpa [e] using q⟩
  | non => cases (show v = Value.none from rx); exact wpAny_isNot_other rfl (fun z => nomatch z) ⟨.bl true, H, I, rfl, by simpa using q⟩
  | int i => obtain ⟨t, rfl⟩ := rx; exact wpAny_isNot_other rfl (fun z => nomatch z) ⟨.bl true, H, I, rfl, by simpa using q⟩
  | str i => obtain ⟨t, rfl⟩ := rx; exact wpAny_isNot_other rfl (fun z => nomatch z) ⟨.bl true, H, I, rfl, by simpa using q⟩
  | byt i => obtain ⟨t, rfl⟩ := rx; exact wpAny_isNot_other rfl (fun z => nomatch z) ⟨.bl true, H, I, rfl, by simpa using q⟩
  | flt i => obtain ⟨t, rfl⟩ := rx; exact wpAny_isNot_other rfl (fun z => nomatch z) ⟨.bl true, H, I, rfl, by simpa using q⟩
  | ref a => cases (show v = Value.ref a from rx); exact wpAny_isNot_other rfl (fun z => nomatch z) ⟨.bl true, H, I, rfl, by simpa using q⟩
  | ty n => cases (show v = Value.type n from rx); exact wpAny_isNot_other rfl (fun z => nomatch z) ⟨.bl true, H, I, rfl, by simpa using q⟩
/-! ### mirrors -/
def isNum (d : PyData) : Bool := isInt d && !isBool d
def asc (m : Int) : Int → List PyData → Bool
  | _, [] => true
  | l, .int i :: ds => if i < l ∨ m ≤ i then false else asc m (i + 1) ds
  | _, _ :: _ => false
def ascD (d : PyData) (m : Int) : Bool := match d with
  | .tuple ds => asc m 0 ds
  | _ => false
def lenD : PyData → Nat
  | .tuple ds => ds.length
  | _ => 0
def eldB (d : PyData) (k : Int) (sv : Bool) : Bool := ascD d k && (sv || decide (lenD d ≤ 1))
/-- sv: several is not False -/
def wrE (sv : Bool) : Nat → List PyData → Option Nat
  | _, [] => none
  | k, d :: ds => if eldB d k sv then wrE sv (k + 1) ds else some k
/-! ### promises -/
def spNum : Sp := fun vs H Q _ => ∃ (v : V) (d : PyData), vs = [v] ∧ Da Kd.nil H v d ∧ Q (.bl (isNum d)) H
def spAsc : Sp := fun vs H Q _ => ∃ (v : V) (d : PyData) (m : Int), vs = [v, .int m] ∧ Da Kd.nil H v d ∧ Q (.bl (ascD d m)) H
def spEld : Sp := fun vs H Q _ => ∃ (v : V) (d : PyData) (k : Int) (s : V), vs = [v, .int k, s] ∧ Da Kd.nil H v d ∧ Q (.bl (eldB d k (!decide (s = .bl false)))) H
def opN : Option Nat → V
  | none => .non
  | some k => .int (k : Nat)
def spWrE : Sp := fun vs H Q _ => ∃ (v : V) (ds : List PyData) (s : V), vs = [v, s] ∧ Da Kd.nil H v (.tuple ds) ∧ ∀ H', Same H H' → Q (opN (wrE (!decide (s = .bl false)) 0 ds)) H'
section
variable {P : Program} {w : World} {K : PySem.W.Frag} {mg : Str → Option Value} {base : Heap} {f : Addr} {fd : FuncData} {k : Nat}
theorem ok_num (F : Fun K "is_number" "is_number" sNum f fd) (B : Bl mg) : FnOk P w K mg base CX0 (k + 1) f fd ["value"] spNum := by
  refine F.ok scNum (fun vs H Q E h => ?_) (fun cdv A outer s H vs Q E hr h => ?_)
  · obtain ⟨v, d, rfl, _⟩ := h
    rfl
  · obtain ⟨v, d, rfl, hd, q⟩ := h
    refine ⟨_, pss_one (ps_ret (pe_and (pe_callB call_isi (by rfl) B.isi boot_isinstance (pa_cons (pv 0) (pa_cons (pe_bltn (v := .ty "int") (by rfl) B.int PyProof.Rows.boot_int rfl) pa_nil))) (pe_one (pe_not (pe_callB call_isi (by rfl) B.isi boot_isinstance (pa_cons (pv 0) (pa_cons (pe_bltn (v := .ty "bool") (by rfl) B.bool PyProof.Rows.boot_bool rfl) pa_nil))))))), ?_⟩
    refine ⟨_, rfl, _, _, _, _, isInt d, rfl, .ty _, hd.ty, kit_ty (kt_int d), _, rfl, ?_⟩
    have e : isNum d = (isInt d && !isBool d) := rfl
    rw [e] at q
    cases hi : isInt d with
    | true =>
      rw [hi] at q
      exact iteT ⟨_, rfl, _, _, _, _, isBool d, rfl, .ty _, hd.ty, kit_ty (kt_bool d), _, rfl, q⟩
    | false =>
      rw [hi] at q
      exact iteF q
theorem ok_asc {fN : Addr} {dN : FuncData} (F : Fun K "is_ascending" "is_ascending" sAsc f fd) (B : Bl mg) (FN : Fun K "is_number" "is_number" sNum fN dN) (bN : Binds K dN ["value"] []) (gN : mg "is_number" = some (.ref fN)) : FnOk P w K mg base CX0 (k + 2) f fd ["value", "limit"] spAsc := by
  have GN : FnOk P w K mg base CX0 (k + 1) fN dN ["value"] spNum := ok_num FN B
  refine F.ok scAsc (fun vs H Q E h => ?_) (fun cdv A outer s H vs Q E hr h => ?_)
  · obtain ⟨v, d, m, rfl, _⟩ := h
    rfl
  · obtain ⟨v, d, m, rfl, hd, q⟩ := h
    refine ⟨_, pss_cons (ps_if (pt_not (pt_val (pe_callB call_isi (by rfl) B.isi boot_isinstance (pa_cons (pv 0) (pa_cons (pe_bltn (v := .ty "tuple") (by rfl) B.tuple PyProof.Rows.boot_tuple rfl) pa_nil))))) (pss_one (ps_ret pe_bl)) pss_nil)
      (pss_cons (ps_set (i := 2) scAsc.nd rfl (.inl rfl) pe_int)
      (pss_cons (ps_for PassesOwn.never rfl (pi_tup (pv 0)) (pg_name (i := 3) scAsc.nd rfl (.inl rfl))
        (pss_cons (ps_if (PW.pt (pw_or (pt_not (pt_val (pe_call GN hr (by rfl) gN FN.kp bN .nil pass0 (pa_cons (pv 3) pa_nil)))) (pw_or (pt_cmpR op_lt (pv 3) (pv 2) (nomark _)) (pw_or1 (pt_cmpR op_ge (pv 3) (pv 1) (nomark _)))))) (pss_one (ps_ret pe_bl)) pss_nil)
        (pss_one (ps_set (i := 2) scAsc.nd rfl (.inl rfl) (pe_op op_add (pv 3) pe_int)))))
      (pss_one (ps_ret pe_bl)))), ?_⟩
    refine ⟨_, rfl, _, _, _, _, isTup d, rfl, .ty _, hd.ty, kit_ty (kt_tup d), _, rfl, ?_⟩
    by_cases hb : isTup d = true
    · cases d with
      | tuple ds =>
        refine iteF ?_
        cases hd with
        | @tup a xs _ na ha hal hA =>
          refine ⟨_, rfl, a, rfl, ⟨_, SqT.of ha⟩, for_tup (K := K) (a := a) (xs := xs) (fun i σ H1 => ∃ (l : Int) (y3 : Option V), σ = [some (.ref a), some (.int m), some (.int l), y3] ∧ H1 = H ∧ asc m 0 ds = asc m l (ds.drop i))
            ⟨0, none, rfl, rfl, rfl⟩ (fun i σ H1 _ p => by obtain ⟨_, _, _, rfl, _⟩ := p; exact SqT.of ha) (fun i x σ H1 hx p => ?_) (fun σ H1 p => ?_)⟩
          · obtain ⟨l, y3, rfl, rfl, e⟩ := p
            obtain ⟨dx, g1, g2⟩ := hA.get hx
            have hdrop : ds.drop i = dx :: ds.drop (i + 1) := by
              obtain ⟨z1, z2⟩ := List.getElem?_eq_some_iff.mp g1
              rw [List.drop_eq_getElem_cons z1, z2]
            rw [hdrop] at e
            refine ⟨_, rfl, x, dx, rfl, g2, _, rfl, ?_⟩
            have out : isNum dx = false → asc m l (dx :: ds.drop (i + 1)) = false := by
              intro z
              cases dx <;> first | rfl | exact nomatch z
            cases g2 with
            | int z =>
              refine iteF ⟨_, rfl, _, rfl, z, l, rfl, rfl, _, rfl, ?_⟩
              by_cases c1 : z < l
              · rw [decide_eq_true c1]
                refine iteT (iteT ?_)
                have e2 : ascD (.tuple ds) m = false := by
                  show asc m 0 ds = false
                  rw [e]; show (if z < l ∨ m ≤ z then false else _) = false
                  rw [if_pos (.inl c1)]
                rw [e2] at q; exact q
              · rw [decide_eq_false c1]
                refine iteF ⟨_, rfl, _, rfl, z, m, rfl, rfl, _, rfl, ?_⟩
                by_cases c2 : m ≤ z
                · rw [decide_eq_true c2]
                  refine iteT ?_
                  have e2 : ascD (.tuple ds) m = false := by
                    show asc m 0 ds = false
                    rw [e]; show (if z < l ∨ m ≤ z then false else _) = false
                    rw [if_pos (.inr c2)]
                  rw [e2] at q; exact q
                · rw [decide_eq_false c2]
                  refine iteF ⟨_, rfl, z, 1, rfl, rfl, ?_⟩
                  refine ⟨z + 1, _, rfl, rfl, ?_⟩
                  rw [e]; show (if z < l ∨ m ≤ z then false else _) = _
                  rw [if_neg (by omega)]
            | _ =>
              refine iteT (iteT ?_)
              have e2 : ascD (.tuple ds) m = false := by
                show asc m 0 ds = false
                rw [e]; exact out rfl
              rw [e2] at q; exact q
          · obtain ⟨l, y3, rfl, rfl, e⟩ := p
            rw [hA.length, List.drop_length] at e
            have e2 : ascD (.tuple ds) m = true := e
            rw [e2] at q; exact q
      | _ => exact nomatch hb
    · rw [Bool.not_eq_true] at hb
      rw [hb]
      refine iteT ?_
      have e2 : ascD d m = false := by
        cases d with
        | tuple ds => exact nomatch hb
        | _ => rfl
      rw [e2] at q; exact q
theorem asc_tup {d : PyData} {m : Int} (h : ascD d m = true) : ∃ ds, d = .tuple ds := by
  cases d with
  | tuple ds => exact ⟨ds, rfl⟩
  | _ => exact nomatch h
theorem ok_eld {fA : Addr} {dA : FuncData} (F : Fun K "are_elders" "are_elders" sEld f fd) (B : Bl mg) (GA : FnOk P w K mg base CX0 2 fA dA ["value", "limit"] spAsc) (kA : PySem.W.keepIn K (.ref fA) = true) (bA : Binds K dA ["value", "limit"] []) (gA : mg "is_ascending" = some (.ref fA)) : FnOk P w K mg base CX0 3 f fd ["value", "kind", "several"] spEld := by
  refine F.ok scEld (fun vs H Q E h => ?_) (fun cdv A outer s H vs Q E hr h => ?_)
  · obtain ⟨v, d, m, sv, rfl, _⟩ := h
    rfl
  · obtain ⟨v, d, m, sv, rfl, hd, q⟩ := h
    refine ⟨_, pss_cons (ps_if (pt_not (pt_val (pe_call GA hr (by rfl) gA kA bA .nil pass0 (pa_cons (pv 0) (pa_cons (pv 1) pa_nil))))) (pss_one (ps_ret pe_bl)) pss_nil)
      (pss_one (ps_ret (pe_or (pe_cmpR op_notBv (pv 2) pe_bl (nomark _)) (pe_one (pe_cmpR op_le (pe_callB call_len_seq (by rfl) B.len PySem.boot_len (pa_cons (pv 0) pa_nil)) pe_int (nomark _)))))), ?_⟩
    refine ⟨_, rfl, _, rfl, v, d, m, rfl, hd, _, rfl, ?_⟩
    have e : eldB d m (!decide (sv = .bl false)) = (ascD d m && ((!decide (sv = .bl false)) || decide (lenD d ≤ 1))) := rfl
    rw [e] at q
    cases ha : ascD d m with
    | false =>
      rw [ha] at q
      exact iteT q
    | true =>
      rw [ha] at q
      refine iteF ⟨_, rfl, false, rfl, _, rfl, ?_⟩
      obtain ⟨ds, rfl⟩ := asc_tup ha
      cases hd with
      | @tup a xs _ na hx hal hA =>
        cases hs : (!decide (sv = .bl false)) with
        | true =>
          rw [hs] at q
          exact iteT q
        | false =>
          rw [hs] at q
          refine iteF ⟨_, rfl, a, xs, rfl, .inr (SqT.of hx), _, 1, rfl, rfl, ?_⟩
          have e3 : decide ((xs.length : Int) ≤ 1) = decide (lenD (.tuple ds) ≤ 1) := by
            have z := hA.length
            show _ = decide (ds.length ≤ 1)
            by_cases c : ds.length ≤ 1
            · rw [decide_eq_true c, decide_eq_true (by omega)]
            · rw [decide_eq_false c, decide_eq_false (by omega)]
          show Q (.bl (decide ((xs.length : Int) ≤ 1))) H
          rw [e3]
          exact q
theorem ok_wrE {fE : Addr} {dE : FuncData} (F : Fun K "wrong_elders" "wrong_elders" sWrE f fd) (me : mg "enumerate" = none) (GE : FnOk P w K mg base CX0 3 fE dE ["value", "kind", "several"] spEld) (kE : PySem.W.keepIn K (.ref fE) = true) (bE : Binds K dE ["value", "kind", "several"] []) (gE : mg "are_elders" = some (.ref fE)) : FnOk P w K mg base CX0 4 f fd ["elders", "several"] spWrE := by
  refine F.ok scWrE (fun vs H Q E h => ?_) (fun cdv A outer s H vs Q E hr h => ?_)
  · obtain ⟨v, ds, sv, rfl, _⟩ := h
    rfl
  · obtain ⟨v, ds, sv, rfl, hd, q⟩ := h
    refine ⟨_, pss_cons (ps_for PassesOwn.never rfl (pi_enumT (by rfl) me (pa_cons (pv 0) pa_nil)) (pg_tup rfl (pgs_cons (pg_name (i := 2) scWrE.nd rfl (.inl rfl)) (pgs_cons (pg_name (i := 3) scWrE.nd rfl (.inl rfl)) pgs_nil)))
        (pss_one (ps_if (pt_not (pt_val (pe_call GE hr (by rfl) gE kE bE .nil pass0 (pa_cons (pv 3) (pa_cons (pv 2) (pa_cons (pv 1) pa_nil)))))) (pss_one (ps_ret (pv 2))) pss_nil)))
      (pss_one (ps_ret pe_non)), ?_⟩
    cases hd with
    | @tup a xs _ na ha hal hA =>
      refine ⟨_, rfl, a, xs, rfl, SqT.of ha, for_it (walk_enumT (K := K) (a := a) (xs := xs)) (fun i σ H1 => ∃ (y2 y3 : Option V), σ = [some (.ref a), some sv, y2, y3] ∧ Same H H1 ∧ wrE (!decide (sv = .bl false)) 0 ds = wrE (!decide (sv = .bl false)) i (ds.drop i))
        ⟨none, none, rfl, Same.refl H, rfl⟩ (fun i σ H1 _ p => by obtain ⟨_, _, _, p, _⟩ := p; exact SqT.of (p _ _ ha)) (fun i x σ H1 H2 hi p y => ?_) (fun σ H1 p => ?_)⟩
      · obtain ⟨y2, y3, rfl, s1, e⟩ := p
        obtain ⟨T, v1, v2, rfl, nT, rfl, f1, f2⟩ := y
        have f1' : v1 = .int (i : Nat) := (Option.some.inj f1).symm
        subst f1'
        obtain ⟨dx, g1, g2⟩ := hA.get f2
        have hdrop : ds.drop i = dx :: ds.drop (i + 1) := by
          obtain ⟨z1, z2⟩ := List.getElem?_eq_some_iff.mp g1
          rw [List.drop_eq_getElem_cons z1, z2]
        rw [hdrop] at e
        have s2 := s1.trans (same_new (o := HO.tup [.int (i : Nat), v2]) nT)
        refine ⟨T, _, rfl, SqT.of upd_same, rfl, _, _, rfl, v2, _, rfl, rfl, ?_⟩
        refine ⟨_, rfl, _, rfl, _, rfl, v2, dx, (i : Nat), sv, rfl, g2.same s2, _, rfl, ?_⟩
        have e1 : wrE (!decide (sv = .bl false)) i (dx :: ds.drop (i + 1)) = if eldB dx (i : Nat) (!decide (sv = .bl false)) then wrE (!decide (sv = .bl false)) (i + 1) (ds.drop (i + 1)) else some i := rfl
        cases hb : eldB dx (i : Nat) (!decide (sv = .bl false)) with
        | true =>
          rw [hb, if_pos rfl] at e1
          exact iteF ⟨_, _, rfl, s2, e.trans e1⟩
        | false =>
          rw [hb, if_neg Bool.false_ne_true] at e1
          refine iteT ⟨_, rfl, ?_⟩
          have z := q _ s2
          rw [e, e1] at z
          exact z
      · obtain ⟨y2, y3, rfl, s1, e⟩ := p
        rw [hA.length, List.drop_length] at e
        have z := q _ s1
        rw [e] at z
        exact z
end
end Kc

set_option Elab.async false
set_option linter.all false
set_option maxRecDepth 100000
set_option maxHeartbeats 4000000
namespace Kc
open PySem PySem.Spec PyProof.Rows L2 Kg Kd Kr Kf
theorem scTab : FnScope ["elders", "table", "kind", "own", "found", "elder"] ["elders"] (defScope sTab) := ⟨rfl, rfl, rfl, by decide +kernel, rfl, by decide +kernel, by decide +kernel⟩
/-- the place that is told -/
def wrP (e c h : PyData) (s : V) : V :=
  match e with
  | .tuple ds => if 1 ≤ ds.length ∧ ds.length ≤ 6 then
      match wrE (!decide (s = .bl false)) 0 ds with
      | some k => .int (k : Nat)
      | none => if ascD c (ds.length : Nat) then (if ascD h (ds.length : Nat) then (if s = .bl true ∨ s = .bl false then .non else .str "several") else .str "hollow") else .str "closed"
    else .str "elders"
  | _ => .str "elders"
def spWrP : Sp := fun vs H Q _ => ∃ (ve vc vh s : V) (e c h : PyData), vs = [ve, vc, vh, s] ∧ Da Kd.nil H ve e ∧ Da Kd.nil H vc c ∧ Da Kd.nil H vh h ∧ ∀ H', Same H H' → Q (wrP e c h s) H'
structure Bm (mg : Str → Option Value) : Prop where
  set : mg "set" = none
  sorted : mg "sorted" = none
  enum : mg "enumerate" = none
  mx : ∃ t, mg "MAX_KINDS" = some (.int 6 t)
theorem opN_non {o : Option Nat} : decide (opN o = .non) = o.isNone := by
  cases o with
  | none => rfl
  | some k => exact decide_eq_false (fun z => nomatch z)
section
variable {P : Program} {w : World} {K : PySem.W.Frag} {mg : Str → Option Value} {base : Heap} {f : Addr} {fd : FuncData} {k : Nat}
theorem ok_wrP {fA fW : Addr} {dA dW : FuncData} (F : Fun K "wrong_place" "wrong_place" sWrP f fd) (B : Bl mg) (M : Bm mg) (GA : FnOk P w K mg base CX0 2 fA dA ["value", "limit"] spAsc) (kA : PySem.W.keepIn K (.ref fA) = true) (bA : Binds K dA ["value", "limit"] []) (gA : mg "is_ascending" = some (.ref fA))
    (GW : FnOk P w K mg base CX0 4 fW dW ["elders", "several"] spWrE) (kW : PySem.W.keepIn K (.ref fW) = true) (bW : Binds K dW ["elders", "several"] []) (gW : mg "wrong_elders" = some (.ref fW)) : FnOk P w K mg base CX0 5 f fd ["elders", "closed", "hollow", "several"] spWrP := by
  obtain ⟨tk, mk⟩ := M.mx
  refine F.ok scWrP (fun vs H Q E h => ?_) (fun cdv A outer s H vs Q E hr h => ?_)
  · obtain ⟨ve, vc, vh, sv, e, c, h, rfl, _⟩ := h
    rfl
  · obtain ⟨ve, vc, vh, sv, e, c, h, rfl, he, hc, hh, q⟩ := h
    refine ⟨_, pss_cons (ps_if (PW.pt (pw_or (pt_not (pt_val (pe_callB call_isi (by rfl) B.isi boot_isinstance (pa_cons (pv 0) (pa_cons (pe_bltn (v := .ty "tuple") (by rfl) B.tuple PyProof.Rows.boot_tuple rfl) pa_nil)))))
          (pw_or1 (pt_not (pt_chain op_le op_le pe_int (pe_callB call_len_seq (by rfl) B.len PySem.boot_len (pa_cons (pv 0) pa_nil)) (pe_glob (v := .int 6) (by rfl) mk ⟨tk, rfl⟩)))))) (pss_one (ps_ret pe_str)) pss_nil)
      (pss_cons (ps_set (i := 4) scWrP.nd rfl (.inl rfl) (pe_call GW (hr.mono (by decide)) (by rfl) gW kW bW .nil pass0 (pa_cons (pv 0) (pa_cons (pv 3) pa_nil))))
      (pss_cons (ps_if (pt_cmpR op_notN (pv 4) pe_non (nomark _)) (pss_one (ps_ret (pv 4))) pss_nil)
      (pss_cons (ps_if (pt_not (pt_val (pe_call GA (hr.mono (by decide)) (by rfl) gA kA bA .nil pass0 (pa_cons (pv 1) (pa_cons (pe_callB call_len_seq (by rfl) B.len PySem.boot_len (pa_cons (pv 0) pa_nil)) pa_nil))))) (pss_one (ps_ret pe_str)) pss_nil)
      (pss_cons (ps_if (pt_not (pt_val (pe_call GA (hr.mono (by decide)) (by rfl) gA kA bA .nil pass0 (pa_cons (pv 2) (pa_cons (pe_callB call_len_seq (by rfl) B.len PySem.boot_len (pa_cons (pv 0) pa_nil)) pa_nil))))) (pss_one (ps_ret pe_str)) pss_nil)
      (pss_cons (ps_if (PW.pt (pw_and (pt_cmpR op_notBv (pv 3) pe_bl (nomark _)) (pw_and1 (pt_cmpR op_notBv (pv 3) pe_bl (nomark _))))) (pss_one (ps_ret pe_str)) pss_nil)
      (pss_one (ps_ret pe_non))))))), ?_⟩
    refine ⟨_, rfl, _, _, _, _, isTup e, rfl, .ty _, he.ty, kit_ty (kt_tup e), _, rfl, ?_⟩
    by_cases hb : isTup e = true
    · cases e with
      | tuple ds =>
        refine iteF ?_
        have he2 := he
        cases he with
        | @tup a xs _ na ha hal hA =>
          have xl := hA.length
          refine ⟨_, rfl, a, xs, rfl, .inr (SqT.of ha), 1, _, rfl, rfl, _, rfl, ?_⟩
          have out : ¬ (1 ≤ ds.length ∧ ds.length ≤ 6) → Q (.str "elders") H := fun z => by
            have y := q H (Same.refl H)
            have e1 : wrP (.tuple ds) c h sv = .str "elders" := by
              show (if 1 ≤ ds.length ∧ ds.length ≤ 6 then _ else _) = _
              rw [if_neg z]
            rwa [e1] at y
          by_cases c1 : (1 : Int) ≤ (xs.length : Nat)
          · rw [decide_eq_true c1]
            refine iteT ⟨_, _, rfl, rfl, _, rfl, ?_⟩
            by_cases c2 : ((xs.length : Nat) : Int) ≤ 6
            · rw [decide_eq_true c2]
              refine iteF ?_
              refine ⟨_, rfl, _, rfl, _, ds, sv, rfl, he2, fun H1 s1 => ?_⟩
              have e1 : wrP (.tuple ds) c h sv = (match wrE (!decide (sv = .bl false)) 0 ds with
                  | some k => .int (k : Nat)
                  | none => if ascD c (ds.length : Nat) then (if ascD h (ds.length : Nat) then (if sv = .bl true ∨ sv = .bl false then .non else .str "several") else .str "hollow") else .str "closed") := by
                show (if 1 ≤ ds.length ∧ ds.length ≤ 6 then _ else _) = _
                rw [if_pos (by omega)]
              have q1 := q H1 s1
              rw [e1] at q1
              have ha1 := s1 _ _ ha
              have hc1 := hc.same s1
              have hh1 := hh.same s1
              refine ⟨_, rfl, rfl, _, rfl, ?_⟩
              rw [opN_non]
              cases hw : wrE (!decide (sv = .bl false)) 0 ds with
              | some k =>
                rw [hw] at q1
                exact iteT ⟨_, rfl, q1⟩
              | none =>
                rw [hw] at q1
                refine iteF ⟨_, rfl, _, rfl, a, xs, rfl, .inr (SqT.of ha1), vc, c, _, rfl, hc1, _, rfl, ?_⟩
                rw [xl]
                cases a1 : ascD c (ds.length : Nat) with
                | false => rw [a1] at q1; exact iteT q1
                | true =>
                  rw [a1] at q1
                  refine iteF ⟨_, rfl, _, rfl, a, xs, rfl, .inr (SqT.of ha1), vh, h, _, rfl, hh1, _, rfl, ?_⟩
                  rw [xl]
                  cases a2 : ascD h (ds.length : Nat) with
                  | false => rw [a2] at q1; exact iteT q1
                  | true =>
                    rw [a2] at q1
                    refine iteF ⟨_, rfl, true, rfl, _, rfl, ?_⟩
                    by_cases z1 : sv = .bl true
                    · rw [if_pos rfl, if_pos rfl, if_pos (.inl z1)] at q1
                      rw [decide_eq_true z1]
                      exact iteF (iteF q1)
                    · rw [decide_eq_false z1]
                      refine iteT ⟨_, rfl, false, rfl, _, rfl, ?_⟩
                      by_cases z2 : sv = .bl false
                      · rw [if_pos rfl, if_pos rfl, if_pos (.inr z2)] at q1
                        rw [decide_eq_true z2]
                        exact iteF q1
                      · rw [if_pos rfl, if_pos rfl, if_neg (by rintro (y | y) <;> contradiction)] at q1
                        rw [decide_eq_false z2]
                        exact iteT q1
            · rw [decide_eq_false c2]
              exact iteT (out (by omega))
          · rw [decide_eq_false c1]
            exact iteF ⟨_, rfl, iteT (out (by omega))⟩
      | _ => exact nomatch hb
    · rw [Bool.not_eq_true] at hb
      rw [hb]
      refine iteT (iteT ?_)
      have y := q H (Same.refl H)
      have e1 : wrP e c h sv = .str "elders" := by
        cases e with
        | tuple ds => exact nomatch hb
        | _ => rfl
      rwa [e1] at y
end
/-! ### right parts -/
theorem asc_ok : ∀ {l : List Nat} {n lo : Nat}, l.Pairwise (· < ·) → (∀ x ∈ l, lo ≤ x ∧ x < n) → asc (n : Nat) (lo : Nat) (l.map iD) = true
  | [], _, _, _, _ => rfl
  | a :: l, n, lo, hl, h => by
    rw [List.pairwise_cons] at hl
    have y := h a (List.mem_cons_self ..)
    have z := asc_ok (l := l) (n := n) (lo := a + 1) hl.2 (fun x hx => ⟨hl.1 x hx, (h x (List.mem_cons_of_mem _ hx)).2⟩)
    show (if ((a : Nat) : Int) < (lo : Nat) ∨ ((n : Nat) : Int) ≤ (a : Nat) then false else asc (n : Nat) ((a : Nat) + 1) (l.map iD)) = true
    rw [if_neg (by omega)]
    exact z
theorem som_ok {n : Nat} {l : List Nat} (h : Som n l) : ascD (pdI l) (n : Nat) = true := asc_ok (lo := 0) h.asc (fun x hx => ⟨Nat.zero_le _, h.low x hx⟩)
theorem wrE_ok {sv : Bool} : ∀ {es : List (List Nat)} {k : Nat}, (∀ (i : Nat) (l : List Nat), es[i]? = some l → Som (k + i) l ∧ (sv = false → l.length ≤ 1)) → wrE sv k (es.map pdI) = none
  | [], _, _ => rfl
  | l :: es, k, h => by
    obtain ⟨h1, h2⟩ := h 0 l rfl
    have e1 : eldB (pdI l) (k : Nat) sv = true := by
      unfold eldB
      rw [som_ok (by simpa using h1), Bool.true_and]
      cases sv with
      | true => rfl
      | false =>
        show decide ((l.map iD).length ≤ 1) = true
        rw [List.length_map]
        exact decide_eq_true (h2 rfl)
    show (if eldB (pdI l) (k : Nat) sv = true then wrE sv (k + 1) (es.map pdI) else some k) = none
    rw [if_pos e1]
    refine wrE_ok fun i l' e => ?_
    have z := h (i + 1) l' (by simpa using e)
    rwa [show k + (i + 1) = k + 1 + i by omega] at z
theorem dec_bl (sv : Bool) : (!decide (V.bl sv = .bl false)) = sv := by cases sv <;> rfl
theorem wrP_ok {es : List (List Nat)} {cl ho : List Nat} {sv : Bool} (he : Eld es sv) (hc : Som es.length cl) (hh : Som es.length ho) : wrP (pdE es) (pdI cl) (pdI ho) (.bl sv) = .non := by
  have e0 : wrE (!decide (V.bl sv = .bl false)) 0 (es.map pdI) = none := by
    rw [dec_bl]
    exact wrE_ok fun i l e => ⟨by rw [Nat.zero_add]; exact he.som e, he.one i l e⟩
  show (if 1 ≤ (es.map pdI).length ∧ (es.map pdI).length ≤ 6 then _ else _) = _
  rw [e0, List.length_map, if_pos ⟨he.lo, he.hi⟩]
  show (if ascD (pdI cl) (es.length : Nat) = true then _ else _) = _
  rw [if_pos (som_ok hc), if_pos (som_ok hh), if_pos (by cases sv <;> simp)]
end Kc

set_option Elab.async false
set_option linter.all false
set_option maxRecDepth 100000
set_option maxHeartbeats 4000000
namespace Kc
open PySem PySem.Spec PyProof.Rows L2 Kg Kd Kr Kf
/-- all kinds above each kind -/
def lotsT (es : List (List Nat)) : List (List Nat) := (List.range es.length).map (lot es)
def spTab : Sp := fun vs H Q _ => ∃ (v : V) (es : List (List Nat)) (sv : Bool), vs = [v] ∧ Tu H v (pdE es) ∧ Eld es sv ∧ ∀ H' p, Same H H' → H p = none → Tu H' (.ref p) (pdE (lotsT es)) → Q (.ref p) H'
/-- what was found: the kind, and all above of some elders -/
def Fnd (es : List (List Nat)) (k : Nat) (el ns : List Nat) : Prop := ∀ x, x ∈ ns ↔ x = k ∨ ∃ e ∈ el, abv es e x = true
theorem fnd_all {es : List (List Nat)} {sv : Bool} {k : Nat} {own ns : List Nat} (E : Eld es sv) (ho : es[k]? = some own) (h : Fnd es k own ns) (x : Nat) : x ∈ ns ↔ x ∈ lot es k := by
  have hk : k < es.length := (List.getElem?_eq_some_iff.mp ho).1
  rw [h x, lot_mem hk, abv_eq]
  have eo : es.getD k [] = own := by rw [List.getD_eq_getElem?_getD, ho]; rfl
  rw [eo]
  constructor
  · rintro (h | ⟨e, he, h⟩)
    · exact .inl h
    · exact .inr ⟨e, he, E.low k own ho e he, h⟩
  · rintro (h | ⟨e, he, _, h⟩)
    · exact .inl h
    · exact .inr ⟨e, he, h⟩
theorem get_map {α β : Type} {f : α → β} {l : List α} {i : Nat} {x : α} (h : l[i]? = some x) : (l.map f)[i]? = some (f x) := by rw [List.getElem?_map, h]; rfl
section
variable {P : Program} {w : World} {K : PySem.W.Frag} {mg : Str → Option Value} {base : Heap} {f : Addr} {fd : FuncData} {k : Nat}
theorem ok_tab (F : Fun K "table_above" "table_above" sTab f fd) (B : Bl mg) (M : Bm mg) : FnOk P w K mg base CX0 (k + 1) f fd ["elders"] spTab := by
  refine F.ok scTab (fun vs H Q E h => ?_) (fun cdv A outer s H vs Q E hr h => ?_)
  · obtain ⟨v, es, sv, rfl, _⟩ := h
    rfl
  · obtain ⟨v, es, sv, rfl, hv, EL, q⟩ := h
    refine ⟨_, pss_cons (ps_set (i := 1) scTab.nd rfl (.inl rfl) (pe_lst pa_nil))
      (pss_cons (ps_for PassesOwn.never rfl (pi_enumT (by rfl) M.enum (pa_cons (pv 0) pa_nil)) (pg_tup rfl (pgs_cons (pg_name (i := 2) scTab.nd rfl (.inl rfl)) (pgs_cons (pg_name (i := 3) scTab.nd rfl (.inl rfl)) pgs_nil)))
        (pss_cons (ps_set (i := 4) scTab.nd rfl (.inl rfl) (pe_lst (pa_cons (pv 2) pa_nil)))
        (pss_cons (ps_for PassesOwn.never rfl (pi_tup (pv 3)) (pg_name (i := 5) scTab.nd rfl (.inl rfl))
          (pss_one (ps_expr (pe_bm PySem.F.plainAttrs_list PySem.F.slot_list_extend PySem.F.type_list_extend mt_extT (pv 4) (pa_cons (pe_ix ix_list (pv 1) (pv 5) (fun _ _ => rfl)) pa_nil)))))
        (pss_one (ps_expr (pe_bm PySem.F.plainAttrs_list PySem.F.slot_list_append PySem.F.type_list_append mt_append (pv 1)
          (pa_cons (pe_callTy call_tuple_of (by rfl) B.tuple PyProof.Rows.boot_tuple (pa_cons (pe_callB (cr_sortedSet rfl) (by rfl) M.sorted (by decide +kernel) (pa_cons (pe_callTy (cr_setI rfl) (by rfl) M.set (by decide +kernel) (pa_cons (pv 4) pa_nil)) pa_nil)) pa_nil)) pa_nil)))))))
      (pss_one (ps_ret (pe_callTy call_tuple_of (by rfl) B.tuple PyProof.Rows.boot_tuple (pa_cons (pv 1) pa_nil))))), ?_⟩
    unfold pdE at hv
    cases hv with
    | @tup a xs _ ha hal hA =>
    have xl : xs.length = es.length := by rw [hA.length, List.length_map]
    refine ⟨(show 0 ≤ sizeLine by decide), fun T nT => ?_⟩
    have s0 : Same H (upd H T (.lst [])) := same_new nT
    have len6 := EL.hi
    refine ⟨_, rfl, a, xs, rfl, SqT.of (s0 _ _ ha), for_it (walk_enumT (K := K) (a := a) (xs := xs)) (fun i σ H1 => ∃ (y2 y3 y4 y5 : Option V) (rows : List V), σ = [some (.ref a), some (.ref T), y2, y3, y4, y5] ∧ Same H H1 ∧ H1 T = some (.lst rows) ∧ TuAll H1 rows (((List.range i).map (lot es)).map pdI))
      ⟨none, none, none, none, [], rfl, s0, upd_same, .nil⟩ (fun i σ H1 _ p => by obtain ⟨_, _, _, _, _, _, p, _⟩ := p; exact SqT.of (p _ _ ha)) (fun i x σ H1 H2 hi p y => ?_) (fun σ H1 p => ?_)⟩
    · obtain ⟨y2, y3, y4, y5, rows, rfl, s1, hT, hR⟩ := p
      obtain ⟨Tp, v1, v2, rfl, nTp, rfl, f1, f2⟩ := y
      have f1' : v1 = .int (i : Nat) := (Option.some.inj f1).symm
      subst f1'
      obtain ⟨dx, g1, g2⟩ := hA.get f2
      obtain ⟨own, ho, rfl⟩ := map_get g1
      obtain ⟨b, rfl, hb, _⟩ := tu_inv g2
      have s12 := same_new (o := HO.tup [.int (i : Nat), .ref b]) nTp
      have s2 := s1.trans s12
      have hT2 := s12 _ _ hT
      have hR2 := hR.keep (.of_same s12)
      refine ⟨Tp, _, rfl, SqT.of upd_same, rfl, _, _, rfl, .ref b, _, rfl, rfl, ?_⟩
      generalize (upd H1 Tp (.tup [.int (i : Nat), .ref b])) = H2 at s2 hT2 hR2 ⊢
      refine ⟨_, rfl, (show 1 ≤ sizeLine by decide), fun Fo nF => ?_⟩
      have s3 := same_new (o := HO.lst [.int (i : Nat)]) nF
      have rl : rows.length = i := by rw [hR.length, List.length_map, List.length_map, List.length_range]
      -- the inner walk
      have hb3 := s3 _ _ (s2 _ _ hb)
      refine ⟨_, rfl, b, rfl, ⟨_, SqT.of hb3⟩, for_tup (K := K) (a := b) (xs := own.map iV) (fun j σ H4 => ∃ (y5 : Option V) (ns : List Nat), σ = [some (.ref a), some (.ref T), some (.int (i : Nat)), some (.ref b), some (.ref Fo), y5] ∧ Same H2 H4 ∧ H4 Fo = some (.lst (ns.map iV)) ∧ ns.length ≤ 1 + 6 * j ∧ Fnd es i (own.take j) ns)
        ⟨y5, [i], rfl, s3, upd_same, by simp, fun x => by simp⟩ (fun j σ H4 _ p => by obtain ⟨_, _, _, p, _⟩ := p; exact SqT.of (p _ _ (s2 _ _ hb))) (fun j x σ H4 hx p => ?_) (fun σ H4 p => ?_)⟩
      · obtain ⟨z5, ns, rfl, s4, hF, nl, fn⟩ := p
        obtain ⟨e, he, rfl⟩ := map_get hx
        have hel : e < i := EL.low i own ho e (List.mem_of_getElem? he)
        have hT4 := s4 _ _ hT2
        obtain ⟨rv, hrv, hru⟩ := (hR2.keep (.of_same s4)).get' (i := e) (d := pdI (lot es e)) (get_map (get_map (by rw [List.getElem?_range hel])))
        obtain ⟨rb, rfl, hrb, rbl⟩ := tu_inv hru
        have ol : own.length ≤ 6 := by have := (EL.som ho).len; omega
        have jl : j < own.length := (List.getElem?_eq_some_iff.mp he).1
        have ll := lot_len es e
        refine ⟨_, rfl, .inl ⟨rfl, _, SqL.of hF⟩, _, rfl, _, rfl, T, rows, _, .ref rb, rfl, rfl, SqL.of hT4, atI_nat (j := e) hrv, Fo, rb, _, _, rfl, rfl, hF, SqT.of hrb, ?_, ?_⟩
        · rw [List.length_map, List.length_map]
          exact Nat.le_of_lt (small1000 (by omega))
        · refine ⟨_, ns ++ lot es e, rfl, ?_, ?_, ?_, ?_⟩
          · exact fun bb o z => by rw [upd_ne (ne_of_none z nF)]; exact s4 _ _ z
          · rw [upd_same, List.map_append]
          · rw [List.length_append]; omega
          · intro x
            have hex : own.take (j + 1) = own.take j ++ [e] := by rw [List.take_add_one, he]; rfl
            rw [List.mem_append, fn x, hex, lot_mem (by have := (List.getElem?_eq_some_iff.mp ho).1; omega)]
            constructor
            · rintro ((h | ⟨e', h1, h2⟩) | h)
              · exact .inl h
              · exact .inr ⟨e', List.mem_append_left _ h1, h2⟩
              · exact .inr ⟨e, List.mem_append_right _ (List.mem_singleton.mpr rfl), h⟩
            · rintro (h | ⟨e', h1, h2⟩)
              · exact .inl (.inl h)
              · rcases List.mem_append.mp h1 with h1 | h1
                · exact .inl (.inr ⟨e', h1, h2⟩)
                · rw [List.mem_singleton.mp h1] at h2; exact .inr h2
      · obtain ⟨z5, ns, rfl, s4, hF, nl, fn⟩ := p
        have ol : own.length ≤ 6 := by have := (EL.som ho).len; omega
        rw [List.length_map] at nl fn
        rw [List.take_length] at fn
        have hT4 := s4 _ _ hT2
        have hR4 := hR2.keep (.of_same s4)
        rw [map_iV] at hF
        refine ⟨_, rfl, .inl ⟨rfl, _, SqL.of hT4⟩, _, rfl, Fo, _, rfl, .inl (SqL.of hF), (by rw [List.length_map]; omega), fun S c nS hc => ?_⟩
        have s5 := same_new (o := SetO w S (fun j => decide (j ∈ ns.map fun n => ((n : Nat) : Int))) c) nS
        refine ⟨S, _, c, rfl, upd_same, (by rw [List.length_map] at hc; omega), fun ms q5 hs hm hml nq => ?_⟩
        obtain ⟨m, rfl⟩ := to_nats (l := ms) (fun x hx => by
          have z := of_decide_eq_true ((hm x).mp hx)
          obtain ⟨n, _, e⟩ := List.mem_map.mp z
          omega)
        have em : m = lot es i := asc_uniq (asc_map hs) (lot_asc es i) fun x => by
          rw [← fnd_all EL ho fn x]
          have z := hm (x : Nat)
          constructor
          · intro h
            have y := of_decide_eq_true (z.mp (List.mem_map.mpr ⟨x, h, rfl⟩))
            obtain ⟨n, h1, e⟩ := List.mem_map.mp y
            have : n = x := by omega
            rwa [← this]
          · intro h
            have y := z.mpr (decide_eq_true (List.mem_map.mpr ⟨x, h, rfl⟩))
            obtain ⟨n, h1, e⟩ := List.mem_map.mp y
            have : n = x := by omega
            rwa [← this]
        subst em
        have s6 := same_new (o := HO.lst (((lot es i).map fun n => ((n : Nat) : Int)).map V.int)) nq
        refine ⟨q5, _, rfl, .inl ⟨SqL.of upd_same, fun tt nt => ?_⟩⟩
        have s7 := same_new (o := HO.tup (((lot es i).map fun n => ((n : Nat) : Int)).map V.int)) nt
        have s47 := s5.trans (s6.trans s7)
        refine ⟨T, _, _, rfl, rfl, s47 _ _ hT4, by rw [rl]; exact small1000 (by omega), ?_⟩
        have nTH : ∀ o, H T = some o → False := fun o z => by rw [nT] at z; cases z
        refine ⟨_, _, _, _, rows ++ [.ref tt], rfl, ?_, upd_same, ?_⟩
        · exact fun bb o z => by rw [upd_ne (ne_of_none z nT)]; exact s47 _ _ (s4 _ _ (s2 _ _ z))
        · rw [List.range_succ, List.map_append, List.map_append]
          refine (TuAll.append (hR4.keep (.of_same s47)) (.cons (tu_ints (a := tt) (l := lot es i) ?_ ?_) .nil)).keep (KF.putL (s47 _ _ hT4))
          · rw [map_iV]; exact upd_same
          · have := lot_len es i; omega
    · obtain ⟨y2, y3, y4, y5, rows, rfl, s1, hT, hR⟩ := p
      rw [xl] at hR
      refine ⟨_, rfl, T, rows, rfl, .inl ⟨SqL.of hT, fun p np => ?_⟩⟩
      have s2 := same_new (o := HO.tup rows) np
      refine q _ p (s1.trans s2) (s1.free np) (.tup upd_same ?_ (hR.keep (.of_same s2)))
      rw [hR.length, List.length_map, List.length_map, List.length_range]; omega
end
end Kc

set_option Elab.async false
set_option linter.all false
set_option maxRecDepth 100000
set_option maxHeartbeats 4000000
namespace Kc
open PySem PySem.Spec PyProof.Rows L2 Kg Kd Kr Kf
abbrev sCls : Stmt := topS 14
abbrev sIni : Stmt := inClass sCls 0
abbrev sMade : Stmt := topS 23
theorem scIni : FnScope ["self", "elders", "closed", "hollow", "several", "place"] ["self", "elders", "closed", "hollow", "several"] (defScope sIni) := ⟨rfl, rfl, rfl, by decide +kernel, rfl, by decide +kernel, by decide +kernel⟩
theorem scMade : FnScope ["_law_four_here"] ["_law_four_here"] (defScope sMade) := ⟨rfl, rfl, rfl, by decide +kernel, rfl, by decide +kernel, by decide +kernel⟩
/-- the fields of kinds -/
def kfs (e c h : V) (sv : Bool) (t : V) : List (Str × V) := [("kept_elders", e), ("kept_closed", c), ("kept_hollow", h), ("kept_several", .bl sv), ("kept_above", t)]
/-- Kinds at p -/
structure KO (C : Addr) (H : Hp) (p : Addr) (es : List (List Nat)) (cl ho : List Nat) (sv : Bool) : Prop where
  ex : ∃ dx e c h t, H p = some (.ins C dx (kfs e c h sv t)) ∧ Tu H e (pdE es) ∧ Tu H c (pdI cl) ∧ Tu H h (pdI ho) ∧ Tu H t (pdE (lotsT es))
  el : Eld es sv
  cl : Som es.length cl
  ho : Som es.length ho
theorem KO.keep {C : Addr} {H H' : Hp} {p : Addr} {es : List (List Nat)} {cl ho : List Nat} {sv : Bool} (k : KO C H p es cl ho sv) (f : KF H H') : KO C H' p es cl ho sv := by
  obtain ⟨⟨dx, e, c, h, t, h1, h2, h3, h4, h5⟩, h6, h7, h8⟩ := k
  exact ⟨⟨dx, e, c, h, t, f.ins h1, h2.keep f, h3.keep f, h4.keep f, h5.keep f⟩, h6, h7, h8⟩
/-- the class of kinds -/
structure KC (K : PySem.W.Frag) (C : Addr) : Prop where
  cl : Cls K C
  n1 : NoAttr K C "kept_elders"
  n2 : NoAttr K C "kept_closed"
  n3 : NoAttr K C "kept_hollow"
  n4 : NoAttr K C "kept_several"
  n5 : NoAttr K C "kept_above"
def spIni (C : Addr) : Sp := fun vs H Q _ => ∃ (p dx : Addr) (ve vc vh : V) (es : List (List Nat)) (cl ho : List Nat) (sv : Bool), vs = [.ref p, ve, vc, vh, .bl sv] ∧ H p = some (.ins C dx []) ∧ Tu H ve (pdE es) ∧ Tu H vc (pdI cl) ∧ Tu H vh (pdI ho) ∧
  Eld es sv ∧ Som es.length cl ∧ Som es.length ho ∧ ∀ H', (∀ b o, H b = some o → b ≠ p → H' b = some o) → KO C H' p es cl ho sv → Q .non H'
/-- the four parts in a list at l -/
structure Fo (H : Hp) (l : Addr) (es : List (List Nat)) (cl ho : List Nat) (sv : Bool) : Prop where
  ex : ∃ e c h, H l = some (.lst [e, c, h, .bl sv]) ∧ Tu H e (pdE es) ∧ Tu H c (pdI cl) ∧ Tu H h (pdI ho)
  el : Eld es sv
  cl : Som es.length cl
  ho : Som es.length ho
theorem Fo.keep {H H' : Hp} {l : Addr} {es : List (List Nat)} {cl ho : List Nat} {sv : Bool} (k : Fo H l es cl ho sv) (f : KF H H') (z : ∀ xs, H l = some (.lst xs) → H' l = some (.lst xs)) : Fo H' l es cl ho sv := by
  obtain ⟨⟨e, c, h, h1, h2, h3, h4⟩, h6, h7, h8⟩ := k
  exact ⟨⟨e, c, h, z _ h1, h2.keep f, h3.keep f, h4.keep f⟩, h6, h7, h8⟩
theorem Fo.same {H H' : Hp} {l : Addr} {es : List (List Nat)} {cl ho : List Nat} {sv : Bool} (k : Fo H l es cl ho sv) (s : Same H H') : Fo H' l es cl ho sv := k.keep (.of_same s) fun _ z => s _ _ z
def spMade (C : Addr) : Sp := fun vs H Q _ => ∃ (l : Addr) (es : List (List Nat)) (cl ho : List Nat) (sv : Bool), vs = [.ref l] ∧ Fo H l es cl ho sv ∧ ∀ H' p, Same H H' → H p = none → KO C H' p es cl ho sv → Q (.ref p) H'
theorem own_same {H H' : Hp} {x dx C : Addr} {o : HO} (nx : H x = none) (nd : H dx = none) (ne : dx ≠ x) (k : ∀ b u, upd (upd H dx (.own x)) x o b = some u → b ≠ x → H' b = some u) : Same H H' := fun b u e => by
  have e1 := ne_of_none e nx
  have e2 := ne_of_none e nd
  exact k b u (by rw [upd_ne e1, upd_ne e2]; exact e) e1
section
variable {P : Program} {w : World} {K : PySem.W.Frag} {mg : Str → Option Value} {base : Heap} {f : Addr} {fd : FuncData} {k : Nat}
theorem ok_ini {fW fT C : Addr} {dW dT : FuncData} (F : Fun K "__init__" "Kinds.__init__" sIni f fd) (T : KC K C)
    (GW : FnOk P w K mg base CX0 5 fW dW ["elders", "closed", "hollow", "several"] spWrP) (kW : PySem.W.keepIn K (.ref fW) = true) (bW : Binds K dW ["elders", "closed", "hollow", "several"] []) (gW : mg "wrong_place" = some (.ref fW))
    (GT : FnOk P w K mg base CX0 1 fT dT ["elders"] spTab) (kT : PySem.W.keepIn K (.ref fT) = true) (bT : Binds K dT ["elders"] []) (gT : mg "table_above" = some (.ref fT)) : FnOk P w K mg base CX0 6 f fd ["self", "elders", "closed", "hollow", "several"] (spIni C) := by
  refine F.ok scIni (fun vs H Q E h => ?_) (fun cdv A outer s H vs Q E hr h => ?_)
  · obtain ⟨p, dx, ve, vc, vh, es, cl, ho, sv, rfl, _⟩ := h
    rfl
  · obtain ⟨p, dx, ve, vc, vh, es, cl, ho, sv, rfl, hp, he, hc, hh, EL, SC, SH, q⟩ := h
    refine ⟨_, pss_cons (ps_set (i := 5) scIni.nd rfl (.inl rfl) (pe_call GW (hr.mono (by decide)) (by rfl) gW kW bW .nil pass0 (pa_cons (pv 1) (pa_cons (pv 2) (pa_cons (pv 3) (pa_cons (pv 4) pa_nil))))))
      (pss_cons (ps_if (pt_cmpR op_notN (pv 5) pe_non (nomark _)) (pss_one ps_never) pss_nil)
      (pss_cons (ps_fld (pv 0) (pv 1) rfl)
      (pss_cons (ps_fld (pv 0) (pv 2) rfl)
      (pss_cons (ps_fld (pv 0) (pv 3) rfl)
      (pss_cons (ps_fld (pv 0) (pv 4) rfl)
      (pss_one (ps_fld (pv 0) (pe_call GT (hr.mono (by decide)) (by rfl) gT kT bT .nil pass0 (pa_cons (pv 1) pa_nil)) rfl))))))), ?_⟩
    refine ⟨_, rfl, _, rfl, _, rfl, _, rfl, ve, vc, vh, _, _, _, _, rfl, he.da, hc.da, hh.da, fun H1 s1 => ?_⟩
    rw [wrP_ok EL SC SH]
    refine ⟨_, rfl, rfl, _, rfl, iteF ?_⟩
    refine ⟨_, rfl, _, rfl, p, C, dx, _, rfl, s1 _ _ hp, T.cl, T.n1, (by decide), ?_⟩
    refine ⟨_, rfl, _, rfl, p, C, dx, _, rfl, upd_same, T.cl, T.n2, (by show 1 < 1000; decide), ?_⟩
    refine ⟨_, rfl, _, rfl, p, C, dx, _, rfl, upd_same, T.cl, T.n3, (by show 2 < 1000; decide), ?_⟩
    refine ⟨_, rfl, _, rfl, p, C, dx, _, rfl, upd_same, T.cl, T.n4, (by show 3 < 1000; decide), ?_⟩
    rw [upd_upd, upd_upd, upd_upd]
    -- tuples stay
    have kt : ∀ {v : V} {d : PyData} (o : HO), Tu H v d → Tu (upd H1 p o) v d := by
      have aux : ∀ (o : HO) (b : Addr) (xs : List V), H b = some (.tup xs) → upd H1 p o b = some (.tup xs) := fun o b xs z => by
        rw [upd_ne (ne_of z hp (by intro y; cases y))]; exact s1 _ _ z
      intro v d o h
      exact Tu.rec (motive_1 := fun v d _ => Tu (upd H1 p o) v d) (motive_2 := fun vs ds _ => TuAll (upd H1 p o) vs ds) .non (fun b => .bl b) (fun i => .int i) (fun x => .str x) (fun h z _ r => .tup (aux o _ _ h) z r) .nil (fun _ _ h r => .cons h r) h
    refine ⟨_, rfl, ve, es, sv, rfl, kt _ he, EL, fun H2 t s2 nt ht => ⟨_, rfl, p, C, dx, _, rfl, s2 _ _ upd_same, T.cl, T.n5, (by show 4 < 1000; decide), ?_⟩⟩
    have hp2 := s2 _ _ upd_same
    have key : ∀ {v : V} {d : PyData} (o : HO), Tu H2 v d → Tu (upd H2 p o) v d := by
      have aux : ∀ (o : HO) (b : Addr) (xs : List V), H2 b = some (.tup xs) → upd H2 p o b = some (.tup xs) := fun o b xs z => by
        rw [upd_ne (ne_of z hp2 (by intro y; cases y))]; exact z
      intro v d o h
      exact Tu.rec (motive_1 := fun v d _ => Tu (upd H2 p o) v d) (motive_2 := fun vs ds _ => TuAll (upd H2 p o) vs ds) .non (fun b => .bl b) (fun i => .int i) (fun x => .str x) (fun h z _ r => .tup (aux o _ _ h) z r) .nil (fun _ _ h r => .cons h r) h
    refine q _ (fun b o z ne => ?_) ⟨⟨dx, ve, vc, vh, .ref t, upd_same, key _ ((kt _ he).same s2), key _ ((kt _ hc).same s2), key _ ((kt _ hh).same s2), key _ ht⟩, EL, SC, SH⟩
    rw [upd_ne ne]
    exact s2 _ _ (by rw [upd_ne ne]; exact s1 _ _ z)
theorem ok_made {fI C : Addr} {dI : FuncData} (F : Fun K "_law_made" "_law_made" sMade f fd) (M : Mk K C fI) (G : FnOk P w K mg base CX0 6 fI dI ["self", "elders", "closed", "hollow", "several"] (spIni C)) (b : Binds K dI ["self", "elders", "closed", "hollow", "several"] []) (gC : mg "Kinds" = some (.ref C)) : FnOk P w K mg base CX0 8 f fd ["_law_four_here"] (spMade C) := by
  refine F.ok scMade (fun vs H Q E h => ?_) (fun cdv A outer s H vs Q E hr h => ?_)
  · obtain ⟨l, es, cl, ho, sv, rfl, _⟩ := h
    rfl
  · obtain ⟨l, es, cl, ho, sv, rfl, ⟨⟨e, c, h, hl, he, hc, hh⟩, EL, SC, SH⟩, q⟩ := h
    refine ⟨_, pss_one (ps_ret (pe_make M G hr (by rfl) gC b .nil pass0 (pa_cons (pe_ix ix_list (pv 0) pe_int (fun _ _ => rfl)) (pa_cons (pe_ix ix_list (pv 0) pe_int (fun _ _ => rfl)) (pa_cons (pe_ix ix_list (pv 0) pe_int (fun _ _ => rfl)) (pa_cons (pe_ix ix_list (pv 0) pe_int (fun _ _ => rfl)) pa_nil)))))), ?_⟩
    refine ⟨_, rfl, l, _, 0, e, rfl, rfl, SqL.of hl, atI_nat (j := 0) rfl, _, rfl, l, _, 1, c, rfl, rfl, SqL.of hl, atI_nat (j := 1) rfl, _, rfl, l, _, 2, h, rfl, rfl, SqL.of hl, atI_nat (j := 2) rfl, _, rfl, l, _, 3, .bl sv, rfl, rfl, SqL.of hl, atI_nat (j := 3) rfl, ?_⟩
    intro x dx nx nd ne
    have s1 : Same H (upd (upd H dx (.own x)) x (.ins C dx [])) := fun b o z => by rw [upd_ne (ne_of_none z nx), upd_ne (ne_of_none z nd)]; exact z
    refine ⟨x, dx, e, c, h, es, cl, ho, sv, rfl, upd_same, he.same s1, hc.same s1, hh.same s1, EL, SC, SH, fun H' k ko => ⟨rfl, q H' x (own_same (C := C) nx nd ne k) nx ko⟩⟩
end
end Kc

set_option Elab.async false
set_option linter.all false
set_option maxRecDepth 100000
set_option maxHeartbeats 4000000
namespace Kc
open PySem PySem.Spec PyProof.Rows L2 Kg Kd Kr Kf
abbrev sSome : Stmt := topS 21
abbrev sFour : Stmt := topS 22
abbrev nSome : List Str := ["_law_deck_here", "_law_many", "_law_most", "_law_left", "_law_number"]
abbrev nFour : List Str := ["_law_deck_here", "_law_most", "_law_many", "_law_several", "_law_elders", "_law_kind", "_law_some_here", "_law_closed", "_law_hollow"]
theorem scSome : FnScope nSome ["_law_deck_here", "_law_many", "_law_most"] (defScope sSome) := ⟨rfl, rfl, rfl, by decide +kernel, rfl, by decide +kernel, by decide +kernel⟩
theorem scFour : FnScope nFour ["_law_deck_here", "_law_most"] (defScope sFour) := ⟨rfl, rfl, rfl, by decide +kernel, rfl, by decide +kernel, by decide +kernel⟩
/-! ### draws -/
theorem DeckAt.put {H : Hp} {d la lb x : Addr} {n : Nat} {o : HO} (D : DeckAt H d la lb n) (n1 : d ≠ x) (n2 : la ≠ x) (n3 : lb ≠ x) : DeckAt (upd H x o) d la lb n := by
  obtain ⟨⟨xs, ys, t, h1, h2, h3, h4⟩, m1, m2, m3⟩ := D
  exact ⟨⟨xs, ys, t, by rw [upd_ne n1]; exact h1, by rw [upd_ne n2]; exact h2, by rw [upd_ne n3]; exact h3, h4⟩, m1, m2, m3⟩
/-- from H on some draws were made -/
structure Go (H : Hp) (d la lb : Addr) (n : Nat) (H' : Hp) : Prop where
  b0 : ∃ m, DeckAt H d la lb m
  now : DeckAt H' d la lb n
  kp : Keep (dk d la) H H'
section
variable {H H1 H2 : Hp} {d la lb x : Addr} {n m : Nat} {o : HO}
theorem Go.refl (D : DeckAt H d la lb n) : Go H d la lb n H := ⟨⟨n, D⟩, D, Keep.refl _ _⟩
theorem Go.draw (g : Go H d la lb n H1) (D : DeckAt H2 d la lb m) (k : Keep (dk d la) H1 H2) : Go H d la lb m H2 := ⟨g.b0, D, g.kp.trans k⟩
theorem Go.same (g : Go H d la lb n H1) (s : Same H1 H2) : Go H d la lb n H2 := ⟨g.b0, g.now.same s, g.kp.trans (.of_same s)⟩
theorem Go.less (g : Go H d la lb n H1) (h : m ≤ n) : Go H d la lb m H1 := ⟨g.b0, g.now.less h, g.kp⟩
theorem Go.trans (g : Go H d la lb n H1) (g2 : Go H1 d la lb m H2) : Go H d la lb m H2 := ⟨g.b0, g2.now, g.kp.trans g2.kp⟩
theorem Go.off (g : Go H d la lb n H1) (h : H x = none) : d ≠ x ∧ la ≠ x ∧ lb ≠ x := by
  obtain ⟨m, D⟩ := g.b0
  obtain ⟨a, b, c⟩ := D.tracked
  exact ⟨fun z => a (by rw [z]; exact h), fun z => b (by rw [z]; exact h), fun z => c (by rw [z]; exact h)⟩
theorem Go.put (g : Go H d la lb n H1) (h : H x = none) : Go H d la lb n (upd H1 x o) := by
  obtain ⟨a, b, c⟩ := g.off h
  exact ⟨g.b0, g.now.put a b c, fun e u z nz => by rw [upd_ne (ne_of_none z h)]; exact g.kp e u z nz⟩
theorem Go.put1 (g : Go H d la lb n H1) (h : H1 x = none) (h0 : H x = none) : Go H d la lb n (upd H1 x o) := g.same (same_new h)
theorem Go.free (g : Go H d la lb n H1) (h : H1 x = none) : H x = none := by
  cases e : H x with
  | none => rfl
  | some u =>
    obtain ⟨a, b, c⟩ := g.now.tracked
    have z := g.kp x u e (by rintro (z | z) <;> (rw [z] at h; contradiction))
    rw [h] at z; cases z
theorem Go.at_ (g : Go H d la lb n H1) (h : H x = some o) (n1 : d ≠ x) (n2 : la ≠ x) : H1 x = some o := g.kp x o h (by rintro (z | z) <;> (rw [z] at n1 n2; contradiction))
theorem Go.kf (g : Go H d la lb n H1) : KF H H1 := fun a o h f => by
  obtain ⟨m, ⟨xs, ys, t, h1, h2, _⟩, _⟩ := g.b0
  refine g.kp a o h ?_
  rintro (z | z)
  · rw [z, h1] at h; cases h; exact f
  · rw [z, h2] at h; cases h; exact f
end
def spSome : Sp := fun vs H Q _ => ∃ (d la lb : Addr) (n m b : Nat), vs = [.ref d, .int (n : Nat), .int (m : Nat)] ∧ n ≤ 6 ∧ DeckAt H d la lb (b + n) ∧
  ∀ H' p l, Go H d la lb b H' → H p = none → Tu H' (.ref p) (pdI l) → Som n l → l.length ≤ m → Q (.ref p) H'
def spFour : Sp := fun vs H Q _ => ∃ (d la lb : Addr) (m b : Nat), vs = [.ref d, .int (m : Nat)] ∧ 1 ≤ m ∧ m ≤ 6 ∧ DeckAt H d la lb (b + 64) ∧
  ∀ H' l es cl ho sv, Go H d la lb b H' → H l = none → Fo H' l es cl ho sv → es.length ≤ m → Q (.ref l) H'
/-! ### data of kinds -/
theorem lay_iD : ∀ xs : List Nat, PyData.canLayAll0 (xs.map iD) = true
  | [] => rfl
  | x :: r => by
    show (PyData.canLay0 (.int _) && PyData.canLayAll0 (r.map iD)) = true
    rw [lay_iD r]; rfl
theorem dep_iD : ∀ xs : List Nat, PyData.depthAll (xs.map iD) = 0
  | [] => rfl
  | x :: r => by
    show max (PyData.depth (.int _)) (PyData.depthAll (r.map iD)) = 0
    rw [dep_iD r]; rfl
theorem shaped_of {d : PyData} (h1 : PyData.canLay0 d = true) (h2 : d.depth ≤ 64) : SeqAt.shaped d = true := by
  unfold SeqAt.shaped
  rw [Bool.and_eq_true]
  exact ⟨h1, decide_eq_true h2⟩
theorem lay_pdI (l : List Nat) : PyData.canLay0 (pdI l) = true := lay_iD l
theorem dep_pdI (l : List Nat) : (pdI l).depth = 1 := by
  show PyData.depthAll (l.map iD) + 1 = 1
  rw [dep_iD]
theorem sh_pdI (l : List Nat) : SeqAt.shaped (pdI l) = true := shaped_of (lay_pdI l) (by rw [dep_pdI]; decide)
theorem lay_pdIs : ∀ es : List (List Nat), PyData.canLayAll0 (es.map pdI) = true
  | [] => rfl
  | x :: r => by
    show (PyData.canLay0 (pdI x) && PyData.canLayAll0 (r.map pdI)) = true
    rw [lay_pdIs r, lay_pdI]; rfl
theorem dep_pdIs : ∀ es : List (List Nat), PyData.depthAll (es.map pdI) ≤ 1
  | [] => Nat.zero_le _
  | x :: r => by
    show max (pdI x).depth (PyData.depthAll (r.map pdI)) ≤ 1
    have := dep_pdIs r
    rw [dep_pdI]; omega
theorem dep_pdE (es : List (List Nat)) : (pdE es).depth ≤ 2 := by
  show PyData.depthAll (es.map pdI) + 1 ≤ 2
  have := dep_pdIs es
  omega
theorem sh_pdE (es : List (List Nat)) : SeqAt.shaped (pdE es) = true := shaped_of (lay_pdIs es) (by have := dep_pdE es; omega)
theorem eqv_iDs : ∀ l m : List Nat, PyData.eqvAll (l.map iD) (m.map iD) = decide (l = m)
  | [], [] => by simp [PyData.eqvAll]
  | [], _ :: _ => by simp [PyData.eqvAll]
  | _ :: _, [] => by simp [PyData.eqvAll]
  | a :: l, b :: m => by
    have z := eqv_iDs l m
    simp only [List.map_cons, PyData.eqvAll, z, iD, PyData.eqv]
    by_cases h : a = b
    · subst h; simp
    · have h2 : ¬ ((a : Int) = (b : Int)) := by omega
      simp [h, h2]
theorem eqv_pdI (l m : List Nat) : PyData.eqv (pdI l) (pdI m) = decide (l = m) := by
  unfold pdI
  rw [PyData.eqv, eqv_iDs]
theorem eqv_pdIs : ∀ l m : List (List Nat), PyData.eqvAll (l.map pdI) (m.map pdI) = decide (l = m)
  | [], [] => by simp [PyData.eqvAll]
  | [], _ :: _ => by simp [PyData.eqvAll]
  | _ :: _, [] => by simp [PyData.eqvAll]
  | a :: l, b :: m => by
    have z := eqv_pdIs l m
    simp only [List.map_cons, PyData.eqvAll, z, eqv_pdI]
    by_cases h : a = b
    · subst h; simp
    · simp [h]
theorem eqv_pdE (l m : List (List Nat)) : PyData.eqv (pdE l) (pdE m) = decide (l = m) := by
  unfold pdE
  rw [PyData.eqv, eqv_pdIs]
section
variable {P : Program} {w : World} {K : PySem.W.Frag} {mg : Str → Option Value} {base : Heap} {f : Addr} {fd : FuncData} {k : Nat}
theorem som_snoc {n : Nat} {l : List Nat} (h : Som n l) : Som (n + 1) (l ++ [n]) := by
  refine ⟨List.pairwise_append.mpr ⟨h.asc, List.pairwise_singleton .., fun a ha b hb => ?_⟩, fun x hx => ?_⟩
  · rw [List.mem_singleton.mp hb]; exact h.low a ha
  · rcases List.mem_append.mp hx with z | z
    · have := h.low x z; omega
    · rw [List.mem_singleton.mp z]; omega
theorem som_up {n m : Nat} {l : List Nat} (h : Som n l) (z : n ≤ m) : Som m l := ⟨h.asc, fun x hx => Nat.lt_of_lt_of_le (h.low x hx) z⟩
theorem ok_some {fN : Addr} {dN : FuncData} (F : Fun K "_law_some" "_law_some" sSome f fd) (B : Bl mg) (GN : FnOk P w K mg base CX0 1 fN dN ["_law_deck_here", "_law_many"] spNext) (kN : PySem.W.keepIn K (.ref fN) = true) (bN : Binds K dN ["_law_deck_here", "_law_many"] []) (gN : mg "_law_next" = some (.ref fN)) : FnOk P w K mg base CX0 2 f fd ["_law_deck_here", "_law_many", "_law_most"] spSome := by
  refine F.ok scSome (fun vs H Q E h => ?_) (fun cdv A outer s H vs Q E hr h => ?_)
  · obtain ⟨d, la, lb, n, m, b, rfl, _⟩ := h
    rfl
  · obtain ⟨d, la, lb, n, m, b, rfl, hn, D, q⟩ := h
    refine ⟨_, pss_cons (ps_setLc (i := 3) (own := [("_law_number", 4)]) (g := gName 4) rfl scSome.nd rfl rfl (sw_true rfl rfl rfl (by decide +kernel)) (pi_range1 (by rfl) B.range (pa_cons (pv 1) pa_nil))
        (blkOk_by (N := nSome) (sc := defScope sSome) (by decide +kernel)) (fun _ _ _ _ _ => pg_name (i := 4) scSome.nd rfl (Or.inl rfl)) (fun _ _ _ _ _ => pts_one (pt_cmpR op_eq (pe_call GN hr (by rfl) gN kN bN .nil pass0 (pa_cons (pv 0) (pa_cons pe_int pa_nil))) pe_int (nomark _)))
        (fun _ _ _ _ _ => pv 4))
      (pss_one (ps_ret (pe_callTy call_tuple_of (by rfl) B.tuple PyProof.Rows.boot_tuple (pa_cons (pe_slice sl_list (pv 3) po_none (po_some (pv 2))) pa_nil)))), ?_⟩
    refine ⟨_, rfl, (n : Nat), rfl, by omega, by omega, fun Dl nD => ?_⟩
    refine lc_range (lo := 0) (n := ((n : Nat) : Int).toNat) (fun i H1 => ∃ l : List Nat, Go H d la lb (b + (n - i)) H1 ∧ H1 Dl = some (.lst (l.map iV)) ∧ Som i l) ⟨[], (Go.refl D).same (same_new nD), upd_same, ⟨.nil, fun x hx => nomatch hx⟩⟩ (fun i H1 hi p => ?_) (fun H1 p => ?_)
    · obtain ⟨l, g, hD, sl⟩ := p
      rw [Int.toNat_natCast] at hi
      have ll := sl.len
      obtain ⟨o1, o2, o3⟩ := g.off nD
      refine ⟨rfl, _, rfl, d, la, lb, 2, b + (n - (i + 1)), rfl, by decide, by decide, g.now.less (by omega), fun v H2 _ _ D2 k2 => ⟨rfl, _, rfl, ?_⟩⟩
      have g2 := g.draw D2 k2
      have hD2 := k2 _ _ hD (by rintro (z | z) <;> (rw [z] at o1 o2; contradiction))
      refine ite2 (fun _ => ?_) (fun _ => ?_)
      · refine ⟨_, rfl, _, hD2, ?_, l ++ [i], ?_, ?_, som_snoc sl⟩
        · rw [List.length_map]; exact small1000 (by omega)
        · exact g2.put nD
        · rw [upd_same, List.map_append]
          show some (HO.lst (l.map iV ++ [V.int (0 + (i : Nat))])) = _
          rw [Int.zero_add]; rfl
      · exact ⟨l, g2, hD2, som_up sl (by omega)⟩
    · obtain ⟨l, g, hD, sl⟩ := p
      rw [Int.toNat_natCast] at sl g
      have ll := sl.len
      refine ⟨_, rfl, _, rfl, _, rfl, Dl, _, rfl, SqL.of hD, fun p np => ?_⟩
      have e1 : cutV (l.map iV) none (some (m : Nat)) = (l.take m).map iV := by
        unfold cutV
        rw [HT.sIx_none, HT.sIx_nat, List.length_map, List.drop_zero, Nat.sub_zero, ← List.map_take]
        congr 1
        by_cases h : m ≤ l.length
        · rw [Nat.min_eq_left h]
        · rw [Nat.min_eq_right (by omega), List.take_of_length_le (by omega), List.take_of_length_le (by omega)]
      rw [e1]
      have g2 := g.same (same_new (o := HO.lst ((l.take m).map iV)) np)
      refine ⟨p, _, rfl, .inl ⟨SqL.of upd_same, fun t nt => ?_⟩⟩
      have g3 := g2.same (same_new (o := HO.tup ((l.take m).map iV)) nt)
      have tl : (l.take m).length ≤ l.length := by rw [List.length_take]; omega
      refine q _ t (l.take m) (g3.less (by omega)) (g2.free nt) (tu_ints upd_same (by omega)) ⟨sl.asc.sublist (List.take_sublist ..), fun x hx => sl.low x (List.mem_of_mem_take hx)⟩ (by rw [List.length_take]; omega)
end
end Kc

set_option Elab.async false
set_option linter.all false
set_option maxRecDepth 100000
set_option maxHeartbeats 8000000
namespace Kc
open PySem PySem.Spec PyProof.Rows L2 Kg Kd Kr Kf
theorem eqv_nilT (l : List Nat) : PyData.eqv (pdI l) (.tuple []) = l.isEmpty := by
  have z := eqv_pdI l []
  have e : pdI [] = .tuple [] := rfl
  rw [e] at z
  rw [z]
  cases l <;> rfl
/-- elders so far -/
structure ElP (es : List (List Nat)) (sv : Bool) : Prop where
  asc : ∀ (k : Nat) (l : List Nat), es[k]? = some l → l.Pairwise (· < ·)
  low : ∀ (k : Nat) (l : List Nat), es[k]? = some l → ∀ x ∈ l, x < k
  one : ∀ (k : Nat) (l : List Nat), es[k]? = some l → sv = false → l.length ≤ 1
theorem ElP.nil {sv : Bool} : ElP [] sv := ⟨fun k l h => by simp at h, fun k l h => by simp at h, fun k l h => by simp at h⟩
theorem ElP.snoc {es : List (List Nat)} {sv : Bool} {l : List Nat} (E : ElP es sv) (h : Som es.length l) (o : sv = false → l.length ≤ 1) : ElP (es ++ [l]) sv := by
  have key : ∀ (k : Nat) (m : List Nat), (es ++ [l])[k]? = some m → es[k]? = some m ∨ (k = es.length ∧ m = l) := by
    intro k m z
    by_cases c : k < es.length
    · rw [List.getElem?_append_left c] at z; exact .inl z
    · rw [List.getElem?_append_right (by omega)] at z
      by_cases c2 : k - es.length = 0
      · rw [c2] at z
        simp at z
        exact .inr ⟨by omega, z.symm⟩
      · rw [List.getElem?_eq_none (by rw [List.length_singleton]; omega)] at z; cases z
  refine ⟨fun k m z => ?_, fun k m z => ?_, fun k m z => ?_⟩
  · rcases key k m z with y | ⟨rfl, rfl⟩
    · exact E.asc k m y
    · exact h.asc
  · rcases key k m z with y | ⟨rfl, rfl⟩
    · exact E.low k m y
    · exact h.low
  · rcases key k m z with y | ⟨rfl, rfl⟩
    · exact E.one k m y
    · exact o
theorem som_one {k : Nat} (h : 0 < k) : Som k [k - 1] := ⟨List.pairwise_singleton .., fun x hx => by rw [List.mem_singleton.mp hx]; omega⟩
section
variable {P : Program} {w : World} {K : PySem.W.Frag} {mg : Str → Option Value} {base : Heap} {f : Addr} {fd : FuncData} {k : Nat}
theorem ok_four {fN fS : Addr} {dN dS : FuncData} (F : Fun K "_law_four" "_law_four" sFour f fd) (B : Bl mg) (GN : FnOk P w K mg base CX0 1 fN dN ["_law_deck_here", "_law_many"] spNext) (kN : PySem.W.keepIn K (.ref fN) = true) (bN : Binds K dN ["_law_deck_here", "_law_many"] []) (gN : mg "_law_next" = some (.ref fN))
    (GS : FnOk P w K mg base CX0 2 fS dS ["_law_deck_here", "_law_many", "_law_most"] spSome) (kS : PySem.W.keepIn K (.ref fS) = true) (bS : Binds K dS ["_law_deck_here", "_law_many", "_law_most"] []) (gS : mg "_law_some" = some (.ref fS)) : FnOk P w K mg base CX0 3 f fd ["_law_deck_here", "_law_most"] spFour := by
  refine F.ok scFour (fun vs H Q E h => ?_) (fun cdv A outer s H vs Q E hr h => ?_)
  · obtain ⟨d, la, lb, m, b, rfl, _⟩ := h
    rfl
  · obtain ⟨d, la, lb, m, b, rfl, hm1, hm6, D, q⟩ := h
    have hr1 := hr.mono (show 1 ≤ 2 by decide)
    refine ⟨_, pss_cons (ps_par (i := 2) (j := 3) (by rfl) scFour.nd rfl rfl (by decide) rfl rfl (pa_cons (pe_op op_add pe_int (pe_call GN hr1 (by rfl) gN kN bN .nil pass0 (pa_cons (pv 0) (pa_cons (pv 1) pa_nil)))) (pa_cons (pe_cmpR op_gt (pe_call GN hr1 (by rfl) gN kN bN .nil pass0 (pa_cons (pv 0) (pa_cons pe_int pa_nil))) pe_int (nomark _)) pa_nil)) (by rfl))
      (pss_cons (ps_set (i := 4) scFour.nd rfl (.inl rfl) (pe_lst pa_nil))
      (pss_cons (ps_for PassesOwn.never rfl (pi_range1 (by rfl) B.range (pa_cons (pv 2) pa_nil)) (pg_name (i := 5) scFour.nd rfl (.inl rfl))
        (pss_cons (ps_set (i := 6) scFour.nd rfl (.inl rfl) (pe_call GS hr (by rfl) gS kS bS .nil pass0 (pa_cons (pv 0) (pa_cons (pv 5) (pa_cons (pe_ifExp (pt_val (pv 3)) (pe_ix ix_list (pe_lst (pa_cons pe_int (pa_cons pe_int (pa_cons pe_int pa_nil)))) (pe_call GN hr1 (by rfl) gN kN bN .nil pass0 (pa_cons (pv 0) (pa_cons pe_int pa_nil))) (fun _ _ => rfl)) pe_int) pa_nil)))))
        (pss_cons (ps_if (PW.pt (pw_and (pt_cmpR op_gt (pv 5) pe_int (nomark _)) (pw_and (pt_cmpR (op_eqD hr.units) (pv 6) (pe_tup pa_nil) (nomark _)) (pw_and1 (pt_cmpR op_eq (pe_call GN hr1 (by rfl) gN kN bN .nil pass0 (pa_cons (pv 0) (pa_cons pe_int pa_nil))) pe_int (nomark _))))))
          (pss_one (ps_set (i := 6) scFour.nd rfl (.inl rfl) (pe_tup (pa_cons (pe_op op_sub (pv 5) pe_int) pa_nil)))) pss_nil)
        (pss_one (ps_expr (pe_bm PySem.F.plainAttrs_list PySem.F.slot_list_append PySem.F.type_list_append mt_append (pv 4) (pa_cons (pv 6) pa_nil)))))))
      (pss_cons (ps_set (i := 7) scFour.nd rfl (.inl rfl) (pe_callTy call_tuple_of (by rfl) B.tuple PyProof.Rows.boot_tuple (pa_cons (pe_lc (own := [("_law_kind", 5)]) (g := gName 5) rfl scFour.nd (pi_range1 (by rfl) B.range (pa_cons (pv 2) pa_nil))
        (blkOk_by (N := nFour) (sc := defScope sFour) (by decide +kernel)) (fun _ _ _ _ _ => pg_name (i := 5) scFour.nd rfl (Or.inl rfl)) (fun _ _ _ _ _ => pts_one (pt_cmpR op_eq (pe_call GN hr1 (by rfl) gN kN bN .nil pass0 (pa_cons (pv 0) (pa_cons pe_int pa_nil))) pe_int (nomark _)))
        (fun _ _ _ _ _ => pv 5)) pa_nil)))
      (pss_cons (ps_set (i := 8) scFour.nd rfl (.inl rfl) (pe_callTy call_tuple_of (by rfl) B.tuple PyProof.Rows.boot_tuple (pa_cons (pe_lc (own := [("_law_kind", 5)]) (g := gName 5) rfl scFour.nd (pi_range1 (by rfl) B.range (pa_cons (pv 2) pa_nil))
        (blkOk_by (N := nFour) (sc := defScope sFour) (by decide +kernel)) (fun _ _ _ _ _ => pg_name (i := 5) scFour.nd rfl (Or.inl rfl)) (fun _ _ _ _ _ => pts_one (pt_cmpR op_eq (pe_call GN hr1 (by rfl) gN kN bN .nil pass0 (pa_cons (pv 0) (pa_cons pe_int pa_nil))) pe_int (nomark _)))
        (fun _ _ _ _ _ => pv 5)) pa_nil)))
      (pss_one (ps_ret (pe_lst (pa_cons (pe_callTy call_tuple_of (by rfl) B.tuple PyProof.Rows.boot_tuple (pa_cons (pv 4) pa_nil)) (pa_cons (pv 7) (pa_cons (pv 8) (pa_cons (pv 3) pa_nil))))))))))), ?_⟩
    -- many, several
    refine ⟨_, rfl, _, rfl, d, la, lb, (m : Nat), b + 63, rfl, by omega, by omega, D, fun v H1 v0 v1 D1 k1 => ⟨1, v, rfl, rfl, ?_⟩⟩
    refine ⟨_, rfl, d, la, lb, 4, b + 62, rfl, by decide, by decide, D1, fun u H2 u0 u1 D2 k2 => ⟨u, 0, rfl, rfl, ?_⟩⟩
    obtain ⟨n, rfl⟩ : ∃ n : Nat, v = (n : Nat) := ⟨v.toNat, by omega⟩
    have e1 : (1 : Int) + (n : Nat) = ((n + 1 : Nat) : Int) := by omega
    have hN : n + 1 ≤ m := by omega
    obtain ⟨sv, hsv⟩ : ∃ sv, decide (0 < u) = sv := ⟨_, rfl⟩
    refine ⟨.int ((n + 1 : Nat) : Int), .bl sv, by rw [← e1, ← hsv], ?_⟩
    have g2 := ((Go.refl D).draw D1 k1).draw D2 k2
    refine ⟨(show 0 ≤ sizeLine by decide), fun L nL => ?_⟩
    have nL0 := g2.free nL
    have g3 := g2.same (same_new (o := HO.lst []) nL)
    -- the elders
    refine ⟨_, rfl, ((n + 1 : Nat) : Int), rfl, by omega, by omega, for_range (lo := 0) (n := ((n + 1 : Nat) : Int).toNat) (fun i σ H3 => ∃ (y5 y6 : Option V) (es : List (List Nat)) (vs : List V), σ = [some (.ref d), some (.int (m : Nat)), some (.int ((n + 1 : Nat) : Int)), some (.bl sv), some (.ref L), y5, y6, none, none] ∧ Go H d la lb (b + 14 + 8 * (6 - i)) H3 ∧ H3 L = some (.lst vs) ∧ TuAll H3 vs (es.map pdI) ∧ es.length = i ∧ ElP es sv)
      ⟨none, none, [], [], rfl, g3.less (by omega), upd_same, .nil, rfl, ElP.nil⟩ (fun i σ H3 hi p => ?_) (fun σ H3 p => ?_)⟩
    · obtain ⟨y5, y6, es, vs, rfl, g, hL, tu, hl, EP⟩ := p
      have e2 : ((n + 1 : Nat) : Int).toNat = n + 1 := by omega
      rw [e2] at hi
      have ei : (0 : Int) + (i : Nat) = (i : Nat) := by omega
      rw [ei]
      obtain ⟨o1, o2, o3⟩ := g.off nL0
      -- what follows the row
      refine ⟨_, rfl, _, rfl, _, rfl, _, rfl, ?_⟩
      have after : ∀ (H5 : Hp) (p : Addr) (l : List Nat), Go H d la lb (b + 14 + 8 * (6 - (i + 1)) + 1) H5 → H5 L = some (.lst vs) → TuAll H5 vs (es.map pdI) → Tu H5 (.ref p) (pdI l) → Som i l → (sv = false → l.length ≤ 1) → Go H d la lb (b + 14 + 8 * (6 - (i + 1))) (upd H5 L (.lst (vs ++ [.ref p]))) ∧ TuAll (upd H5 L (.lst (vs ++ [.ref p]))) (vs ++ [.ref p]) ((es ++ [l]).map pdI) ∧ (es ++ [l]).length = i + 1 ∧ ElP (es ++ [l]) sv := by
        intro H5 p l g5 hL5 tu5 tp sl ll
        refine ⟨(g5.put nL0).less (by omega), ?_, by rw [List.length_append, List.length_singleton, hl], EP.snoc (by rw [hl]; exact sl) ll⟩
        rw [List.map_append]
        exact (tu5.append (.cons tp .nil)).keep (KF.putL hL5)
      cases sv
      case' true =>
        refine iteT ⟨(show 3 ≤ sizeLine by decide), fun Lr nLr => ⟨_, rfl, d, la, lb, 3, b + 14 + 8 * (6 - (i + 1)) + 1 + i, rfl, by decide, by decide, (g.now.same (same_new nLr)).less (by omega), fun r H4 r0 r1 D4 k4 => ?_⟩⟩
        have g4 := (g.same (same_new (o := HO.lst [.int 1, .int 2, .int 5]) nLr)).draw D4 k4
        have hLr : H4 Lr = some (.lst [.int 1, .int 2, .int 5]) := k4 _ _ upd_same (by
          obtain ⟨a1, a2, _⟩ := g.now.tracked
          rintro (z | z) <;> (rw [z] at nLr; contradiction))
        have hL4 : H4 L = some (.lst vs) := k4 _ _ (same_new nLr _ _ hL) (by rintro (z | z) <;> (rw [z] at o1 o2; contradiction))
        have tu4 : TuAll H4 vs (es.map pdI) := tu.keep ((KF.of_same (same_new nLr)).trans (Go.kf ((Go.refl (g.now.same (same_new nLr))).draw D4 k4)))
        have pick : ∃ mm : Nat, atI ([.int 1, .int 2, .int 5] : List V) r = some (.int (mm : Nat)) := by
          have : r = 0 ∨ r = 1 ∨ r = 2 := by omega
          rcases this with h | h | h <;> subst h
          · exact ⟨1, rfl⟩
          · exact ⟨2, rfl⟩
          · exact ⟨5, rfl⟩
        obtain ⟨mm, hmm⟩ := pick
        refine ⟨Lr, _, r, .int (mm : Nat), rfl, rfl, SqL.of hLr, hmm, d, la, lb, i, mm, b + 14 + 8 * (6 - (i + 1)) + 1, rfl, by omega, g4.now, fun H5 p l g5' np tp sl ll0 => ?_⟩
        have g5 := g4.trans g5'
        have hL5 := g5'.at_ hL4 o1 o2
        have tu5 := tu4.keep g5'.kf
        have ll : true = false → l.length ≤ 1 := fun z => nomatch z
      case' false =>
        refine iteF ⟨d, la, lb, i, 1, b + 14 + 8 * (6 - (i + 1)) + 1, rfl, by omega, g.now.less (by omega), fun H5 p l g5' np tp sl ll0 => ?_⟩
        have g5 := g.trans g5'
        have hL5 := g5'.at_ hL o1 o2
        have tu5 := tu.keep g5'.kf
        have ll : false = false → l.length ≤ 1 := fun _ => ll0
      all_goals
        have vl : vs.length < sizeLine := by rw [tu5.length, List.length_map, hl]; exact small1000 (by omega)
        refine ⟨_, rfl, _, 0, rfl, rfl, _, rfl, ?_⟩
        by_cases c0 : (0 : Int) < (i : Nat)
        · rw [decide_eq_true c0]
          refine iteT ⟨_, rfl, (show 0 ≤ sizeLine by decide), fun em nem => ?_⟩
          have sE := same_new (o := HO.tup []) nem
          refine ⟨pdI l, .tuple [], (tp.same sE).dp, .tup (SqT.of upd_same) .nil, sh_pdI l, by decide +kernel, _, rfl, ?_⟩
          rw [eqv_nilT]
          have g6 := g5.same sE
          have hL6 := sE _ _ hL5
          have tu6 := tu5.keep (.of_same sE)
          have tp6 := tp.same sE
          generalize (upd H5 em (.tup [])) = H6 at g6 hL6 tu6 tp6 ⊢
          by_cases c1 : l.isEmpty = true
          · rw [c1]
            refine iteT ⟨_, rfl, d, la, lb, 2, b + 14 + 8 * (6 - (i + 1)), rfl, by decide, by decide, g6.now, fun r2 H7 _ _ D7 k7 => ⟨rfl, _, rfl, ite2 (fun _ => ?_) (fun _ => ?_)⟩⟩
            · have g7 := g6.draw D7 k7
              have gg := (Go.refl g6.now).draw D7 k7
              have hL7 := gg.at_ hL6 o1 o2
              have tu7 := tu6.keep gg.kf
              refine ⟨_, rfl, _, 1, rfl, rfl, (show 1 ≤ sizeLine by decide), fun t nt => ?_⟩
              have ek : ((i : Nat) : Int) - 1 = ((i - 1 : Nat) : Int) := by omega
              have sT := same_new (o := HO.tup [.int ((i : Nat) - 1)]) nt
              have tt : Tu (upd H7 t (.tup [.int ((i : Nat) - 1)])) (.ref t) (pdI [i - 1]) := tu_ints (l := [i - 1]) (by rw [upd_same, ek]; rfl) (by simp)
              have g8 := g7.same sT
              have hL8 := sT _ _ hL7
              have tu8 := tu7.keep (.of_same sT)
              refine ⟨_, rfl, .inl ⟨rfl, _, SqL.of hL8⟩, _, rfl, L, _, _, rfl, rfl, hL8, vl, ?_⟩
              refine ⟨_, _, es ++ [[i - 1]], vs ++ [.ref t], rfl, (g8.put nL0), upd_same, ?_, by rw [List.length_append, List.length_singleton, hl], EP.snoc (by rw [hl]; exact som_one (by omega)) (fun _ => Nat.le_refl _)⟩
              rw [List.map_append]
              exact (tu8.append (.cons tt .nil)).keep (KF.putL hL8)
            · have g7 := g6.draw D7 k7
              have gg := (Go.refl g6.now).draw D7 k7
              have hL7 := gg.at_ hL6 o1 o2
              refine ⟨_, rfl, .inl ⟨rfl, _, SqL.of hL7⟩, _, rfl, L, _, _, rfl, rfl, hL7, vl, ?_⟩
              refine ⟨_, _, es ++ [l], vs ++ [.ref p], rfl, (g7.put nL0), upd_same, ?_, by rw [List.length_append, List.length_singleton, hl], EP.snoc (by rw [hl]; exact sl) ll⟩
              rw [List.map_append]
              exact ((tu6.keep gg.kf).append (.cons (tp6.keep gg.kf) .nil)).keep (KF.putL hL7)
          · rw [Bool.not_eq_true] at c1
            rw [c1]
            obtain ⟨z1, z2, z3, z4⟩ := after H6 p l g6 hL6 tu6 tp6 sl ll
            refine iteF (iteF ⟨_, rfl, .inl ⟨rfl, _, SqL.of hL6⟩, _, rfl, L, _, _, rfl, rfl, hL6, vl, ⟨_, _, es ++ [l], vs ++ [.ref p], rfl, z1, upd_same, z2, z3, z4⟩⟩)
        · rw [decide_eq_false c0]
          obtain ⟨z1, z2, z3, z4⟩ := after H5 p l g5 hL5 tu5 tp sl ll
          refine iteF (iteF ⟨_, rfl, .inl ⟨rfl, _, SqL.of hL5⟩, _, rfl, L, _, _, rfl, rfl, hL5, vl, ⟨_, _, es ++ [l], vs ++ [.ref p], rfl, z1, upd_same, z2, z3, z4⟩⟩)
    · obtain ⟨y5, y6, es, vs, rfl, g, hL, tu, hl, EP⟩ := p
      have e2 : ((n + 1 : Nat) : Int).toNat = n + 1 := by omega
      rw [e2] at hl g
      -- closed
      refine ⟨_, rfl, ((n + 1 : Nat) : Int), rfl, by omega, by omega, fun D1 nD1 => ?_⟩
      refine lc_range (lo := 0) (n := ((n + 1 : Nat) : Int).toNat) (fun i H4 => ∃ l : List Nat, Go H3 d la lb (b + 7 + (7 - i)) H4 ∧ H4 D1 = some (.lst (l.map iV)) ∧ Som i l) ⟨[], ((Go.refl g.now).same (same_new nD1)).less (by omega), upd_same, ⟨.nil, fun x hx => nomatch hx⟩⟩ (fun i H4 hi p => ?_) (fun H4 p => ?_)
      · obtain ⟨l, g4, hD, sl⟩ := p
        rw [e2] at hi
        have ll := sl.len
        obtain ⟨o1, o2, o3⟩ := g4.off nD1
        refine ⟨rfl, _, rfl, d, la, lb, 3, b + 7 + (7 - (i + 1)), rfl, by decide, by decide, g4.now.less (by omega), fun v H5 _ _ D5 k5 => ⟨rfl, _, rfl, ?_⟩⟩
        have g5 := g4.draw D5 k5
        have hD5 := k5 _ _ hD (by rintro (z | z) <;> (rw [z] at o1 o2; contradiction))
        refine ite2 (fun _ => ?_) (fun _ => ?_)
        · refine ⟨_, rfl, _, hD5, ?_, l ++ [i], ?_, ?_, som_snoc sl⟩
          · rw [List.length_map]; exact small1000 (by omega)
          · exact g5.put nD1
          · rw [upd_same, List.map_append]
            show some (HO.lst (l.map iV ++ [V.int (0 + (i : Nat))])) = _
            rw [Int.zero_add]; rfl
        · exact ⟨l, g5, hD5, som_up sl (by omega)⟩
      · obtain ⟨cl, g4, hD, slc⟩ := p
        rw [e2] at slc g4
        have llc := slc.len
        refine ⟨D1, _, rfl, .inl ⟨SqL.of hD, fun tc ntc => ?_⟩⟩
        have g5 := g4.same (same_new (o := HO.tup (cl.map iV)) ntc)
        have tcl : Tu (upd H4 tc (.tup (cl.map iV))) (.ref tc) (pdI cl) := tu_ints upd_same (by omega)
        generalize (upd H4 tc (.tup (cl.map iV))) = H5 at g5 tcl ⊢
        -- hollow
        refine ⟨_, rfl, ((n + 1 : Nat) : Int), rfl, by omega, by omega, fun D2 nD2 => ?_⟩
        refine lc_range (lo := 0) (n := ((n + 1 : Nat) : Int).toNat) (fun i H6 => ∃ l : List Nat, Go H5 d la lb (b + (7 - i)) H6 ∧ H6 D2 = some (.lst (l.map iV)) ∧ Som i l) ⟨[], ((Go.refl g5.now).same (same_new nD2)).less (by omega), upd_same, ⟨.nil, fun x hx => nomatch hx⟩⟩ (fun i H6 hi p => ?_) (fun H6 p => ?_)
        · obtain ⟨l, g6, hD, sl⟩ := p
          rw [e2] at hi
          have ll := sl.len
          obtain ⟨o1, o2, o3⟩ := g6.off nD2
          refine ⟨rfl, _, rfl, d, la, lb, 4, b + (7 - (i + 1)), rfl, by decide, by decide, g6.now.less (by omega), fun v H7 _ _ D7 k7 => ⟨rfl, _, rfl, ?_⟩⟩
          have g7 := g6.draw D7 k7
          have hD7 := k7 _ _ hD (by rintro (z | z) <;> (rw [z] at o1 o2; contradiction))
          refine ite2 (fun _ => ?_) (fun _ => ?_)
          · refine ⟨_, rfl, _, hD7, ?_, l ++ [i], ?_, ?_, som_snoc sl⟩
            · rw [List.length_map]; exact small1000 (by omega)
            · exact g7.put nD2
            · rw [upd_same, List.map_append]
              show some (HO.lst (l.map iV ++ [V.int (0 + (i : Nat))])) = _
              rw [Int.zero_add]; rfl
          · exact ⟨l, g7, hD7, som_up sl (by omega)⟩
        · obtain ⟨ho, g6, hD, slh⟩ := p
          rw [e2] at slh g6
          have llh := slh.len
          refine ⟨D2, _, rfl, .inl ⟨SqL.of hD, fun th nth => ?_⟩⟩
          have g7 := g6.same (same_new (o := HO.tup (ho.map iV)) nth)
          have tho : Tu (upd H6 th (.tup (ho.map iV))) (.ref th) (pdI ho) := tu_ints upd_same (by omega)
          generalize (upd H6 th (.tup (ho.map iV))) = H7 at g7 tho ⊢
          -- the list
          have gA := (g5.trans g7)
          have gB := g.trans gA
          obtain ⟨o1, o2, o3⟩ := g.off nL0
          have hL7 := gA.at_ hL o1 o2
          have tu7 := tu.keep gA.kf
          refine ⟨_, rfl, L, _, rfl, .inl ⟨SqL.of hL7, fun te nte => ?_⟩⟩
          have s8 := same_new (o := HO.tup vs) nte
          have tel : Tu (upd H7 te (.tup vs)) (.ref te) (pdE es) := .tup upd_same (by rw [tu7.length, List.length_map, hl]; omega) (tu7.keep (.of_same s8))
          refine ⟨_, rfl, _, rfl, _, rfl, (show 4 ≤ sizeLine by decide), fun lf nlf => ?_⟩
          have s9 := same_new (o := HO.lst [.ref te, .ref tc, .ref th, .bl sv]) nlf
          have g9 := (gB.same s8).same s9
          refine q _ lf es cl ho sv (g9.less (by omega)) ((gB.same s8).free nlf) ⟨⟨.ref te, .ref tc, .ref th, upd_same, tel.same s9, ((tcl.keep g7.kf).same s8).same s9, (tho.same s8).same s9⟩, ⟨by omega, by omega, EP.asc, EP.low, EP.one⟩, by rw [hl]; exact slc, by rw [hl]; exact slh⟩ (by omega)
end
end Kc

set_option Elab.async false
set_option linter.all false
set_option maxRecDepth 100000
set_option maxHeartbeats 4000000
namespace Kc
open PySem PySem.Spec PyProof.Rows L2 Kg Kd
abbrev sOdd : Stmt := topS 20
abbrev nOdd : List Str := ["_law_deck_here", "_law_some_here"]
theorem scOdd : FnScope nOdd ["_law_deck_here"] (defScope sOdd) := ⟨rfl, rfl, rfl, by decide +kernel, rfl, by decide +kernel, by decide +kernel⟩
def odd1 : List PyData := [.none, .bool true, .bool false, .int 0, .int 1, .int 2, .int 5, .int 6, .int 9, .int 10, .int (-1), .int (10 ^ (Int.toNat 30)), .str "", .str "0", .str "add", .tuple [], .list [], .dict [], .tuple [.int 0], .tuple [.int 1], .tuple [.int 0, .int 1]]
def odd2 : List PyData := [.list [.int 0], .tuple [.bool true], .tuple [.none], .tuple [.tuple []], .tuple [.tuple [.int 0]], .tuple [.int 0, .int 0], .tuple [.int 1, .int 0], .tuple [.tuple [.int 0, .bool true], .int 1], .tuple [.int 1, .int 0, .int 1], .str "several"]
def odd3 : List PyData := [.tuple [.tuple [.int 0, .bool true]], .tuple [.tuple [.tuple [.int 0, .bool true]], .int 1], .tuple [.int 0, .bool true], .tuple [.int 0, .int 1, .int 2], .dict [(.int 0, .int 1)], .tuple [.str "full", .tuple []], .tuple [.str "0"], .tuple [.int 0, .list [.int 1]]]
def odd4 : List PyData := [.tuple [.list []], .tuple [.dict []]]
def oddA : List PyData := odd1 ++ odd2 ++ odd3 ++ odd4
theorem odd_len : oddA.length = 41 := rfl
theorem odd_depth : (oddA.all fun d => decide (d.depth ≤ 4)) = true := by decide +kernel
section
variable {X : Cx}
end
def spOdd : Sp := fun vs H Q _ => ∃ (d la lb : Addr) (b : Nat), vs = [.ref d] ∧ DeckAt H d la lb (b + 1) ∧
  ∀ (x : V) (D : PyData) H', DeckAt H' d la lb b → Keep (dk d la) H H' → Da (trk H) H' x D → D ∈ oddA → Q x H'
theorem DaAll.app {av : Addr → Prop} {H : Hp} : ∀ {xs ys : List V} {ds es : List PyData}, DaAll av H xs ds → DaAll av H ys es → DaAll av H (xs ++ ys) (ds ++ es)
  | _, _, _, _, .nil, r => r
  | _, _, _, _, .cons h t, r => .cons h (DaAll.app t r)
section
variable {P : Program} {w : World} {K : PySem.W.Frag} {mg : Str → Option Value} {base : Heap}
theorem ok_odd {f fN : Addr} {fd fdN : FuncData} {k : Nat} (F : Fun K "_law_odd" "_law_odd" sOdd f fd) (B : Bl mg) (FN : Fun K "_law_next" "_law_next" sNext fN fdN) (bN : Binds K fdN ["_law_deck_here", "_law_many"] []) (gN : mg "_law_next" = some (.ref fN)) : FnOk P w K mg base CX0 (k + 2) f fd ["_law_deck_here"] spOdd := by
  have GN : FnOk P w K mg base CX0 (k + 1) fN fdN ["_law_deck_here", "_law_many"] spNext := ok_next FN B.int B.len
  refine F.ok scOdd (fun vs H Q E h => ?_) (fun cdv A outer s H vs Q E hr h => ?_)
  · obtain ⟨d, la, lb, b, rfl, _⟩ := h
    rfl
  · obtain ⟨d, la, lb, b, rfl, D, q⟩ := h
    have hr1 : Room (k + 1) _ := hr
    refine ⟨_, pss_cons (ps_set (i := 1) scOdd.nd rfl (.inl rfl) (pd_lst (ds := odd1) (hl := show 21 ≤ 1000 by decide) (pds_cons pd_non (pds_cons pd_bl (pds_cons pd_bl (pds_cons pd_int (pds_cons pd_int (pds_cons pd_int (pds_cons pd_int (pds_cons pd_int (pds_cons pd_int (pds_cons pd_int (pds_cons pd_neg (pds_cons (pd_pow ⟨by decide, by decide, by decide⟩) (pds_cons pd_str (pds_cons pd_str (pds_cons pd_str (pds_cons (pd_tup pds_nil) (pds_cons (pd_lst pds_nil) (pds_cons pd_d0 (pds_cons (pd_tup (pds_cons pd_int pds_nil)) (pds_cons (pd_tup (pds_cons pd_int pds_nil)) (pds_cons (pd_tup (pds_cons pd_int (pds_cons pd_int pds_nil))) pds_nil)))))))))))))))))))))))
      (pss_cons (ps_set (i := 1) scOdd.nd rfl (.inl rfl) (pe_op op_cat (pv 1) (pd_lst (ds := odd2) (hl := show 10 ≤ 1000 by decide) (pds_cons (pd_lst (pds_cons pd_int pds_nil)) (pds_cons (pd_tup (pds_cons pd_bl pds_nil)) (pds_cons (pd_tup (pds_cons pd_non pds_nil)) (pds_cons (pd_tup (pds_cons (pd_tup pds_nil) pds_nil)) (pds_cons (pd_tup (pds_cons (pd_tup (pds_cons pd_int pds_nil)) pds_nil)) (pds_cons (pd_tup (pds_cons pd_int (pds_cons pd_int pds_nil))) (pds_cons (pd_tup (pds_cons pd_int (pds_cons pd_int pds_nil))) (pds_cons (pd_tup (pds_cons (pd_tup (pds_cons pd_int (pds_cons pd_bl pds_nil))) (pds_cons pd_int pds_nil))) (pds_cons (pd_tup (pds_cons pd_int (pds_cons pd_int (pds_cons pd_int pds_nil)))) (pds_cons pd_str pds_nil)))))))))))))
      (pss_cons (ps_set (i := 1) scOdd.nd rfl (.inl rfl) (pe_op op_cat (pv 1) (pd_lst (ds := odd3) (hl := show 8 ≤ 1000 by decide) (pds_cons (pd_tup (pds_cons (pd_tup (pds_cons pd_int (pds_cons pd_bl pds_nil))) pds_nil)) (pds_cons (pd_tup (pds_cons (pd_tup (pds_cons (pd_tup (pds_cons pd_int (pds_cons pd_bl pds_nil))) pds_nil)) (pds_cons pd_int pds_nil))) (pds_cons (pd_tup (pds_cons pd_int (pds_cons pd_bl pds_nil))) (pds_cons (pd_tup (pds_cons pd_int (pds_cons pd_int (pds_cons pd_int pds_nil)))) (pds_cons pd_d1 (pds_cons (pd_tup (pds_cons pd_str (pds_cons (pd_tup pds_nil) pds_nil))) (pds_cons (pd_tup (pds_cons pd_str pds_nil)) (pds_cons (pd_tup (pds_cons pd_int (pds_cons (pd_lst (pds_cons pd_int pds_nil)) pds_nil))) pds_nil)))))))))))
      (pss_cons (ps_set (i := 1) scOdd.nd rfl (.inl rfl) (pe_op op_cat (pv 1) (pd_lst (ds := odd4) (hl := show 2 ≤ 1000 by decide) (pds_cons (pd_tup (pds_cons (pd_lst pds_nil) pds_nil)) (pds_cons (pd_tup (pds_cons pd_d0 pds_nil)) pds_nil)))))
      (pss_one (ps_ret (pe_ix ix_list (pv 1) (pe_call GN hr1 (by rfl) gN FN.kp bN .nil pass0 (pa_cons (pv 0) (pa_cons (pe_callB call_len_seq (by rfl) B.len PySem.boot_len (pa_cons (pv 1) pa_nil)) pa_nil))) (fun _ _ => rfl))))))), ?_⟩
    -- one after another
    intro v1 H1 s1 h1
    cases h1 with
    | @lst l1 xs1 _ n1 e1 z1 a1 =>
      refine ⟨_, rfl, fun v2 H2 s2 h2 => ?_⟩
      cases h2 with
      | @lst l2 xs2 _ n2 e2 z2 a2 =>
        refine ⟨l1, l2, xs1, xs2, rfl, rfl, s2 _ _ e1, e2, Nat.le_of_lt (small1000 ?_), fun p np => ?_⟩
        · rw [a1.length, a2.length]; decide
        have s3 := same_new (o := HO.lst (xs1 ++ xs2)) np
        have b1 : DaAll (trk H) _ (xs1 ++ xs2) (odd1 ++ odd2) := DaAll.app (a1.keep (.of_same (s2.trans s3))) ((a2.keep (.of_same s3)).sub (trk_mono s1))
        have t1 := s1.trans (s2.trans s3)
        have f1 : (upd H2 p (HO.lst (xs1 ++ xs2))) p = some (.lst (xs1 ++ xs2)) := upd_same
        clear s3
        generalize upd H2 p (HO.lst (xs1 ++ xs2)) = H3 at b1 t1 f1 ⊢
        refine ⟨_, rfl, fun v2 H4 s4 h4 => ?_⟩
        cases h4 with
        | @lst l4 xs4 _ n4 e4 z4 a4 =>
          refine ⟨p, l4, _, xs4, rfl, rfl, s4 _ _ f1, e4, Nat.le_of_lt (small1000 ?_), fun p5 np5 => ?_⟩
          · rw [b1.length, a4.length]; decide
          have s5 := same_new (o := HO.lst (xs1 ++ xs2 ++ xs4)) np5
          have b5 : DaAll (trk H) _ (xs1 ++ xs2 ++ xs4) (odd1 ++ odd2 ++ odd3) := DaAll.app (b1.keep (.of_same (s4.trans s5))) ((a4.keep (.of_same s5)).sub (trk_mono t1))
          have t5 := t1.trans (s4.trans s5)
          have f5 : (upd H4 p5 (HO.lst (xs1 ++ xs2 ++ xs4))) p5 = some (.lst (xs1 ++ xs2 ++ xs4)) := upd_same
          clear s5
          generalize upd H4 p5 (HO.lst (xs1 ++ xs2 ++ xs4)) = H5 at b5 t5 f5 ⊢
          refine ⟨_, rfl, fun v6 H6 s6 h6 => ?_⟩
          cases h6 with
          | @lst l6 xs6 _ n6 e6 z6 a6 =>
            refine ⟨p5, l6, _, xs6, rfl, rfl, s6 _ _ f5, e6, Nat.le_of_lt (small1000 ?_), fun p7 np7 => ?_⟩
            · rw [b5.length, a6.length]; decide
            have s7 := same_new (o := HO.lst (xs1 ++ xs2 ++ xs4 ++ xs6)) np7
            have b7 : DaAll (trk H) _ (xs1 ++ xs2 ++ xs4 ++ xs6) oddA := DaAll.app (b5.keep (.of_same (s6.trans s7))) ((a6.keep (.of_same s7)).sub (trk_mono t5))
            have t7 := t5.trans (s6.trans s7)
            have f7 : (upd H6 p7 (HO.lst (xs1 ++ xs2 ++ xs4 ++ xs6))) p7 = some (.lst (xs1 ++ xs2 ++ xs4 ++ xs6)) := upd_same
            have nH7 : H p7 = none := (t5.trans s6).free np7
            clear s7
            generalize xs1 ++ xs2 ++ xs4 ++ xs6 = ys at b7 f7 t7 ⊢
            generalize upd H6 p7 (HO.lst ys) = H7 at b7 t7 f7 ⊢
            have hl : ys.length = 41 := b7.length.trans odd_len
            -- the draw
            refine ⟨_, rfl, _, rfl, _, rfl, p7, ys, rfl, .inl (SqL.of f7), ?_⟩
            refine ⟨d, la, lb, _, b, rfl, by rw [hl]; decide, by rw [hl]; decide, D.same t7, fun v H8 hv0 hv1 D8 k8 => ?_⟩
            have np : ¬ dk d la p7 := by
              intro z
              have tr := D.tracked
              rcases z with z | z
              · rw [z] at nH7; exact tr.1 nH7
              · rw [z] at nH7; exact tr.2.1 nH7
            have hvn : v.toNat < ys.length := by omega
            have b8 : DaAll (trk H) H8 ys oddA := b7.keep (fun c o hc nc => k8 c o hc (fun z => nc (by
              have tr := D.tracked
              rcases z with z | z
              · rw [z]; exact tr.1
              · rw [z]; exact tr.2.1)))
            obtain ⟨dd, g1, g2⟩ := b8.get (List.getElem?_eq_getElem hvn)
            refine ⟨p7, ys, v, ys[v.toNat], rfl, rfl, SqL.of (k8 _ _ f7 np), at_of (j := v.toNat) (by omega) (List.getElem?_eq_getElem hvn), ?_⟩
            refine q _ dd H8 D8 (fun c o hc nc => k8 c o (t7 _ _ hc) nc) g2 ?_
            exact List.mem_of_getElem? g1
end
end Kc

set_option Elab.async false
set_option linter.all false
set_option maxRecDepth 100000
set_option maxHeartbeats 4000000
namespace Kx
open PySem PySem.Spec PyProof.Rows L2 Kg Kd
section
variable {X : Cx} {CX : CXT} {k : Nat} {f C : Addr} {fd : FuncData} {ps : List Str} {sp : Sp} {x : Str} {p pos : Pos} {e : Expr} {es : List Expr} {t : TA}
theorem run_makeS {pins : List (Addr × Obj)} {σ : L2.St} {H : Hp} {s : Shared} {Q : VK} {E : XK} {us : List Value} {vs : List V} (M : Mk X.K C f) (F : FnOk X.prog X.w X.K X.mg X.base CX k f fd ps sp) (hr : Room (k + 1) X.A) (hb : Binds X.K fd ps [])
    (hx : PassesAt CX X σ E) (I : Inv X pins σ H s) (r : Vals vs us)
    (h : ∀ x dx, H x = none → H dx = none → dx ≠ x → sp (.ref x :: vs) (upd (upd H dx (.own x)) x (.ins C dx [])) (fun v H2 => v = .non ∧ Q (.ref x) H2) E) :
    wpAny (model X.prog X.w) X.A (call (.ref C) us) (EP X pins σ Q) X.xe s := by
  have hq := h (s.heap.objs.size + 1) s.heap.objs.size (I.hok.fresh (Nat.le_succ _)) (I.hok.fresh (Nat.le_refl _)) (Nat.ne_of_lt (Nat.lt_succ_self _))
  have I2 := Inv.made (C := C) I
  have r2 : Vals (V.ref (s.heap.objs.size + 1) :: vs) (Value.ref (s.heap.objs.size + 1) :: us) := .cons rfl r
  have hl : (Value.ref (s.heap.objs.size + 1) :: us).length = ps.length := by
    have e := r2.length
    rw [F.len _ _ _ _ hq] at e
    exact e.symm
  have bi := hb { s with heap := (s.heap.push PySem.W.emptyDict).push (PySem.W.instObj C s.heap.objs.size) } (Value.ref (s.heap.objs.size + 1) :: us) I2.kIn (by rw [List.append_nil]; exact hl)
  rw [List.append_nil] at bi
  refine wpAny_call (make_map (f := f) I.kIn M.makes M.init (beq_iff_eq.mp M.fn) (codeAny_mono (F.run _ X.stack _ _ ⟨Value.ref (s.heap.objs.size + 1) :: us, []⟩ (Value.ref (s.heap.objs.size + 1) :: us) _ _ E (hr.make C us [])
    (I2.env0.make C us []) bi r2 hq) fun r s' hq' => ?_))
  cases r with
  | error e => exact hx pins _ _ e s' I2 hq'
  | ok fl =>
    cases fl with
    | ret u =>
      obtain ⟨v, H', I3, rv, ev, q3⟩ := I2.after hq'
      subst ev
      exact ⟨rv, ⟨V.ref (s.heap.objs.size + 1), H', I3, rfl, q3⟩⟩
    | next => exact False.elim hq'
    | brk => exact False.elim hq'
    | cont => exact False.elim hq'
/-- C(e, ..) where its __init__ may raise, within a try -/
def tMakeS (C : Addr) (sp : Sp) (E : L2.St → XK) (t : TA) : TE := fun σ H Q => t σ H fun vs H1 => ∀ x dx, H1 x = none → H1 dx = none → dx ≠ x →
  sp (.ref x :: vs) (upd (upd H1 dx (.own x)) x (.ins C dx [])) (fun v H2 => v = .non ∧ Q (.ref x) H2) (E σ)
theorem pe_makeS {E : L2.St → XK} (M : Mk X.K C f) (F : FnOk X.prog X.w X.K X.mg X.base CX k f fd ps sp) (hr : Room (k + 1) X.A) (hg : Gl X x) (hm : X.mg x = some (.ref C)) (hb : Binds X.K fd ps []) (hx : ∀ σ, PassesAt CX X σ (E σ))
    (ha : PA X (e :: es) t) (hdb : (x == ("__debug__" : Str)) = false := by decide) (he : starEach (e :: es) X.env = (false, eval e X.env) :: starEach es X.env := by rfl) (hpl : (backTo pos (starEach es X.env)).any (·.1) = false := by rfl) :
    PE X (.Call (.Name x p) (e :: es) [] pos) (tMakeS C sp E t) := by
  refine ⟨fun pins s σ H Q I h => ?_⟩
  refine wpAny_Call_Name_kw (ld_glob I hg hm ?_ hdb)
  refine PySem.W.callWith_K (h₀ := X.base) I.ok.mod.kin M.kp (thn (ha.run pos pins s σ H _ I h) fun us s1 ⟨vs, H1, I1, r, q⟩ => ⟨I1.kIn, ?_⟩) he hpl
  exact run_makeS M F hr hb (hx σ) I1 r q
/-- isinstance(err, c), err the error that the suite holds, with a dict of its own -/
def rIsF (K : PySem.W.Frag) (D a : Addr) (cls : Value) (d : Option Addr) : List V → Hp → VK → Prop := fun xs H Q => ∃ (c : V) (cv : Value) (b : Bool) (dd : Addr) (fs : List (Str × V)), xs = [.ref a, c] ∧ cls = .ref D ∧ d = some dd ∧ H dd = some (.xd fs) ∧ (∀ u, RelV c u → u = cv) ∧ PySem.W.kitOne K (.ref D) cv = some b ∧ Q (.bl b) H
theorem call_isF {a D : Addr} {oe : Obj} {cls : Value} {d : Option Addr} {pn : List (Addr × Obj)} (C : ExcC X.K D) (hz : Zc cls d oe) (hf : ∃ vs, oe.data = .fields vs) : CallR (X.suite a ((a, oe) :: pn)) (.builtin "isinstance") (rIsF X.K D a cls d) := by
  intro pins s σ H xs us Q I r h
  obtain ⟨c, cv, b, dd, fs, rfl, rfl, rfl, hdd, hcv, e, q⟩ := h
  cases r with
  | cons rx rr =>
    cases rr with
    | cons rt rr =>
      cases rr
      cases rx
      have ec := hcv _ rt
      subst ec
      obtain ⟨hget, _⟩ := I.pin (a, oe) (List.mem_append.mpr (.inl List.mem_cons_self))
      obtain ⟨vs, hv⟩ := hf
      have hx : ObjOk X.prog X.w H s.heap dd (.xd fs) := I.hok dd _ hdd
      obtain ⟨mA, hns, hr⟩ := hx
      obtain ⟨od, ho, hl⟩ := lookIn_ns hns
      have J : PySem.W.InstAt s.heap a oe D (some od) := ⟨hget, hz.1, by unfold PySem.W.notCls; rw [hv] <;> rfl, by rw [hz.2]; exact ho⟩
      obtain ⟨cd, hc, _⟩ := PySem.W.any_some C.hd
      exact PySem.W.kia_one (PySem.W.kitx_exc (by rw [hc]; rfl) C.hg C.hk C.hs C.ha C.hn C.ht C.hm) I.kIn J e (fun z => nomatch z) fun tk => ⟨.bl b, H, I.kept (t' := tk) fun _ _ z => z, rfl, q⟩
end
end Kx

set_option Elab.async false
set_option linter.all false
set_option maxRecDepth 100000
set_option maxHeartbeats 4000000
namespace Kc
open PySem PySem.Spec PyProof.Rows L2 Kg Kd Kr Kf Kx
/-! ### what wrP tells -/
theorem asc_inv : ∀ {ds : List PyData} {n lo : Nat}, asc (n : Nat) (lo : Nat) ds = true → ∃ l : List Nat, ds = l.map iD ∧ l.Pairwise (· < ·) ∧ ∀ x ∈ l, lo ≤ x ∧ x < n
  | [], _, _, _ => ⟨[], rfl, .nil, fun x hx => nomatch hx⟩
  | .int i :: ds, n, lo, h => by
    have h' : (if i < ((lo : Nat) : Int) ∨ ((n : Nat) : Int) ≤ i then false else asc (n : Nat) (i + 1) ds) = true := h
    by_cases c : i < ((lo : Nat) : Int) ∨ ((n : Nat) : Int) ≤ i
    · rw [if_pos c] at h'; exact nomatch h'
    · rw [if_neg c] at h'
      obtain ⟨j, rfl⟩ : ∃ j : Nat, i = (j : Nat) := ⟨i.toNat, by omega⟩
      obtain ⟨l, e, h1, h2⟩ := asc_inv (ds := ds) (n := n) (lo := j + 1) h'
      refine ⟨j :: l, by rw [e]; rfl, List.pairwise_cons.mpr ⟨fun x hx => (h2 x hx).1, h1⟩, fun x hx => ?_⟩
      rcases List.mem_cons.mp hx with z | z
      · omega
      · have := h2 x z; omega
  | .none :: _, _, _, h => nomatch h
  | .bool _ :: _, _, _, h => nomatch h
  | .str _ :: _, _, _, h => nomatch h
  | .list _ :: _, _, _, h => nomatch h
  | .tuple _ :: _, _, _, h => nomatch h
  | .dict _ :: _, _, _, h => nomatch h
theorem som_inv {d : PyData} {n : Nat} (h : ascD d (n : Nat) = true) : ∃ l, d = pdI l ∧ Som n l := by
  cases d with
  | tuple ds =>
    obtain ⟨l, e, h1, h2⟩ := asc_inv (lo := 0) h
    exact ⟨l, by rw [e]; rfl, h1, fun x hx => (h2 x hx).2⟩
  | _ => exact nomatch h
theorem wrE_inv {sv : Bool} : ∀ {ds : List PyData} {k : Nat}, wrE sv k ds = none → ∃ es : List (List Nat), ds = es.map pdI ∧ ∀ (i : Nat) (l : List Nat), es[i]? = some l → Som (k + i) l ∧ (sv = false → l.length ≤ 1)
  | [], _, _ => ⟨[], rfl, fun i l h => by simp at h⟩
  | d :: ds, k, h => by
    have h' : (if eldB d (k : Nat) sv = true then wrE sv (k + 1) ds else some k) = none := h
    by_cases c : eldB d (k : Nat) sv = true
    · rw [if_pos c] at h'
      obtain ⟨es, e, h1⟩ := wrE_inv h'
      unfold eldB at c
      rw [Bool.and_eq_true] at c
      obtain ⟨l, rfl, sl⟩ := som_inv c.1
      refine ⟨l :: es, by rw [e]; rfl, fun i m hm => ?_⟩
      cases i with
      | zero =>
        simp at hm
        subst hm
        refine ⟨sl, fun z => ?_⟩
        have c2 := c.2
        rw [z, Bool.false_or] at c2
        have c3 : (l.map iD).length ≤ 1 := of_decide_eq_true c2
        rwa [List.length_map] at c3
      | succ i =>
        have z := h1 i m (by simpa using hm)
        rwa [show k + (i + 1) = k + 1 + i by omega]
    · rw [if_neg c] at h'; exact nomatch h'
theorem wrP_inv {e c h : PyData} {s : V} (z : wrP e c h s = .non) : ∃ (es : List (List Nat)) (cl ho : List Nat) (sv : Bool), e = pdE es ∧ c = pdI cl ∧ h = pdI ho ∧ s = V.bl sv ∧ Eld es sv ∧ Som es.length cl ∧ Som es.length ho := by
  cases e with
  | tuple ds =>
    have z1 : (if 1 ≤ ds.length ∧ ds.length ≤ 6 then
      (match wrE (!decide (s = V.bl false)) 0 ds with
      | some k => V.int (k : Nat)
      | none => if ascD c (ds.length : Nat) then (if ascD h (ds.length : Nat) then (if s = V.bl true ∨ s = V.bl false then V.non else V.str "several") else .str "hollow") else .str "closed")
      else .str "elders") = .non := z
    by_cases c1 : 1 ≤ ds.length ∧ ds.length ≤ 6
    · rw [if_pos c1] at z1
      cases hw : wrE (!decide (s = V.bl false)) 0 ds with
      | some k => rw [hw] at z1; exact nomatch z1
      | none =>
        rw [hw] at z1
        have z2 : (if ascD c (ds.length : Nat) = true then (if ascD h (ds.length : Nat) = true then (if s = V.bl true ∨ s = V.bl false then V.non else .str "several") else .str "hollow") else .str "closed") = .non := z1
        by_cases a1 : ascD c (ds.length : Nat) = true
        · rw [if_pos a1] at z2
          by_cases a2 : ascD h (ds.length : Nat) = true
          · rw [if_pos a2] at z2
            by_cases a3 : s = V.bl true ∨ s = V.bl false
            · obtain ⟨sv, rfl⟩ : ∃ sv, s = V.bl sv := by rcases a3 with y | y <;> exact ⟨_, y⟩
              rw [dec_bl] at hw
              obtain ⟨es, e1, h1⟩ := wrE_inv hw
              obtain ⟨cl, rfl, sc⟩ := som_inv a1
              obtain ⟨ho, rfl, sh⟩ := som_inv a2
              have el : ds.length = es.length := by rw [e1, List.length_map]
              rw [el] at sc sh c1
              refine ⟨es, cl, ho, sv, by rw [e1]; rfl, rfl, rfl, rfl, ⟨c1.1, c1.2, fun k l y => (h1 k l y).1.asc, fun k l y x hx => ?_, fun k l y => (h1 k l y).2⟩, sc, sh⟩
              have := (h1 k l y).1.low x hx
              omega
            · rw [if_neg a3] at z2; exact nomatch z2
          · rw [if_neg a2] at z2; exact nomatch z2
        · rw [if_neg a1] at z2; exact nomatch z2
    · rw [if_neg c1] at z1; exact nomatch z1
  | _ => exact nomatch z
/-! ### data of tuples alone -/
theorem das_ints {av : Addr → Prop} {H : Hp} : ∀ {l : List Nat} {vs : List V}, DaAll av H vs (l.map iD) → TuAll H vs (l.map iD)
  | [], _, .nil => .nil
  | n :: l, _, .cons h r => by
    cases h
    exact .cons (.int _) (das_ints r)
theorem da_pdI {av : Addr → Prop} {H : Hp} {v : V} {l : List Nat} (h : Da av H v (pdI l)) : Tu H v (pdI l) := by
  unfold pdI at h ⊢
  cases h with
  | tup _ h1 h2 h3 => exact .tup h1 h2 (das_ints h3)
theorem das_pdI {av : Addr → Prop} {H : Hp} : ∀ {es : List (List Nat)} {vs : List V}, DaAll av H vs (es.map pdI) → TuAll H vs (es.map pdI)
  | [], _, .nil => .nil
  | n :: l, _, .cons h r => .cons (da_pdI h) (das_pdI r)
theorem da_pdE {av : Addr → Prop} {H : Hp} {v : V} {es : List (List Nat)} (h : Da av H v (pdE es)) : Tu H v (pdE es) := by
  unfold pdE at h ⊢
  cases h with
  | tup _ h1 h2 h3 => exact .tup h1 h2 (das_pdI h3)
/-! ### BadKinds -/
abbrev sBKc : Stmt := topS 7
abbrev sBK : Stmt := inClass sBKc 0
theorem scBK : FnScope ["self", "place"] ["self", "place"] (defScope sBK) := ⟨rfl, rfl, rfl, by decide +kernel, rfl, by decide +kernel, by decide +kernel⟩
def spBK (C : Addr) : Sp := fun vs H Q _ => ∃ (a : Addr) (v : V), vs = [.ref a, v] ∧ H a = some (exo a C none) ∧ ∀ dx, H dx = none → dx ≠ a → Q .non (upd (upd H dx (exd dx [("place", v)])) a (exo a C (some dx)))
/-- what is said of the class BadKinds, and of KindError -/
structure BKC (K : PySem.W.Frag) (mg : Str → Option Value) (CB KE fB : Addr) : Prop where
  oex : OexC K CB
  np : PySem.W.findIn K (.ref CB) "place" = some none
  iC : PySem.W.findIn K (.ref CB) "__init__" = some (some (.ref fB))
  tI : PySem.W.typeIn K (.ref fB) = some (.type "function")
  xf : XfC K CB
  xc : ExcC K CB
  kit : PySem.W.kitOne K (.ref CB) (.ref CB) = some true
  te : PySem.W.exmOne K (.ref CB) (.ref KE) = some true
  gB : mg "BadKinds" = some (.ref CB)
  gK : mg "KindError" = some (.ref KE)
/-- Kinds(..), with whatever values -/
def spIniX (C CB : Addr) : Sp := fun vs H Q E => ∃ (p dx : Addr) (ve vc vh s : V) (e c h : PyData), vs = [.ref p, ve, vc, vh, s] ∧ H p = some (.ins C dx []) ∧ Da Kd.nil H ve e ∧ Da Kd.nil H vc c ∧ Da Kd.nil H vh h ∧
  (wrP e c h s ≠ .non → ∀ H' d, Same H H' → H d = none → H' d = some (.xd [("place", wrP e c h s)]) → E (.ref CB) (some d) H') ∧
  (∀ es cl ho sv, e = pdE es → c = pdI cl → h = pdI ho → s = .bl sv → Eld es sv → Som es.length cl → Som es.length ho → ∀ H', (∀ b o, H b = some o → b ≠ p → H' b = some o) → KO C H' p es cl ho sv → Q .non H')
section
variable {P : Program} {w : World} {K : PySem.W.Frag} {mg : Str → Option Value} {base : Heap} {f : Addr} {fd : FuncData} {k : Nat}
theorem ok_bk {CB KE : Addr} (F : Fun K "__init__" "BadKinds.__init__" sBK f fd) (T : BKC K mg CB KE f) : FnOk P w K mg base CX0 (k + 1) f fd ["self", "place"] (spBK CB) := by
  refine F.ok scBK (fun vs H Q E h => ?_) (fun cdv A outer s H vs Q E hr h => ?_)
  · obtain ⟨a, v, rfl, _⟩ := h
    rfl
  · obtain ⟨a, v, rfl, e, q⟩ := h
    refine ⟨_, pss_one (ps_ost (pv 0) (pv 1)), ?_⟩
    exact ⟨_, rfl, _, rfl, a, CB, rfl, T.oex, T.np, .inl ⟨e, fun dx nd ne => q dx nd ne⟩⟩
theorem ok_iniX {fW fT C CB KE fB : Addr} {dW dT dB : FuncData} (F : Fun K "__init__" "Kinds.__init__" sIni f fd) (T : KC K C) (TB : BKC K mg CB KE fB)
    (GB : FnOk P w K mg base CX0 1 fB dB ["self", "place"] (spBK CB)) (bB : Binds K dB ["self", "place"] [])
    (GW : FnOk P w K mg base CX0 5 fW dW ["elders", "closed", "hollow", "several"] spWrP) (kW : PySem.W.keepIn K (.ref fW) = true) (bW : Binds K dW ["elders", "closed", "hollow", "several"] []) (gW : mg "wrong_place" = some (.ref fW))
    (GT : FnOk P w K mg base CX0 1 fT dT ["elders"] spTab) (kT : PySem.W.keepIn K (.ref fT) = true) (bT : Binds K dT ["elders"] []) (gT : mg "table_above" = some (.ref fT)) : FnOk P w K mg base (L2.CX P w) 6 f fd ["self", "elders", "closed", "hollow", "several"] (spIniX C CB) := by
  refine F.okX scIni (fun vs H Q E h => ?_) (fun cdv A outer s H vs Q E hr h => ?_)
  · obtain ⟨p, dx, ve, vc, vh, s, e, c, h, rfl, _⟩ := h
    rfl
  · obtain ⟨p, dx, ve, vc, vh, s, e, c, h, rfl, hp, he, hc, hh, qE, q⟩ := h
    refine ⟨_, pss_cons (ps_set (i := 5) scIni.nd rfl (.inl rfl) (pe_call GW (hr.mono (by decide)) (by rfl) gW kW bW .nil pass0 (pa_cons (pv 1) (pa_cons (pv 2) (pa_cons (pv 3) (pa_cons (pv 4) pa_nil))))))
      (pss_cons (ps_if (pt_cmpR op_notN (pv 5) pe_non (nomark _)) (pss_one (ps_raise rfl (takes_of rfl rfl rfl rfl) (pmk_oex TB.oex TB.iC TB.tI GB (hr.mono (by decide)) bB .nil pass0 (by rfl) TB.gB (pa_cons (pv 5) pa_nil)))) pss_nil)
      (pss_cons (ps_fld (pv 0) (pv 1) rfl)
      (pss_cons (ps_fld (pv 0) (pv 2) rfl)
      (pss_cons (ps_fld (pv 0) (pv 3) rfl)
      (pss_cons (ps_fld (pv 0) (pv 4) rfl)
      (pss_one (ps_fld (pv 0) (pe_call GT (hr.mono (by decide)) (by rfl) gT kT bT .nil pass0 (pa_cons (pv 1) pa_nil)) rfl))))))), ?_⟩
    refine ⟨_, rfl, _, rfl, _, rfl, _, rfl, ve, vc, vh, _, _, _, _, rfl, he, hc, hh, fun H1 s1 => ?_⟩
    refine ⟨_, rfl, rfl, _, rfl, ?_⟩
    by_cases cw : wrP e c h s = .non
    · rw [decide_eq_true cw]
      refine iteF ?_
      obtain ⟨es, cl, ho, sv, rfl, rfl, rfl, rfl, EL, SC, SH⟩ := wrP_inv cw
      have he := da_pdE he
      have hc := da_pdI hc
      have hh := da_pdI hh
      refine ⟨_, rfl, _, rfl, p, C, dx, _, rfl, s1 _ _ hp, T.cl, T.n1, (by decide), ?_⟩
      refine ⟨_, rfl, _, rfl, p, C, dx, _, rfl, upd_same, T.cl, T.n2, (by show 1 < 1000; decide), ?_⟩
      refine ⟨_, rfl, _, rfl, p, C, dx, _, rfl, upd_same, T.cl, T.n3, (by show 2 < 1000; decide), ?_⟩
      refine ⟨_, rfl, _, rfl, p, C, dx, _, rfl, upd_same, T.cl, T.n4, (by show 3 < 1000; decide), ?_⟩
      rw [upd_upd, upd_upd, upd_upd]
      have kt : ∀ {v : V} {d : PyData} (o : HO), Tu H v d → Tu (upd H1 p o) v d := by
        have aux : ∀ (o : HO) (b : Addr) (xs : List V), H b = some (.tup xs) → upd H1 p o b = some (.tup xs) := fun o b xs z => by
          rw [upd_ne (ne_of z hp (by intro y; cases y))]; exact s1 _ _ z
        intro v d o h
        exact Tu.rec (motive_1 := fun v d _ => Tu (upd H1 p o) v d) (motive_2 := fun vs ds _ => TuAll (upd H1 p o) vs ds) .non (fun b => .bl b) (fun i => .int i) (fun x => .str x) (fun h z _ r => .tup (aux o _ _ h) z r) .nil (fun _ _ h r => .cons h r) h
      refine ⟨_, rfl, ve, es, sv, rfl, kt _ he, EL, fun H2 t s2 nt ht => ⟨_, rfl, p, C, dx, _, rfl, s2 _ _ upd_same, T.cl, T.n5, (by show 4 < 1000; decide), ?_⟩⟩
      have hp2 := s2 _ _ upd_same
      have key : ∀ {v : V} {d : PyData} (o : HO), Tu H2 v d → Tu (upd H2 p o) v d := by
        have aux : ∀ (o : HO) (b : Addr) (xs : List V), H2 b = some (.tup xs) → upd H2 p o b = some (.tup xs) := fun o b xs z => by
          rw [upd_ne (ne_of z hp2 (by intro y; cases y))]; exact z
        intro v d o h
        exact Tu.rec (motive_1 := fun v d _ => Tu (upd H2 p o) v d) (motive_2 := fun vs ds _ => TuAll (upd H2 p o) vs ds) .non (fun b => .bl b) (fun i => .int i) (fun x => .str x) (fun h z _ r => .tup (aux o _ _ h) z r) .nil (fun _ _ h r => .cons h r) h
      refine q es cl ho sv rfl rfl rfl rfl EL SC SH _ (fun b o z ne => ?_) ⟨⟨dx, ve, vc, vh, .ref t, upd_same, key _ ((kt _ he).same s2), key _ ((kt _ hc).same s2), key _ ((kt _ hh).same s2), key _ ht⟩, EL, SC, SH⟩
      rw [upd_ne ne]
      exact s2 _ _ (by rw [upd_ne ne]; exact s1 _ _ z)
    · rw [decide_eq_false cw]
      refine iteT ?_
      refine ⟨_, rfl, (show 1 ≤ 1000 by decide), fun a na => ⟨a, _, rfl, upd_same, fun dx2 nd ne => ⟨rfl, dx2, [("place", wrP e c h s)], upd_same, ?_, ?_, ?_⟩⟩⟩
      · rw [upd_ne ne, upd_same]
      · rw [upd_ne ne] at nd; exact nd
      · have nd1 : H1 dx2 = none := by rw [upd_ne ne] at nd; exact nd
        refine qE cw _ dx2 (fun b o z => ?_) (s1.free nd1) upd_same
        have z1 := s1 _ _ z
        have n1 := ne_of_none z1 na
        have n2 := ne_of_none z1 nd1
        rw [upd_ne n2, del_ne n1, upd_ne n1, upd_ne n2, upd_ne n1]
        exact z1
end
end Kc

set_option Elab.async false
set_option linter.all false
set_option maxRecDepth 100000
set_option maxHeartbeats 4000000
namespace Kc
open PySem PySem.Spec PyProof.Rows L2 Kg Kd Kr Kf Kx
abbrev sTold : Stmt := topS 28
theorem scTold : FnScope ["_law_four_here", "_law_found", "error"] ["_law_four_here"] (defScope sTold) := ⟨rfl, rfl, rfl, by decide +kernel, rfl, by decide +kernel, by decide +kernel⟩
def spTold : Sp := fun vs H Q _ => ∃ (L : Addr) (ve vc vh s : V) (e c h : PyData), vs = [.ref L] ∧ H L = some (.lst [ve, vc, vh, s]) ∧ Da Kd.nil H ve e ∧ Da Kd.nil H vc c ∧ Da Kd.nil H vh h ∧ ∀ H', Same H H' → Q (wrP e c h s) H'
theorem passX {P : Program} {w : World} {X : Cx} : Passes (L2.CX P w) X E0 := fun _ _ _ _ _ _ _ h => by
  obtain ⟨_, _, _, _, _, _, _, _, _, _, _, _, z⟩ := h
  exact z.elim
section
variable {P : Program} {w : World} {K : PySem.W.Frag} {mg : Str → Option Value} {base : Heap} {f : Addr} {fd : FuncData} {k : Nat}
theorem ok_madeX {fI C CB : Addr} {dI : FuncData} (F : Fun K "_law_made" "_law_made" sMade f fd) (M : Mk K C fI) (G : FnOk P w K mg base (L2.CX P w) 6 fI dI ["self", "elders", "closed", "hollow", "several"] (spIniX C CB)) (b : Binds K dI ["self", "elders", "closed", "hollow", "several"] []) (gC : mg "Kinds" = some (.ref C)) : FnOk P w K mg base CX0 8 f fd ["_law_four_here"] (spMade C) := by
  refine F.ok scMade (fun vs H Q E h => ?_) (fun cdv A outer s H vs Q E hr h => ?_)
  · obtain ⟨l, es, cl, ho, sv, rfl, _⟩ := h
    rfl
  · obtain ⟨l, es, cl, ho, sv, rfl, ⟨⟨e, c, h, hl, he, hc, hh⟩, EL, SC, SH⟩, q⟩ := h
    refine ⟨_, pss_one (ps_ret (pe_make M G hr (by rfl) gC b .nil passX (pa_cons (pe_ix ix_list (pv 0) pe_int (fun _ _ => rfl)) (pa_cons (pe_ix ix_list (pv 0) pe_int (fun _ _ => rfl)) (pa_cons (pe_ix ix_list (pv 0) pe_int (fun _ _ => rfl)) (pa_cons (pe_ix ix_list (pv 0) pe_int (fun _ _ => rfl)) pa_nil)))))), ?_⟩
    refine ⟨_, rfl, l, _, 0, e, rfl, rfl, SqL.of hl, atI_nat (j := 0) rfl, _, rfl, l, _, 1, c, rfl, rfl, SqL.of hl, atI_nat (j := 1) rfl, _, rfl, l, _, 2, h, rfl, rfl, SqL.of hl, atI_nat (j := 2) rfl, _, rfl, l, _, 3, .bl sv, rfl, rfl, SqL.of hl, atI_nat (j := 3) rfl, ?_⟩
    intro x dx nx nd ne
    have s1 : Same H (upd (upd H dx (.own x)) x (.ins C dx [])) := fun b o z => by rw [upd_ne (ne_of_none z nx), upd_ne (ne_of_none z nd)]; exact z
    refine ⟨x, dx, e, c, h, .bl sv, _, _, _, rfl, upd_same, (he.same s1).da, (hc.same s1).da, (hh.same s1).da, fun z => absurd (wrP_ok EL SC SH) z, fun es' cl' ho' sv' e1 e2 e3 e4 EL' SC' SH' H' k ko => ⟨rfl, q H' x (own_same (C := C) nx nd ne k) nx ?_⟩⟩
    have i1 : es' = es := by
      have z := eqv_pdE es es'
      rw [← e1, SeqAt.eqv_refl (pdE es) (lay_pdIs es)] at z
      exact (of_decide_eq_true z.symm).symm
    have i2 : cl' = cl := by
      have z := eqv_pdI cl cl'
      rw [← e2, SeqAt.eqv_refl _ (lay_pdI cl)] at z
      exact (of_decide_eq_true z.symm).symm
    have i3 : ho' = ho := by
      have z := eqv_pdI ho ho'
      rw [← e3, SeqAt.eqv_refl _ (lay_pdI ho)] at z
      exact (of_decide_eq_true z.symm).symm
    have i4 : sv' = sv := (V.bl.inj e4).symm
    subst i1 i2 i3 i4
    exact ko
theorem ok_told {fI C CB KE fB : Addr} {dI : FuncData} (F : Fun K "_law_told" "_law_told" sTold f fd) (B : Bl mg) (TB : BKC K mg CB KE fB) (M : Mk K C fI) (G : FnOk P w K mg base (L2.CX P w) 6 fI dI ["self", "elders", "closed", "hollow", "several"] (spIniX C CB)) (b : Binds K dI ["self", "elders", "closed", "hollow", "several"] []) (gC : mg "Kinds" = some (.ref C)) : FnOk P w K mg base CX0 8 f fd ["_law_four_here"] spTold := by
  refine F.ok scTold (fun vs H Q E h => ?_) (fun cdv A outer s H vs Q E hr h => ?_)
  · obtain ⟨L, ve, vc, vh, s, e, c, h, rfl, _⟩ := h
    rfl
  · obtain ⟨L, ve, vc, vh, s, e, c, h, rfl, hL, he, hc, hh, q⟩ := h
    refine ⟨_, pss_cons (ps_set (i := 1) scTold.nd rfl (.inl rfl) pe_non)
      (pss_cons (ps_try_as (i := 2) rfl rfl scTold.nd rfl rfl ⟨rfl, by decide, .inl TB.gK⟩ takes0
        (fun W pn xe tk _ => pss_one (ps_expr (pe_makeS M G hr (by rfl) gC b (fun σ => passAt tk σ) (pa_cons (pe_ix (r := rIxL K) ix_list (pv 0) pe_int (fun _ _ => rfl)) (pa_cons (pe_ix (r := rIxL K) ix_list (pv 0) pe_int (fun _ _ => rfl)) (pa_cons (pe_ix (r := rIxL K) ix_list (pv 0) pe_int (fun _ _ => rfl)) (pa_cons (pe_ix (r := rIxL K) ix_list (pv 0) pe_int (fun _ _ => rfl)) pa_nil)))))))
        (fun a oe cls d pn hz hf => pss_one (ps_set (i := 1) scTold.nd rfl (.inl rfl) (pe_ifExp (pt_val (pe_callB (call_isF TB.xc hz hf) (by rfl) B.isi boot_isinstance (pa_cons (pv 2) (pa_cons (pe_glob (v := .ref CB) (by rfl) TB.gB rfl) pa_nil)))) (pe_xf TB.xf TB.np hz hf (pv 2)) pe_str))))
      (pss_one (ps_ret (pv 1)))), ?_⟩
    refine ⟨_, rfl, L, _, 0, ve, rfl, rfl, SqL.of hL, atI_nat (j := 0) rfl, _, rfl, L, _, 1, vc, rfl, rfl, SqL.of hL, atI_nat (j := 1) rfl, _, rfl, L, _, 2, vh, rfl, rfl, SqL.of hL, atI_nat (j := 2) rfl, _, rfl, L, _, 3, s, rfl, rfl, SqL.of hL, atI_nat (j := 3) rfl, ?_⟩
    intro x dx nx nd ne
    have s1 : Same H (upd (upd H dx (.own x)) x (.ins C dx [])) := fun b o z => by rw [upd_ne (ne_of_none z nx), upd_ne (ne_of_none z nd)]; exact z
    refine ⟨x, dx, ve, vc, vh, s, e, c, h, rfl, upd_same, he.same s1, hc.same s1, hh.same s1, fun cw H' dd s2 ndd hdd => ?_, fun es cl ho sv e1 e2 e3 e4 EL SC SH H' k ko => ⟨rfl, ?_⟩⟩
    · refine ⟨true, TB.te, fun _ a na => ?_, fun z => nomatch z⟩
      refine ⟨_, rfl, _, _, true, dd, _, rfl, rfl, rfl, hdd, (fun u r => r), TB.kit, _, rfl, iteT ⟨_, rfl, rfl, rfl, dd, _, _, rfl, hdd, rfl, ?_⟩⟩
      exact ⟨_, rfl, q _ (s1.trans s2)⟩
    · have z := q H' (own_same (C := C) nx nd ne k)
      subst e1 e2 e3 e4
      rw [wrP_ok EL SC SH] at z
      exact ⟨_, rfl, z⟩
end
end Kc

set_option Elab.async false
set_option linter.all false
set_option maxRecDepth 100000
set_option maxHeartbeats 4000000
namespace Kc
open PySem PySem.Spec PyProof.Rows L2 Kg Kd Kr Kf Kx
abbrev sWhole : Stmt := topS 19
abbrev sRis : Stmt := topS 25
abbrev nRis : List Str := ["_law_value", "_law_many", "_law_most", "_law_item"]
theorem scWhole : FnScope ["_law_value"] ["_law_value"] (defScope sWhole) := ⟨rfl, rfl, rfl, by decide +kernel, rfl, by decide +kernel, by decide +kernel⟩
theorem scRis : FnScope nRis ["_law_value", "_law_many", "_law_most"] (defScope sRis) := ⟨rfl, rfl, rfl, by decide +kernel, rfl, by decide +kernel, by decide +kernel⟩
/-! ### ascending ints -/
theorem asc_iff : ∀ {l : List Int} {n lo : Int}, asc n lo (l.map PyData.int) = true ↔ l.Pairwise (· < ·) ∧ ∀ x ∈ l, lo ≤ x ∧ x < n
  | [], _, _ => ⟨fun _ => ⟨.nil, fun x hx => nomatch hx⟩, fun _ => rfl⟩
  | a :: l, n, lo => by
    have ih := asc_iff (l := l) (n := n) (lo := a + 1)
    show (if a < lo ∨ n ≤ a then false else asc n (a + 1) (l.map PyData.int)) = true ↔ _
    by_cases c : a < lo ∨ n ≤ a
    · rw [if_pos c]
      exact ⟨fun z => (nomatch z), fun z => by have := z.2 a (List.mem_cons_self ..); omega⟩
    · rw [if_neg c, ih, List.pairwise_cons]
      constructor
      · rintro ⟨h1, h2⟩
        refine ⟨⟨fun x hx => by have := h2 x hx; omega, h1⟩, fun x hx => ?_⟩
        rcases List.mem_cons.mp hx with z | z
        · omega
        · have := h2 x z; omega
      · rintro ⟨⟨h0, h1⟩, h2⟩
        exact ⟨h1, fun x hx => by have := h0 x hx; have := h2 x (List.mem_cons_of_mem _ hx); omega⟩
theorem asc_nums : ∀ {ds : List PyData} {n lo : Int}, asc n lo ds = true → ds.all isNum = true
  | [], _, _, _ => rfl
  | .int i :: ds, n, lo, h => by
    have h' : (if i < lo ∨ n ≤ i then false else asc n (i + 1) ds) = true := h
    by_cases c : i < lo ∨ n ≤ i
    · rw [if_pos c] at h'; exact nomatch h'
    · rw [if_neg c] at h'
      rw [List.all_cons, asc_nums h']; rfl
  | .none :: _, _, _, h => nomatch h
  | .bool _ :: _, _, _, h => nomatch h
  | .str _ :: _, _, _, h => nomatch h
  | .list _ :: _, _, _, h => nomatch h
  | .tuple _ :: _, _, _, h => nomatch h
  | .dict _ :: _, _, _, h => nomatch h
theorem nums_ints : ∀ {ds : List PyData}, ds.all isNum = true → ∃ l : List Int, ds = l.map PyData.int
  | [], _ => ⟨[], rfl⟩
  | d :: ds, h => by
    rw [List.all_cons, Bool.and_eq_true] at h
    obtain ⟨l, e⟩ := nums_ints h.2
    have h1 := h.1
    cases d with
    | int i => exact ⟨i :: l, by rw [e]; rfl⟩
    | _ => exact nomatch h1
theorem das_int {av : Addr → Prop} {H : Hp} : ∀ {l : List Int} {vs : List V}, DaAll av H vs (l.map PyData.int) → vs = l.map V.int
  | [], _, .nil => rfl
  | n :: l, _, .cons h r => by
    cases h
    rw [das_int r]; rfl
theorem iasc_uniq : ∀ {l m : List Int}, l.Pairwise (· < ·) → m.Pairwise (· < ·) → (∀ x, x ∈ l ↔ x ∈ m) → l = m
  | [], [], _, _, _ => rfl
  | [], b :: m, _, _, h => absurd ((h b).mpr (List.mem_cons_self ..)) (by simp)
  | a :: l, [], _, _, h => absurd ((h a).mp (List.mem_cons_self ..)) (by simp)
  | a :: l, b :: m, hl, hm, h => by
    rw [List.pairwise_cons] at hl hm
    have e : a = b := by
      rcases List.mem_cons.mp ((h a).mp (List.mem_cons_self ..)) with z | z
      · exact z
      · rcases List.mem_cons.mp ((h b).mpr (List.mem_cons_self ..)) with y | y
        · exact y.symm
        · have := hm.1 a z; have := hl.1 b y; omega
    subst e
    congr 1
    refine iasc_uniq hl.2 hm.2 fun x => ⟨fun z => ?_, fun z => ?_⟩
    · rcases List.mem_cons.mp ((h x).mp (List.mem_cons_of_mem _ z)) with y | y
      · have := hl.1 x z; omega
      · exact y
    · rcases List.mem_cons.mp ((h x).mpr (List.mem_cons_of_mem _ z)) with y | y
      · have := hm.1 x z; omega
      · exact y
theorem eqv_ints : ∀ l m : List Int, PyData.eqvAll (l.map PyData.int) (m.map PyData.int) = decide (l = m)
  | [], [] => by simp [PyData.eqvAll]
  | [], _ :: _ => by simp [PyData.eqvAll]
  | _ :: _, [] => by simp [PyData.eqvAll]
  | a :: l, b :: m => by
    have z := eqv_ints l m
    simp only [List.map_cons, PyData.eqvAll, z, PyData.eqv]
    by_cases h : a = b
    · subst h; simp
    · simp [h]
/-- the first and the last of an ascending list -/
theorem ends_iff {a : Int} {l : List Int} {n : Int} (h : (a :: l).Pairwise (· < ·)) : (∀ x ∈ a :: l, 0 ≤ x ∧ x < n) ↔ 0 ≤ a ∧ (a :: l).getLast (by simp) < n := by
  have key : ∀ {a : Int} {l : List Int}, (a :: l).Pairwise (· < ·) → ∀ x ∈ a :: l, a ≤ x ∧ x ≤ (a :: l).getLast (by simp) := by
    intro a l
    induction l generalizing a with
    | nil => intro _ x hx; simp at hx; subst hx; simp
    | cons b l ih =>
      intro h x hx
      rw [List.pairwise_cons] at h
      have z := ih h.2
      rw [List.getLast_cons (by simp)]
      rcases List.mem_cons.mp hx with y | y
      · subst y
        have := h.1 b (List.mem_cons_self ..)
        have := (z b (List.mem_cons_self ..)).2
        omega
      · have := h.1 b (List.mem_cons_self ..)
        have := z x y
        omega
  constructor
  · intro z
    exact ⟨(z a (List.mem_cons_self ..)).1, (z _ (List.getLast_mem (by simp))).2⟩
  · rintro ⟨z1, z2⟩ x hx
    have := key h x hx
    omega
def spRis : Sp := fun vs H Q _ => ∃ (v : V) (d : PyData) (n m : Nat), vs = [v, .int (n : Nat), .int (m : Nat)] ∧ m ≤ 6 ∧ Da Kd.nil H v d ∧ ∀ H', Same H H' → Q (.bl (ascD d (n : Nat) && decide (lenD d ≤ m))) H'
theorem op_isBv {X : Cx} : OpR X (compareOp .Is) (fun x y H Q => ∃ b : Bool, y = .bl b ∧ Q (.bl (decide (x = .bl b))) H) := by
  intro pins s σ H x y v u Q I rx ry h
  obtain ⟨b, rfl, q⟩ := h
  cases (show u = Value.bool b from ry)
  cases x with
  | bl a =>
    cases (show v = Value.bool a from rx)
    by_cases e : a = b
    · subst e
      exact wpAny_is_self rfl ⟨.bl true, H, I, rfl, by simpa using q⟩
    · exact wpAny_is_other rfl (fun z => e (Value.bool.inj z)) ⟨.bl false, H, I, rfl, by simpa [e] using q⟩
  | non => cases (show v = Value.none from rx); exact wpAny_is_other rfl (fun z => nomatch z) ⟨.bl false, H, I, rfl, by simpa using q⟩
  | int i => obtain ⟨t, rfl⟩ := rx; exact wpAny_is_other rfl (fun z => nomatch z) ⟨.bl false, H, I, rfl, by simpa using q⟩
  | str i => obtain ⟨t, rfl⟩ := rx; exact wpAny_is_other rfl (fun z => nomatch z) ⟨.bl false, H, I, rfl, by simpa using q⟩
  | byt i => obtain ⟨t, rfl⟩ := rx; exact wpAny_is_other rfl (fun z => nomatch z) ⟨.bl false, H, I, rfl, by simpa using q⟩
  | flt i => obtain ⟨t, rfl⟩ := rx; exact wpAny_is_other rfl (fun z => nomatch z) ⟨.bl false, H, I, rfl, by simpa using q⟩
  | ref a => cases (show v = Value.ref a from rx); exact wpAny_is_other rfl (fun z => nomatch z) ⟨.bl false, H, I, rfl, by simpa using q⟩
  | ty n => cases (show v = Value.type n from rx); exact wpAny_is_other rfl (fun z => nomatch z) ⟨.bl false, H, I, rfl, by simpa using q⟩
theorem sh_intsL (l : List Int) : SeqAt.shaped (.list (l.map PyData.int)) = true := shaped_ints l
theorem lay_intsT (l : List Int) : SeqAt.shaped (.tuple (l.map PyData.int)) = true := shaped_of (lay_ints l) (by show PyData.depthAll (l.map PyData.int) + 1 ≤ 64; rw [dep_ints]; decide)
section
variable {P : Program} {w : World} {K : PySem.W.Frag} {mg : Str → Option Value} {base : Heap} {f : Addr} {fd : FuncData} {k : Nat}
theorem ok_whole (F : Fun K "_law_whole" "_law_whole" sWhole f fd) (B : Bl mg) : FnOk P w K mg base CX0 (k + 1) f fd ["_law_value"] spNum := by
  refine F.ok scWhole (fun vs H Q E h => ?_) (fun cdv A outer s H vs Q E hr h => ?_)
  · obtain ⟨v, d, rfl, _⟩ := h
    rfl
  · obtain ⟨v, d, rfl, hd, q⟩ := h
    refine ⟨_, pss_one (ps_ret (pe_and (pe_callB call_isi (by rfl) B.isi boot_isinstance (pa_cons (pv 0) (pa_cons (pe_bltn (v := .ty "int") (by rfl) B.int PyProof.Rows.boot_int rfl) pa_nil))) (pe_one (pe_not (pe_callB call_isi (by rfl) B.isi boot_isinstance (pa_cons (pv 0) (pa_cons (pe_bltn (v := .ty "bool") (by rfl) B.bool PyProof.Rows.boot_bool rfl) pa_nil))))))), ?_⟩
    refine ⟨_, rfl, _, _, _, _, isInt d, rfl, .ty _, hd.ty, kit_ty (kt_int d), _, rfl, ?_⟩
    have e : isNum d = (isInt d && !isBool d) := rfl
    rw [e] at q
    cases hi : isInt d with
    | true =>
      rw [hi] at q
      exact iteT ⟨_, rfl, _, _, _, _, isBool d, rfl, .ty _, hd.ty, kit_ty (kt_bool d), _, rfl, q⟩
    | false =>
      rw [hi] at q
      exact iteF q
theorem ok_ris {fH : Addr} {dH : FuncData} (F : Fun K "_law_rising" "_law_rising" sRis f fd) (B : Bl mg) (M : Bm mg) (GH : FnOk P w K mg base CX0 1 fH dH ["_law_value"] spNum) (kH : PySem.W.keepIn K (.ref fH) = true) (bH : Binds K dH ["_law_value"] []) (gH : mg "_law_whole" = some (.ref fH)) : FnOk P w K mg base CX0 2 f fd ["_law_value", "_law_many", "_law_most"] spRis := by
  refine F.ok scRis (fun vs H Q E h => ?_) (fun cdv A outer s H vs Q E hr h => ?_)
  · obtain ⟨v, d, n, m, rfl, _⟩ := h
    rfl
  · obtain ⟨v, d, n, m, rfl, hm, hd, q⟩ := h
    refine ⟨_, pss_cons (ps_if (PW.pt (pw_or (pt_not (pt_val (pe_callB call_isi (by rfl) B.isi boot_isinstance (pa_cons (pv 0) (pa_cons (pe_bltn (v := .ty "tuple") (by rfl) B.tuple PyProof.Rows.boot_tuple rfl) pa_nil)))))
          (pw_or (pt_cmpR op_gt (pe_callB call_len_seq (by rfl) B.len PySem.boot_len (pa_cons (pv 0) pa_nil)) (pv 2) (nomark _))
          (pw_or1 (pt_not (pt_val (pe_callB (cr_all rfl) (by rfl) B.all boot_all (pa_cons (pe_lc (own := [("_law_item", 3)]) (g := gName 3) rfl scRis.nd (pi_tup (pv 0)) (blkOk_by (N := nRis) (sc := defScope sRis) (by decide +kernel))
            (fun _ _ _ _ _ => pg_name (i := 3) scRis.nd rfl (Or.inl rfl)) (fun _ _ _ _ _ => pts_nil) (fun _ _ _ _ _ => pe_call GH hr (by rfl) gH kH bH .nil pass0 (pa_cons (pv 3) pa_nil))) pa_nil))))))))
        (pss_one (ps_ret pe_bl)) pss_nil)
      (pss_one (ps_ret (pe_and (pe_cmpR (op_eqD hr.units) (pe_callTy call_list_of (by rfl) B.list PyProof.Rows.boot_list (pa_cons (pv 0) pa_nil)) (pe_callB (cr_sortedSet rfl) (by rfl) M.sorted (by decide +kernel) (pa_cons (pe_callTy (cr_setI rfl) (by rfl) M.set (by decide +kernel) (pa_cons (pv 0) pa_nil)) pa_nil)) (nomark _))
        (pe_one (pe_or (pe_cmpR (op_eqD hr.units) (pv 0) (pe_tup pa_nil) (nomark _)) (pe_one (pe_and (pe_cmpR op_ge (pe_ix ix_tup (pv 0) pe_int (fun _ _ => rfl)) pe_int (nomark _)) (pe_one (pe_cmpR op_lt (pe_ix ix_tup (pv 0) (pe_un un_neg pe_int) (fun _ _ => rfl)) (pv 1) (nomark _)))))))))), ?_⟩
    refine ⟨_, rfl, _, _, _, _, isTup d, rfl, .ty _, hd.ty, kit_ty (kt_tup d), _, rfl, ?_⟩
    by_cases hb : isTup d = true
    · cases d with
      | tuple ds =>
        refine iteF ?_
        cases hd with
        | @tup a xs _ na ha hal hA =>
          have xl := hA.length
          have eq0 : ascD (.tuple ds) (n : Nat) = asc (n : Nat) 0 ds := rfl
          have el : lenD (.tuple ds) = ds.length := rfl
          refine ⟨_, rfl, a, xs, rfl, .inr (SqT.of ha), _, rfl, _, _, rfl, rfl, _, rfl, ?_⟩
          by_cases c1 : ((m : Nat) : Int) < (xs.length : Nat)
          · rw [decide_eq_true c1]
            refine iteT (iteT ?_)
            have z := q H (Same.refl H)
            rw [el, decide_eq_false (show ¬ ds.length ≤ m by omega), Bool.and_false] at z
            exact z
          · rw [decide_eq_false c1]
            rw [el, decide_eq_true (show ds.length ≤ m by omega), Bool.and_true, eq0] at q
            refine iteF ⟨_, rfl, a, rfl, ⟨_, SqT.of ha⟩, fun D nD => ?_⟩
            refine lc_tup (K := K) (a := a) (xs := xs) (fun i H1 => Same H H1 ∧ H1 D = some (.lst (((ds.take i).map isNum).map V.bl))) ⟨same_new nD, upd_same⟩ (fun i H1 _ p => SqT.of (p.1 _ _ ha)) (fun i x H1 hx p => ?_) (fun H1 p => ?_)
            · obtain ⟨dx, g1, g2⟩ := hA.get hx
              refine ⟨rfl, _, rfl, x, dx, rfl, g2.same p.1, _, p.2, ?_, ?_, ?_⟩
              · rw [List.length_map, List.length_map, List.length_take]
                exact Nat.lt_of_le_of_lt (Nat.min_le_right _ _) (small1000 (by omega))
              · exact fun bb o z => by rw [upd_ne (ne_of_none z nD)]; exact p.1 _ _ z
              · rw [upd_same, List.map_map, List.map_map, tk_map g1]; rfl
            · obtain ⟨s1, hD⟩ := p
              rw [xl, List.take_length] at hD
              refine ⟨D, _, rfl, SqL.of hD, _, rfl, ?_⟩
              have eall : ((ds.map isNum).all id) = ds.all isNum := by rw [List.all_map]; rfl
              rw [eall]
              have ha1 := s1 _ _ ha
              by_cases c2 : ds.all isNum = true
              · rw [c2]
                refine iteF ?_
                obtain ⟨l, rfl⟩ := nums_ints c2
                have ex := das_int hA
                subst ex
                have ll : l.length ≤ 6 := by rw [List.length_map] at c1; omega
                refine ⟨_, rfl, a, _, rfl, .inr (SqT.of ha1), fun L nL => ?_⟩
                have s2 := same_new (o := HO.lst (l.map V.int)) nL
                refine ⟨_, rfl, a, l, rfl, .inr (SqT.of (s2 _ _ ha1)), by omega, fun S c nS hc => ?_⟩
                have s3 := same_new (o := SetO w S (fun j => decide (j ∈ l)) c) nS
                refine ⟨S, _, c, rfl, upd_same, by omega, fun ms p hs hmm hml np => ?_⟩
                have s4 := same_new (o := HO.lst (ms.map V.int)) np
                have s24 := s3.trans s4
                refine ⟨.list (l.map PyData.int), .list (ms.map PyData.int), .lst (SqL.of (s24 _ _ upd_same)) (dp_ints l), .lst (SqL.of upd_same) (dp_ints ms), sh_intsL l, sh_intsL ms, _, rfl, ?_⟩
                have ev : PyData.eqv (.list (l.map PyData.int)) (.list (ms.map PyData.int)) = decide (l = ms) := by rw [PyData.eqv, eqv_ints]
                rw [ev]
                have sA := s1.trans (s2.trans s24)
                have haA := s2.trans s24 _ _ ha1
                by_cases c3 : l = ms
                · rw [decide_eq_true c3]
                  have lp : l.Pairwise (· < ·) := by rw [c3]; exact hs
                  refine iteT ⟨_, rfl, (show 0 ≤ sizeLine by decide), fun em nem => ?_⟩
                  have s5 := same_new (o := HO.tup []) nem
                  refine ⟨.tuple (l.map PyData.int), .tuple [], .tup (SqT.of (s5 _ _ haA)) (dp_ints l), .tup (SqT.of upd_same) .nil, lay_intsT l, by decide +kernel, _, rfl, ?_⟩
                  have ev2 : PyData.eqv (.tuple (l.map PyData.int)) (.tuple []) = decide (l = []) := by
                    have z := eqv_ints l []
                    rw [PyData.eqv]; exact z
                  rw [ev2]
                  have sB := sA.trans s5
                  have haB := s5 _ _ haA
                  have q5 := q _ sB
                  cases l with
                  | nil => exact iteT q5
                  | cons a0 l0 =>
                    refine iteF ⟨_, rfl, a, _, 0, .int a0, rfl, rfl, SqT.of haB, atI_nat (j := 0) rfl, _, _, rfl, rfl, _, rfl, ?_⟩
                    have ai : asc (n : Nat) 0 ((a0 :: l0).map PyData.int) = (decide (0 ≤ a0) && decide ((a0 :: l0).getLast (by simp) < (n : Nat))) := by
                      have z := asc_iff (l := a0 :: l0) (n := (n : Nat)) (lo := 0)
                      rw [ends_iff lp] at z
                      by_cases y : 0 ≤ a0 ∧ (a0 :: l0).getLast (by simp) < (n : Nat)
                      · rw [z.mpr ⟨lp, y⟩, decide_eq_true y.1, decide_eq_true y.2]; rfl
                      · have z2 : asc (n : Nat) 0 ((a0 :: l0).map PyData.int) = false := by
                          rw [← Bool.not_eq_true]; exact fun x => y (z.mp x).2
                        rw [z2]
                        symm
                        rw [← Bool.not_eq_true, Bool.and_eq_true, decide_eq_true_iff, decide_eq_true_iff]
                        exact y
                    rw [ai] at q5
                    have e9 : ((a0 :: l0).dropLast ++ [(a0 :: l0).getLast (by simp)]) = a0 :: l0 := List.dropLast_concat_getLast (by simp)
                    have e10 : atI ((a0 :: l0).map V.int) (-1) = some (V.int ((a0 :: l0).getLast (by simp))) := by
                      have z := atI_last (((a0 :: l0).dropLast).map V.int) (V.int ((a0 :: l0).getLast (by simp)))
                      have e11 : ((a0 :: l0).dropLast).map V.int ++ [V.int ((a0 :: l0).getLast (by simp))] = (a0 :: l0).map V.int := by
                        have y := congrArg (List.map V.int) e9
                        rwa [List.map_append] at y
                      rwa [e11] at z
                    by_cases c4 : (0 : Int) ≤ a0
                    · rw [decide_eq_true c4] at q5 ⊢
                      refine iteT ⟨_, rfl, 1, rfl, a, _, -1, .int ((a0 :: l0).getLast (by simp)), rfl, rfl, SqT.of haB, e10, _, rfl, _, _, rfl, rfl, q5⟩
                    · rw [decide_eq_false c4] at q5 ⊢
                      exact iteF q5
                · rw [decide_eq_false c3]
                  refine iteF ?_
                  have q4 := q _ sA
                  have z2 : asc (n : Nat) 0 (l.map PyData.int) = false := by
                    rw [← Bool.not_eq_true]
                    intro x
                    have y := (asc_iff.mp x).1
                    exact c3 (iasc_uniq y hs fun t => by rw [hmm t, decide_eq_true_iff])
                  rw [z2] at q4
                  exact q4
              · rw [Bool.not_eq_true] at c2
                rw [c2]
                refine iteT ?_
                have z := q H1 s1
                have z2 : asc (n : Nat) 0 ds = false := by
                  rw [← Bool.not_eq_true]; exact fun y => by rw [asc_nums y] at c2; exact nomatch c2
                rw [z2] at z
                exact z
      | _ => exact nomatch hb
    · rw [Bool.not_eq_true] at hb
      rw [hb]
      refine iteT (iteT ?_)
      have y := q H (Same.refl H)
      have e1 : ascD d (n : Nat) = false := by
        cases d with
        | tuple ds => exact nomatch hb
        | _ => rfl
      rw [e1, Bool.false_and] at y
      exact y
end
end Kc

set_option Elab.async false
set_option linter.all false
set_option maxRecDepth 100000
set_option maxHeartbeats 4000000
namespace Kc
open PySem PySem.Spec PyProof.Rows L2 Kg Kd Kr Kf Kx
abbrev sPla : Stmt := topS 26
abbrev nPla : List Str := ["_law_four_here", "_law_elders", "_law_closed", "_law_hollow", "_law_several", "_law_k", "_law_wrong", "_law_name", "_law_some_here"]
theorem scPla : FnScope nPla ["_law_four_here"] (defScope sPla) := ⟨rfl, rfl, rfl, by decide +kernel, rfl, by decide +kernel, by decide +kernel⟩
def spPla : Sp := fun vs H Q _ => ∃ (L : Addr) (ve vc vh s : V) (e c h d : PyData), vs = [.ref L] ∧ H L = some (.lst [ve, vc, vh, s]) ∧ Da Kd.nil H ve e ∧ Da Kd.nil H vc c ∧ Da Kd.nil H vh h ∧ Da Kd.nil H s d ∧ ∀ H', Same H H' → Q (wrP e c h s) H'
theorem asc_lenD {d : PyData} {n : Nat} (h : ascD d (n : Nat) = true) : lenD d ≤ n := by
  obtain ⟨l, rfl, sl⟩ := som_inv h
  show (l.map iD).length ≤ n
  rw [List.length_map]
  exact sl.len
theorem ris_eld {d : PyData} {k m : Nat} {s : V} (hk : k ≤ 6) (hm : m = if s = .bl false then 1 else 6) : (ascD d (k : Nat) && decide (lenD d ≤ m)) = eldB d (k : Nat) (!decide (s = .bl false)) := by
  unfold eldB
  cases ha : ascD d (k : Nat) with
  | false => rfl
  | true =>
    rw [Bool.true_and, Bool.true_and]
    by_cases hs : s = .bl false
    · rw [if_pos hs] at hm
      rw [hm, decide_eq_true hs]; rfl
    · rw [if_neg hs] at hm
      have := asc_lenD ha
      rw [hm, decide_eq_false hs, decide_eq_true (show lenD d ≤ 6 by omega)]; rfl
theorem ris_som {d : PyData} {k : Nat} (hk : k ≤ 6) : (ascD d (k : Nat) && decide (lenD d ≤ 6)) = ascD d (k : Nat) := by
  cases ha : ascD d (k : Nat) with
  | false => rfl
  | true => rw [Bool.true_and, decide_eq_true (show lenD d ≤ 6 by have := asc_lenD ha; omega)]
theorem bool_iff {av : Addr → Prop} {H : Hp} {s : V} {d : PyData} (h : Da av H s d) : isBool d = true ↔ (s = .bl true ∨ s = .bl false) := by
  cases h with
  | bl b => cases b <;> simp [isBool]
  | _ => simp [isBool]
theorem iteD {c : Bool} {A B : Prop} (h : c = true) (x : A) : if c = true then A else B := by rw [if_pos h]; exact x
theorem iteE {c : Bool} {A B : Prop} (h : c = false) (x : B) : if c = true then A else B := by rw [if_neg (by rw [h]; exact Bool.false_ne_true)]; exact x
def rLenK (K : PySem.W.Frag) : List V → Hp → VK → Prop := fun xs H Q => ∃ p ys, xs = [.ref p] ∧ (SqL K H p ys ∨ SqT K H p ys) ∧ Q (.int (ys.length : Nat)) H
theorem call_lenK {X : Cx} {K : PySem.W.Frag} (h : X.K = K) : CallR X (.builtin "len") (rLenK K) := by
  subst h
  exact call_len_seq
section
variable {P : Program} {w : World} {K : PySem.W.Frag} {mg : Str → Option Value} {base : Heap} {f : Addr} {fd : FuncData} {k : Nat}
theorem ok_pla {fR : Addr} {dR : FuncData} (F : Fun K "_law_place" "_law_place" sPla f fd) (B : Bl mg) (GR : FnOk P w K mg base CX0 2 fR dR ["_law_value", "_law_many", "_law_most"] spRis) (kR : PySem.W.keepIn K (.ref fR) = true) (bR : Binds K dR ["_law_value", "_law_many", "_law_most"] []) (gR : mg "_law_rising" = some (.ref fR)) : FnOk P w K mg base CX0 3 f fd ["_law_four_here"] spPla := by
  refine F.ok scPla (fun vs H Q E h => ?_) (fun cdv A outer s H vs Q E hr h => ?_)
  · obtain ⟨L, ve, vc, vh, s, e, c, h, d, rfl, _⟩ := h
    rfl
  · obtain ⟨L, ve, vc, vh, s, e, c, h, d, rfl, hL, he, hc, hh, hd, q⟩ := h
    refine ⟨_, pss_cons (ps_asg (pv 0) (pg_lst rfl (pgs_cons (pg_name (i := 1) scPla.nd rfl (.inr rfl)) (pgs_cons (pg_name (i := 2) scPla.nd rfl (.inl rfl)) (pgs_cons (pg_name (i := 3) scPla.nd rfl (.inl rfl)) (pgs_cons (pg_name (i := 4) scPla.nd rfl (.inl rfl)) pgs_nil))))))
      (pss_cons (ps_if (PW.pt (pw_or (pt_not (pt_val (pe_callB call_isi (by rfl) B.isi boot_isinstance (pa_cons (pv 1) (pa_cons (pe_bltn (v := .ty "tuple") (by rfl) B.tuple PyProof.Rows.boot_tuple rfl) pa_nil)))))
          (pw_or (pt_cmpR op_lt (pe_callB call_len_seq (by rfl) B.len PySem.boot_len (pa_cons (pv 1) pa_nil)) pe_int (nomark _))
          (pw_or1 (pt_cmpR op_gt (pe_callB call_len_seq (by rfl) B.len PySem.boot_len (pa_cons (pv 1) pa_nil)) pe_int (nomark _)))))) (pss_one (ps_ret pe_str)) pss_nil)
      (pss_cons (ps_for PassesOwn.never rfl (pi_range1 (by rfl) B.range (pa_cons (pe_callB call_len_seq (by rfl) B.len PySem.boot_len (pa_cons (pv 1) pa_nil)) pa_nil)) (pg_name (i := 5) scPla.nd rfl (.inl rfl))
        (pss_one (ps_if (pt_not (pt_val (pe_call GR hr (by rfl) gR kR bR .nil pass0 (pa_cons (pe_ix ix_tup (pv 1) (pv 5) (fun _ _ => rfl)) (pa_cons (pv 5) (pa_cons (pe_ifExp (pt_cmpR op_isBv (pv 4) pe_bl (nomark _)) pe_int pe_int) pa_nil)))))) (pss_one (ps_ret (pv 5))) pss_nil)))
      (pss_cons (ps_setLc (i := 6) (own := [("_law_name", 7), ("_law_some_here", 8)]) (g := gTup K 2 (gCons (gName 7) (gCons (gName 8) gNil))) rfl scPla.nd rfl rfl (sw_true rfl rfl rfl (by decide +kernel))
        (pi_list (pe_lst (pa_cons (pe_tup (pa_cons pe_str (pa_cons (pv 2) pa_nil))) (pa_cons (pe_tup (pa_cons pe_str (pa_cons (pv 3) pa_nil))) pa_nil))))
        (blkOk_by (N := nPla) (sc := defScope sPla) (by decide +kernel)) (fun _ _ _ _ _ => pg_tup rfl (pgs_cons (pg_name (i := 7) scPla.nd rfl (.inl rfl)) (pgs_cons (pg_name (i := 8) scPla.nd rfl (.inl rfl)) pgs_nil)))
        (fun _ _ _ _ _ => pts_one (pt_not (pt_val (pe_call GR hr (by rfl) gR kR bR .nil pass0 (pa_cons (pv 8) (pa_cons (pe_callB (call_lenK (K := K) rfl) (by rfl) B.len PySem.boot_len (pa_cons (pv 1) pa_nil)) (pa_cons pe_int pa_nil))))))) (fun _ _ _ _ _ => pv 7))
      (pss_one (ps_ret (pe_ix ix_list (pe_op op_cat (pe_op op_cat (pv 6) (pe_ifExp (pt_val (pe_callB call_isi (by rfl) B.isi boot_isinstance (pa_cons (pv 4) (pa_cons (pe_bltn (v := .ty "bool") (by rfl) B.bool PyProof.Rows.boot_bool rfl) pa_nil)))) (pe_lst pa_nil) (pe_lst (pa_cons pe_str pa_nil)))) (pe_lst (pa_cons pe_non pa_nil))) pe_int (fun _ _ => rfl))))))), ?_⟩
    refine ⟨_, rfl, L, _, rfl, SqL.of hL, rfl, ve, _, rfl, vc, _, rfl, vh, _, rfl, s, _, rfl, rfl, ?_⟩
    refine ⟨_, rfl, _, _, _, _, isTup e, rfl, .ty _, he.ty, kit_ty (kt_tup e), _, rfl, ?_⟩
    by_cases hb : isTup e = true
    · cases e with
      | tuple ds =>
        refine iteF ?_
        cases he with
        | @tup a xs _ na ha hal hA =>
          have xl := hA.length
          have out : ¬ (1 ≤ ds.length ∧ ds.length ≤ 6) → Q (.str "elders") H := fun z => by
            have y := q H (Same.refl H)
            have e1 : wrP (.tuple ds) c h s = .str "elders" := by
              show (if 1 ≤ ds.length ∧ ds.length ≤ 6 then _ else _) = _
              rw [if_neg z]
            rwa [e1] at y
          refine ⟨_, rfl, a, xs, rfl, .inr (SqT.of ha), _, _, rfl, rfl, _, rfl, ?_⟩
          by_cases c1 : ((xs.length : Nat) : Int) < 1
          · rw [decide_eq_true c1]
            exact iteT (iteT (out (by omega)))
          · rw [decide_eq_false c1]
            refine iteF ⟨_, rfl, a, xs, rfl, .inr (SqT.of ha), _, _, rfl, rfl, _, rfl, ?_⟩
            by_cases c2 : (6 : Int) < ((xs.length : Nat) : Int)
            · rw [decide_eq_true c2]
              exact iteT (out (by omega))
            · rw [decide_eq_false c2]
              refine iteF ?_
              have e1 : wrP (.tuple ds) c h s = (match wrE (!decide (s = .bl false)) 0 ds with
                  | some k => .int (k : Nat)
                  | none => if ascD c (ds.length : Nat) then (if ascD h (ds.length : Nat) then (if s = .bl true ∨ s = .bl false then .non else .str "several") else .str "hollow") else .str "closed") := by
                exact if_pos (show 1 ≤ ds.length ∧ ds.length ≤ 6 by omega)
              rw [e1] at q
              clear e1
              refine ⟨_, rfl, a, xs, rfl, .inr (SqT.of ha), _, rfl, by omega, by omega, for_range (lo := 0) (n := ((xs.length : Nat) : Int).toNat) (fun i σ H1 => ∃ y5 : Option V, σ = [some (.ref L), some (.ref a), some vc, some vh, some s, y5, none, none, none] ∧ Same H H1 ∧ wrE (!decide (s = .bl false)) 0 ds = wrE (!decide (s = .bl false)) i (ds.drop i))
                ⟨none, rfl, Same.refl H, rfl⟩ (fun i σ H1 hi p => ?_) (fun σ H1 p => ?_)⟩
              · obtain ⟨y5, rfl, s1, ew⟩ := p
                rw [Int.toNat_natCast] at hi
                have ei : (0 : Int) + (i : Nat) = (i : Nat) := by omega
                rw [ei]
                have hx : xs[i]? = some (xs[i]'hi) := List.getElem?_eq_getElem hi
                obtain ⟨dx, g1, g2⟩ := hA.get hx
                have hdrop : ds.drop i = dx :: ds.drop (i + 1) := by
                  obtain ⟨z1, z2⟩ := List.getElem?_eq_some_iff.mp g1
                  rw [List.drop_eq_getElem_cons z1, z2]
                rw [hdrop] at ew
                have e2 : wrE (!decide (s = .bl false)) i (dx :: ds.drop (i + 1)) = if eldB dx (i : Nat) (!decide (s = .bl false)) then wrE (!decide (s = .bl false)) (i + 1) (ds.drop (i + 1)) else some i := rfl
                have fin : ∀ (m : Nat) (H2 : Hp), Same H H2 → (m = if s = .bl false then 1 else 6) → (eldB dx (i : Nat) (!decide (s = .bl false)) = true → wrE (!decide (s = .bl false)) 0 ds = wrE (!decide (s = .bl false)) (i + 1) (ds.drop (i + 1))) ∧ (eldB dx (i : Nat) (!decide (s = .bl false)) = false → Q (.int (i : Nat)) H2) := by
                  intro m H2 s2 hm
                  refine ⟨fun z => ?_, fun z => ?_⟩
                  · rw [z, if_pos rfl] at e2; exact ew.trans e2
                  · rw [z, if_neg Bool.false_ne_true] at e2
                    have y := q H2 s2
                    rw [ew, e2] at y
                    exact y
                refine ⟨_, rfl, _, rfl, a, xs, _, _, rfl, rfl, SqT.of (s1 _ _ ha), atI_nat (j := i) hx, _, rfl, _, rfl, false, rfl, _, rfl, ?_⟩
                by_cases cs : s = .bl false
                · refine iteD (decide_eq_true cs) ⟨_, dx, i, 1, rfl, by decide, g2.same s1, fun H2 s2 => ⟨_, rfl, ?_⟩⟩
                  obtain ⟨f1, f2⟩ := fin 1 H2 (s1.trans s2) (by rw [if_pos cs])
                  rw [ris_eld (s := s) (by omega) (by rw [if_pos cs])]
                  cases hz : eldB dx (i : Nat) (!decide (s = .bl false)) with
                  | true => exact iteF ⟨_, rfl, s1.trans s2, f1 hz⟩
                  | false => exact iteT ⟨_, rfl, f2 hz⟩
                · refine iteE (decide_eq_false cs) ⟨_, dx, i, 6, rfl, by decide, g2.same s1, fun H2 s2 => ⟨_, rfl, ?_⟩⟩
                  obtain ⟨f1, f2⟩ := fin 6 H2 (s1.trans s2) (by rw [if_neg cs])
                  rw [ris_eld (s := s) (by omega) (by rw [if_neg cs])]
                  cases hz : eldB dx (i : Nat) (!decide (s = .bl false)) with
                  | true => exact iteF ⟨_, rfl, s1.trans s2, f1 hz⟩
                  | false => exact iteT ⟨_, rfl, f2 hz⟩
              · obtain ⟨y5, rfl, s1, ew⟩ := p
                rw [Int.toNat_natCast, xl, List.drop_length] at ew
                have ew2 : wrE (!decide (s = .bl false)) 0 ds = none := ew
                rw [ew2] at q
                -- the two of them
                refine ⟨_, rfl, (show 2 ≤ sizeLine by decide), fun t1 nt1 => ⟨_, rfl, (show 2 ≤ sizeLine by decide), fun t2 nt2 => ⟨(show 2 ≤ sizeLine by decide), fun l nl => ?_⟩⟩⟩
                have s2 := same_new (o := HO.tup [.str "closed", vc]) nt1
                have s3 := same_new (o := HO.tup [.str "hollow", vh]) nt2
                have s4 := same_new (o := HO.lst [.ref t1, .ref t2]) nl
                have h1 := s4 _ _ (s3 _ _ (upd_same (H := H1) (a := t1) (o := HO.tup [.str "closed", vc])))
                have h2 := s4 _ _ (upd_same (H := upd H1 t1 (HO.tup [.str "closed", vc])) (a := t2) (o := HO.tup [.str "hollow", vh]))
                have hl := upd_same (H := upd (upd H1 t1 (HO.tup [.str "closed", vc])) t2 (HO.tup [.str "hollow", vh])) (a := l) (o := HO.lst [.ref t1, .ref t2])
                have sA := s1.trans (s2.trans (s3.trans s4))
                clear s2 s3 s4
                generalize upd (upd (upd H1 t1 (HO.tup [.str "closed", vc])) t2 (HO.tup [.str "hollow", vh])) l (HO.lst [.ref t1, .ref t2]) = H2 at h1 h2 hl sA ⊢
                refine ⟨l, rfl, ⟨_, SqL.of hl⟩, fun D nD => ?_⟩
                let wr : List V := (if ascD c (ds.length : Nat) then [] else [.str "closed"])
                let wr2 : List V := wr ++ (if ascD h (ds.length : Nat) then [] else [.str "hollow"])
                refine lc_list (K := K) (a := l) (xs := [.ref t1, .ref t2]) (fun i H3 => Same H2 H3 ∧ H3 D = some (.lst (if i = 0 then [] else if i = 1 then wr else wr2))) ⟨same_new nD, upd_same⟩ (fun i H3 _ p => SqL.of (p.1 _ _ hl)) (fun i x H3 hx p => ?_) (fun H3 p => ?_)
                · obtain ⟨s3, hD⟩ := p
                  have ha3 := s3 _ _ (sA _ _ ha)
                  have two : (i = 0 ∧ x = .ref t1) ∨ (i = 1 ∧ x = .ref t2) := by
                    match i, hx with
                    | 0, hx => exact .inl ⟨rfl, (Option.some.inj hx).symm⟩
                    | 1, hx => exact .inr ⟨rfl, (Option.some.inj hx).symm⟩
                  rcases two with ⟨rfl, rfl⟩ | ⟨rfl, rfl⟩
                  · refine ⟨t1, _, rfl, SqT.of (s3 _ _ h1), rfl, _, _, rfl, _, _, rfl, rfl, rfl, ?_⟩
                    refine ⟨_, rfl, _, rfl, a, xs, rfl, .inr (SqT.of ha3), vc, c, xs.length, 6, rfl, by decide, hc.same (sA.trans s3), fun H4 s4 => ⟨_, rfl, ?_⟩⟩
                    rw [ris_som (by omega), xl]
                    have hD4 := s4 _ _ hD
                    cases hz : ascD c (ds.length : Nat) with
                    | true =>
                      refine iteF ⟨s3.trans s4, ?_⟩
                      show H4 D = some (.lst (wr))
                      have : wr = [] := if_pos hz
                      rw [this]; exact hD4
                    | false =>
                      refine iteT ⟨_, rfl, _, hD4, small1000 (by show (0 : Nat) ≤ 1000; decide), fun bb o z => ?_, ?_⟩
                      · rw [upd_ne (ne_of_none z nD)]; exact s4 _ _ (s3 _ _ z)
                      · rw [upd_same]
                        show some (HO.lst [V.str "closed"]) = some (.lst (wr))
                        have : wr = [.str "closed"] := if_neg (by rw [hz]; exact Bool.false_ne_true)
                        rw [this]
                  · refine ⟨t2, _, rfl, SqT.of (s3 _ _ h2), rfl, _, _, rfl, _, _, rfl, rfl, rfl, ?_⟩
                    refine ⟨_, rfl, _, rfl, a, xs, rfl, .inr (SqT.of ha3), vh, h, xs.length, 6, rfl, by decide, hh.same (sA.trans s3), fun H4 s4 => ⟨_, rfl, ?_⟩⟩
                    rw [ris_som (by omega), xl]
                    have hD4 : H4 D = some (.lst (wr)) := s4 _ _ hD
                    have wl : wr.length ≤ 1 := by
                      show (if ascD c (ds.length : Nat) = true then ([] : List V) else [.str "closed"]).length ≤ 1
                      split <;> simp
                    cases hz : ascD h (ds.length : Nat) with
                    | true =>
                      refine iteF ⟨s3.trans s4, ?_⟩
                      show H4 D = some (.lst (wr2))
                      have : wr2 = wr := by show wr ++ (if ascD h (ds.length : Nat) = true then [] else [V.str "hollow"]) = wr; rw [if_pos hz, List.append_nil]
                      rw [this]; exact hD4
                    | false =>
                      refine iteT ⟨_, rfl, _, hD4, small1000 (by omega), fun bb o z => ?_, ?_⟩
                      · rw [upd_ne (ne_of_none z nD)]; exact s4 _ _ (s3 _ _ z)
                      · rw [upd_same]
                        show some (HO.lst (wr ++ [V.str "hollow"])) = some (.lst (wr2))
                        have : wr2 = wr ++ [.str "hollow"] := by show wr ++ (if ascD h (ds.length : Nat) = true then [] else [V.str "hollow"]) = _; rw [if_neg (by rw [hz]; exact Bool.false_ne_true)]
                        rw [this]
                · obtain ⟨s3, hD⟩ := p
                  have hD' : H3 D = some (.lst (wr2)) := hD
                  have w2l : wr2.length ≤ 2 := by
                    show ((if ascD c (ds.length : Nat) = true then ([] : List V) else [.str "closed"]) ++ (if ascD h (ds.length : Nat) = true then [] else [V.str "hollow"])).length ≤ 2
                    split <;> split <;> simp
                  have sB := sA.trans s3
                  -- the end
                  have hval : ∀ tl : List V, tl = (if s = .bl true ∨ s = .bl false then [] else [.str "several"]) → (wr2 ++ tl ++ [.non])[0]? = some (if ascD c (ds.length : Nat) then (if ascD h (ds.length : Nat) then (if s = .bl true ∨ s = .bl false then V.non else .str "several") else .str "hollow") else .str "closed") := by
                    intro tl ht
                    show ((((if ascD c (ds.length : Nat) = true then ([] : List V) else [.str "closed"]) ++ (if ascD h (ds.length : Nat) = true then [] else [V.str "hollow"]))) ++ tl ++ [.non])[0]? = _
                    subst ht
                    by_cases z1 : ascD c (ds.length : Nat) = true
                    · rw [if_pos z1, if_pos z1]
                      by_cases z2 : ascD h (ds.length : Nat) = true
                      · rw [if_pos z2, if_pos z2]
                        by_cases z3 : s = .bl true ∨ s = .bl false
                        · rw [if_pos z3, if_pos z3]; rfl
                        · rw [if_neg z3, if_neg z3]; rfl
                      · rw [if_neg z2, if_neg z2]; rfl
                    · rw [if_neg z1, if_neg z1]; rfl
                  refine ⟨_, rfl, _, rfl, _, _, _, _, isBool d, rfl, .ty _, (hd.same sB).ty, kit_ty (kt_bool d), _, rfl, ?_⟩
                  have hbi := bool_iff hd
                  cases hbd : isBool d with
                  | true =>
                    rw [hbd] at hbi
                    have z3 := hbi.mp rfl
                    refine iteT ⟨(show 0 ≤ sizeLine by decide), fun m nm => ?_⟩
                    have s5 := same_new (o := HO.lst []) nm
                    refine ⟨D, m, _, _, rfl, rfl, s5 _ _ hD', upd_same, Nat.le_of_lt (small1000 (by simp; omega)), fun m2 nm2 => ?_⟩
                    have s6 := same_new (o := HO.lst (wr2 ++ [])) nm2
                    refine ⟨(show 1 ≤ sizeLine by decide), fun m3 nm3 => ?_⟩
                    have s7 := same_new (o := HO.lst [.non]) nm3
                    refine ⟨m2, m3, _, _, rfl, rfl, s7 _ _ upd_same, upd_same, Nat.le_of_lt (small1000 (by rw [List.length_append]; simp; omega)), fun m4 nm4 => ?_⟩
                    have s8 := same_new (o := HO.lst (wr2 ++ [] ++ [.non])) nm4
                    refine ⟨m4, _, 0, _, rfl, rfl, SqL.of upd_same, atI_nat (j := 0) (hval [] (by rw [if_pos z3])), ?_⟩
                    exact q _ (sB.trans (s5.trans (s6.trans (s7.trans s8))))
                  | false =>
                    rw [hbd] at hbi
                    have z3 : ¬ (s = .bl true ∨ s = .bl false) := fun y => nomatch hbi.mpr y
                    refine iteF ⟨(show 1 ≤ sizeLine by decide), fun m nm => ?_⟩
                    have s5 := same_new (o := HO.lst [.str "several"]) nm
                    refine ⟨D, m, _, _, rfl, rfl, s5 _ _ hD', upd_same, Nat.le_of_lt (small1000 (by simp; omega)), fun m2 nm2 => ?_⟩
                    have s6 := same_new (o := HO.lst (wr2 ++ [.str "several"])) nm2
                    refine ⟨(show 1 ≤ sizeLine by decide), fun m3 nm3 => ?_⟩
                    have s7 := same_new (o := HO.lst [.non]) nm3
                    refine ⟨m2, m3, _, _, rfl, rfl, s7 _ _ upd_same, upd_same, Nat.le_of_lt (small1000 (by rw [List.length_append]; simp; omega)), fun m4 nm4 => ?_⟩
                    have s8 := same_new (o := HO.lst (wr2 ++ [.str "several"] ++ [.non])) nm4
                    refine ⟨m4, _, 0, _, rfl, rfl, SqL.of upd_same, atI_nat (j := 0) (hval [.str "several"] (by rw [if_neg z3])), ?_⟩
                    exact q _ (sB.trans (s5.trans (s6.trans (s7.trans s8))))
      | _ => exact nomatch hb
    · rw [Bool.not_eq_true] at hb
      rw [hb]
      refine iteT (iteT ?_)
      have y := q H (Same.refl H)
      have e1 : wrP e c h s = .str "elders" := by
        cases e with
        | tuple ds => exact nomatch hb
        | _ => rfl
      rwa [e1] at y
end
end Kc

set_option Elab.async false
set_option linter.all false
set_option maxRecDepth 100000
set_option maxHeartbeats 4000000
namespace Kd
open PySem PySem.Spec PyProof.Rows L2 Kg
/-! ### how long data are when shown -/
theorem shownAll_map : ∀ ds : List PyData, PyData.shownAll ds = ds.map PyData.shown
  | [] => rfl
  | d :: ds => by show PyData.shown d :: PyData.shownAll ds = _; rw [shownAll_map ds]; rfl
structure Bd (d : PyData) (n D : Nat) : Prop where
  dep : d.depth ≤ D
  sho : d.showable = true
  len : d.shown.length ≤ n
theorem Bd.mono {d : PyData} {n D m E : Nat} (h : Bd d n D) (h1 : n ≤ m) (h2 : D ≤ E) : Bd d m E := ⟨Nat.le_trans h.dep h2, h.sho, Nat.le_trans h.len h1⟩
theorem bd_depA : ∀ {ds : List PyData} {D : Nat}, (∀ x ∈ ds, x.depth ≤ D) → PyData.depthAll ds ≤ D
  | [], _, _ => Nat.zero_le _
  | d :: ds, D, h => by
    show max d.depth (PyData.depthAll ds) ≤ D
    have := h d (List.mem_cons_self ..)
    have := bd_depA (ds := ds) (D := D) (fun x hx => h x (List.mem_cons_of_mem _ hx))
    omega
theorem bd_shoA : ∀ {ds : List PyData}, (∀ x ∈ ds, x.showable = true) → PyData.showableAll ds = true
  | [], _ => rfl
  | d :: ds, h => by
    show (PyData.showable d && PyData.showableAll ds) = true
    rw [h d (List.mem_cons_self ..), bd_shoA (ds := ds) (fun x hx => h x (List.mem_cons_of_mem _ hx))]; rfl
theorem piled_le : ∀ {ts : List Str} {B k : Nat}, (∀ t ∈ ts, t.length ≤ B) → ts.length ≤ k → piled ts ≤ k * (B + 2)
  | [], _, _, _, _ => by simp [piled]
  | t :: ts, B, k, h, hk => by
    have h1 := h t (List.mem_cons_self ..)
    obtain ⟨k', rfl⟩ : ∃ k', k = k' + 1 := ⟨k - 1, by rw [List.length_cons] at hk; omega⟩
    have h2 := piled_le (ts := ts) (B := B) (k := k') (fun x hx => h x (List.mem_cons_of_mem _ hx)) (by rw [List.length_cons] at hk; omega)
    have e : piled (t :: ts) = t.length + 2 + piled ts := by simp [piled]
    rw [e, Nat.add_mul]; omega
theorem tup_len {ts : List Str} {B k : Nat} (h : ∀ t ∈ ts, t.length ≤ B) (hk : ts.length ≤ k) : (tupleText ts).length ≤ 3 + k * (B + 2) := by
  have hp := piled_le h hk
  have e : (tupleText ts).length = 1 + (Str.join ", " ts).length + ((if ts.length == 1 then ",)" else ")" : String) : Str).length := by
    unfold tupleText
    rw [strLen_append, strLen_append]; rfl
  have e2 : ((if ts.length == 1 then ",)" else ")" : String) : Str).length ≤ 2 := by split <;> decide
  by_cases hn : ts = []
  · subst hn
    have e3 : (Str.join ", " ([] : List Str)).length = 0 := rfl
    omega
  · have h2 := join_length_add ts hn
    omega
theorem textFrom_le : ∀ (ts : List Str) (k : Nat) (acc : Str) (B : Nat), (∀ t ∈ ts, t.length ≤ B) → (textFrom k acc ts).length ≤ acc.length + ts.length * (B + 2)
  | [], k, acc, B, _ => by show acc.length ≤ _; omega
  | t :: r, k, acc, B, h => by
    have ih := textFrom_le r (k + 1) (acc ++ (if k > 0 then ", " else "" : String) ++ t) B (fun x hx => h x (List.mem_cons_of_mem _ hx))
    have e : (acc ++ (if k > 0 then ", " else "" : String) ++ t).length ≤ acc.length + 2 + t.length := by
      rw [strLen_append, strLen_append]
      have : ((if k > 0 then ", " else "" : String) : Str).length ≤ 2 := by split <;> decide
      omega
    have h1 := h t (List.mem_cons_self ..)
    show (textFrom (k + 1) (acc ++ (if k > 0 then ", " else "" : String) ++ t) r).length ≤ _
    rw [List.length_cons, Nat.add_mul]; omega
theorem lst_len {ts : List Str} {B k : Nat} (h : ∀ t ∈ ts, t.length ≤ B) (hk : ts.length ≤ k) : (listText ts).length ≤ 3 + k * (B + 2) := by
  have z := textFrom_le ts 0 "[" B h
  have e : (listText ts).length = (textFrom 0 "[" ts).length + 1 := by
    show (textFrom 0 "[" ts ++ "]").length = _
    rw [strLen_append]; rfl
  have e2 : (("[" : String) : Str).length = 1 := rfl
  have e3 : ts.length * (B + 2) ≤ k * (B + 2) := Nat.mul_le_mul_right _ hk
  omega
theorem bd_tup {ds : List PyData} {n D k : Nat} (h : ∀ x ∈ ds, Bd x n D) (hk : ds.length ≤ k) : Bd (.tuple ds) (3 + k * (n + 2)) (D + 1) := by
  refine ⟨?_, bd_shoA fun x hx => (h x hx).sho, ?_⟩
  · show PyData.depthAll ds + 1 ≤ D + 1
    have := bd_depA (D := D) fun x hx => (h x hx).dep
    omega
  · show (tupleText (PyData.shownAll ds)).length ≤ _
    rw [shownAll_map]
    refine tup_len (fun t ht => ?_) (by rw [List.length_map]; exact hk)
    obtain ⟨x, hx, rfl⟩ := List.mem_map.mp ht
    exact (h x hx).len
theorem bd_lst {ds : List PyData} {n D k : Nat} (h : ∀ x ∈ ds, Bd x n D) (hk : ds.length ≤ k) : Bd (.list ds) (3 + k * (n + 2)) (D + 1) := by
  refine ⟨?_, bd_shoA fun x hx => (h x hx).sho, ?_⟩
  · show PyData.depthAll ds + 1 ≤ D + 1
    have := bd_depA (D := D) fun x hx => (h x hx).dep
    omega
  · show (listText (PyData.shownAll ds)).length ≤ _
    rw [shownAll_map]
    refine lst_len (fun t ht => ?_) (by rw [List.length_map]; exact hk)
    obtain ⟨x, hx, rfl⟩ := List.mem_map.mp ht
    exact (h x hx).len
theorem bd_int {i : Int} (h1 : -1 ≤ i) (h2 : i ≤ 6) : Bd (.int i) 2 0 := by
  have : i = -1 ∨ i = 0 ∨ i = 1 ∨ i = 2 ∨ i = 3 ∨ i = 4 ∨ i = 5 ∨ i = 6 := by omega
  rcases this with h | h | h | h | h | h | h | h <;> subst h <;> exact ⟨by decide +kernel, by decide +kernel, by decide +kernel⟩
/-- an item of elders -/
def Sml (d : PyData) : Prop := Bd d 200 4
/-- one of the four parts -/
structure Prt (d : PyData) : Prop where
  bd : Bd d 4000 5
  its : ∀ ds, d = .tuple ds → ds.length ≤ 6 ∧ ∀ x ∈ ds, Sml x
theorem prt_of {d : PyData} (h : Bd d 4000 5) (n : isTup d = false) : Prt d := ⟨h, fun ds e => by rw [e] at n; exact nomatch n⟩
theorem prt_tup {ds : List PyData} (h : ∀ x ∈ ds, Sml x) (hl : ds.length ≤ 6) : Prt (.tuple ds) :=
  ⟨(bd_tup (k := 6) h hl).mono (by decide) (by decide), fun es e => by cases e; exact ⟨hl, h⟩⟩
theorem sml_tup {ds : List PyData} (h : ∀ x ∈ ds, Bd x 2 0) (hl : ds.length ≤ 6) : Sml (.tuple ds) := (bd_tup (k := 6) h hl).mono (by decide) (by decide)
theorem sml_int {i : Int} (h1 : -1 ≤ i) (h2 : i ≤ 6) : Sml (.int i) := (bd_int h1 h2).mono (by decide) (by decide)
/-! ### places -/
mutual
theorem Da.more {av bv : Addr → Prop} {H : Hp} (k : ∀ a, bv a → H a = none) : ∀ {v : V} {d : PyData}, Da av H v d → Da (fun a => av a ∨ bv a) H v d
  | _, _, .non => .non
  | _, _, .bl b => .bl b
  | _, _, .int i => .int i
  | _, _, .str x => .str x
  | _, _, .lst n h l r => .lst (fun z => z.elim n fun y => by rw [k _ y] at h; cases h) h l (DaAll.more k r)
  | _, _, .tup n h l r => .tup (fun z => z.elim n fun y => by rw [k _ y] at h; cases h) h l (DaAll.more k r)
  | _, _, .dc0 n h => .dc0 (fun z => z.elim n fun y => by rw [k _ y] at h; cases h) h
  | _, _, .dc1 n h => .dc1 (fun z => z.elim n fun y => by rw [k _ y] at h; cases h) h
theorem DaAll.more {av bv : Addr → Prop} {H : Hp} (k : ∀ a, bv a → H a = none) : ∀ {vs : List V} {ds : List PyData}, DaAll av H vs ds → DaAll (fun a => av a ∨ bv a) H vs ds
  | _, _, .nil => .nil
  | _, _, .cons h r => .cons (Da.more k h) (DaAll.more k r)
end
theorem DaAll.take {av : Addr → Prop} {H : Hp} : ∀ {vs : List V} {ds : List PyData} (n : Nat), DaAll av H vs ds → DaAll av H (vs.take n) (ds.take n)
  | _, _, 0, _ => by rw [List.take_zero, List.take_zero]; exact .nil
  | _, _, n + 1, .nil => by rw [List.take_nil, List.take_nil]; exact .nil
  | _, _, n + 1, .cons h r => by rw [List.take_succ_cons, List.take_succ_cons]; exact .cons h (DaAll.take n r)
theorem DaAll.drop {av : Addr → Prop} {H : Hp} : ∀ {vs : List V} {ds : List PyData} (n : Nat), DaAll av H vs ds → DaAll av H (vs.drop n) (ds.drop n)
  | _, _, 0, h => by rw [List.drop_zero, List.drop_zero]; exact h
  | _, _, n + 1, .nil => by rw [List.drop_nil, List.drop_nil]; exact .nil
  | _, _, n + 1, .cons h r => by rw [List.drop_succ_cons, List.drop_succ_cons]; exact DaAll.drop n r
theorem DaAll.set {av : Addr → Prop} {H : Hp} {v : V} {d : PyData} (hv : Da av H v d) : ∀ {vs : List V} {ds : List PyData} (n : Nat), DaAll av H vs ds → DaAll av H (vs.set n v) (ds.set n d)
  | _, _, _, .nil => .nil
  | _, _, 0, .cons h r => .cons hv r
  | _, _, n + 1, .cons h r => .cons h (DaAll.set hv n r)
/-! ### displays over what stands there -/
def tDatA (pre : L2.St → Hp → Prop) (av : Addr → Prop) (d : PyData) : TE := fun σ H Q => pre σ H ∧ ∀ v H', Same H H' → Da av H' v d → Q v H'
def tDatsA (pre : L2.St → Hp → Prop) (av : Addr → Prop) (ds : List PyData) : TA := fun σ H Q => pre σ H ∧ ∀ vs H', Same H H' → DaAll av H' vs ds → Q vs H'
section
variable {X : Cx} {pre : L2.St → Hp → Prop} {av : Addr → Prop}
theorem pda_of {e : Expr} {te : TE} {d : PyData} (h : PE X e te) (i : ∀ σ H Q, pre σ H → (∀ v H', Same H H' → Da av H' v d → Q v H') → te σ H Q) : PE X e (tDatA pre av d) := pe_imp h fun σ H Q z => i σ H Q z.1 z.2
theorem pda_con {e : Expr} {d : PyData} (ht : ∀ σ H, pre σ H → ∀ a, av a → H a ≠ none) (h : PE X e (tDat d)) : PE X e (tDatA pre av d) := pda_of h fun σ H Q p z v H' s hd => z v H' s (hd.sub (ht σ H p))
theorem pdas_nil : PA X [] (tDatsA pre av []) := pa_imp pa_nil fun _ H _ z => z.2 _ H (Same.refl H) .nil
theorem pdas_cons {e : Expr} {es : List Expr} {d : PyData} {ds : List PyData} (st : Stays pre) (h : PE X e (tDatA pre av d)) (r : PA X es (tDatsA pre av ds)) (hs : starEach (e :: es) X.env = (false, eval e X.env) :: starEach es X.env := by rfl) : PA X (e :: es) (tDatsA pre av (d :: ds)) :=
  pa_imp (pa_cons h r hs) fun σ H Q z => ⟨z.1, fun v H1 s1 h1 => ⟨st σ H H1 s1 z.1, fun vs H2 s2 h2 => z.2 _ H2 (s1.trans s2) (.cons (h1.same s2) h2)⟩⟩
theorem pda_tup {es : List Expr} {ds : List PyData} {x1} {pos : Pos} (ht : ∀ σ H, pre σ H → ∀ a, av a → H a ≠ none) (h : PA X es (tDatsA pre av ds)) (hl : ds.length ≤ 1000 := by first | decide | simp) : PE X (.Tuple es x1 pos) (tDatA pre av (.tuple ds)) :=
  pe_imp (pe_tup h) fun σ H Q z => ⟨z.1, fun vs H1 s1 h1 => ⟨by rw [h1.length]; exact Nat.le_of_lt (small1000 hl), fun t nt => z.2 _ _ (s1.trans (same_new nt)) (.tup (fun c => ht σ H z.1 t c (s1.free nt)) upd_same (by rw [h1.length]; exact hl) (h1.keep (.of_same (same_new nt))))⟩⟩
theorem pda_lst {es : List Expr} {ds : List PyData} {pos : Pos} (ht : ∀ σ H, pre σ H → ∀ a, av a → H a ≠ none) (h : PA X es (tDatsA pre av ds)) (hl : ds.length ≤ 1000 := by first | decide | simp) : PE X (.List es pos) (tDatA pre av (.list ds)) :=
  pe_imp (pe_lst h) fun σ H Q z => ⟨z.1, fun vs H1 s1 h1 => ⟨by rw [h1.length]; exact Nat.le_of_lt (small1000 hl), fun t nt => z.2 _ _ (s1.trans (same_new nt)) (.lst (fun c => ht σ H z.1 t c (s1.free nt)) upd_same (by rw [h1.length]; exact hl) (h1.keep (.of_same (same_new nt))))⟩⟩
/-- t != () -/
theorem op_neT0 (hu : X.A.units + 64 < cLine) : OpR X (compareOp .NotEq) (fun x y H Q => ∃ a b xs, x = .ref a ∧ y = .ref b ∧ SqT X.K H a xs ∧ SqT X.K H b [] ∧ Q (.bl (!xs.isEmpty)) H) := by
  intro pins s σ H x y v u Q I rx ry h
  obtain ⟨a, b, xs, rfl, rfl, ha, hb, q⟩ := h
  cases rx
  cases ry
  obtain ⟨its, r1, p1, _⟩ := I.tuple ha
  obtain ⟨its2, r2, p2, _⟩ := I.tuple hb
  cases r2
  have R := SeqAt.RcNeAt.tuples (A := X.A) (s := s) (l := a) (b := b) (items := its.toArray) (items2 := ([] : List Value).toArray) (e := fun _ => true) p1 p2 (by omega) (fun j h1 h2 => absurd h2 (by simp))
  have e : (!((List.range (min its.toArray.size ([] : List Value).toArray.size)).all (fun _ => true) && its.toArray.size == ([] : List Value).toArray.size)) = !xs.isEmpty := by
    cases r1 with
    | nil => rfl
    | cons _ _ => simp
  rw [e] at R
  exact R X.prog X.w _ _ ⟨.bl (!xs.isEmpty), H, I, rfl, q⟩
end
end Kd

set_option Elab.async false
set_option linter.all false
set_option maxRecDepth 100000
set_option maxHeartbeats 8000000
namespace Kc
open PySem PySem.Spec PyProof.Rows L2 Kg Kd Kr Kf Kx
abbrev sBent : Stmt := topS 27
abbrev nBent : List Str := ["_law_deck_here", "_law_four_here", "_law_at", "_law_odd_here", "_law_k", "_law_some_here", "_law_bent_here", "_law_size"]
theorem scBent : FnScope nBent ["_law_deck_here", "_law_four_here"] (defScope sBent) := ⟨rfl, rfl, rfl, by decide +kernel, rfl, by decide +kernel, by decide +kernel⟩
/-! ### the odd values are small -/
def smlB (d : PyData) : Bool := decide (d.depth ≤ 4) && (d.showable && decide (d.shown.length ≤ 200))
def prtB (d : PyData) : Bool := smlB d && (match d with | .tuple ds => decide (ds.length ≤ 6) && ds.all smlB | _ => true)
theorem smlB_ok {d : PyData} (h : smlB d = true) : Sml d := by
  unfold smlB at h
  rw [Bool.and_eq_true, Bool.and_eq_true] at h
  exact ⟨of_decide_eq_true h.1, h.2.1, of_decide_eq_true h.2.2⟩
theorem prtB_ok {d : PyData} (h : prtB d = true) : Sml d ∧ Prt d := by
  unfold prtB at h
  rw [Bool.and_eq_true] at h
  have s := smlB_ok h.1
  refine ⟨s, s.mono (by decide) (by decide), fun ds e => ?_⟩
  subst e
  have h2 := h.2
  simp only [Bool.and_eq_true] at h2
  exact ⟨of_decide_eq_true h2.1, fun x hx => smlB_ok (List.all_eq_true.mp h2.2 x hx)⟩
theorem odd_ok : oddA.all prtB = true := by decide +kernel
theorem odd_prt {d : PyData} (h : d ∈ oddA) : Sml d ∧ Prt d := prtB_ok (List.all_eq_true.mp odd_ok d h)
/-- the deck and the list of the four -/
def dl (d la L : Addr) : Addr → Prop := fun a => dk d la a ∨ a = L
structure Fd (H : Hp) (d la lb L : Addr) (ds : List PyData) : Prop where
  ex : ∃ xs, H L = some (.lst xs) ∧ DaAll (dl d la L) H xs ds
  len : ds.length = 4
  prt : ∀ x ∈ ds, Prt x
  n1 : d ≠ L
  n2 : la ≠ L
  n3 : lb ≠ L
def spBent : Sp := fun vs H Q _ => ∃ (d la lb L : Addr) (b : Nat) (ds : List PyData), vs = [.ref d, .ref L] ∧ DeckAt H d la lb (b + 5) ∧ Fd H d la lb L ds ∧ ∀ H' L' ds', Go H d la lb b H' → Fd H' d la lb L' ds' → Q (.ref L') H'
theorem pe_ex {X : Cx} {e : Expr} {ι : Type} {t : ι → TE} (h : ∀ i, PE X e (t i)) : PE X e (fun σ H Q => ∃ i, t i σ H Q) := ⟨fun pins s σ H Q I ⟨i, z⟩ => (h i).run pins s σ H Q I z⟩
structure P1 where
  av : Addr → Prop
  vo : V
  o : PyData
  k : Int
  vs : V
  s : PyData
def pre1 (p : P1) : L2.St → Hp → Prop := fun σ H => σ[3]? = some (some p.vo) ∧ Da p.av H p.vo p.o ∧ σ[4]? = some (some (.int p.k)) ∧ σ[5]? = some (some p.vs) ∧ Da p.av H p.vs p.s ∧ ∀ a, p.av a → H a ≠ none
theorem stays1 (p : P1) : Stays (pre1 p) := fun σ H H' s ⟨h1, h2, h3, h4, h5, h6⟩ => ⟨h1, h2.same s, h3, h4, h5.same s, fun a z => trk_mono s a (h6 a z)⟩
theorem tr1 (p : P1) : ∀ σ H, pre1 p σ H → ∀ a, p.av a → H a ≠ none := fun _ _ h => h.2.2.2.2.2
def ds1 (p : P1) : List PyData := [p.o, .list [], .tuple [.int p.k], .tuple [.int 0, .int 0], .tuple [.int 1, .int 0], .tuple [.bool true], .tuple [.int 0, .int 1], .tuple [.int 0], .tuple [.int (p.k - 1), .int p.k], p.s]
structure P2 where
  av : Addr → Prop
  vo : V
  o : PyData
  z : Nat
  L : Addr
  v0 : V
  vr : List V
  d0 : PyData
def pre2 (p : P2) : L2.St → Hp → Prop := fun σ H => σ[3]? = some (some p.vo) ∧ Da p.av H p.vo p.o ∧ σ[7]? = some (some (.int (p.z : Nat))) ∧ p.z ≤ 6 ∧ σ[1]? = some (some (.ref p.L)) ∧ H p.L = some (.lst (p.v0 :: p.vr)) ∧ Da p.av H p.v0 p.d0 ∧ ∀ a, p.av a → H a ≠ none
theorem stays2 (p : P2) : Stays (pre2 p) := fun σ H H' s ⟨h1, h2, h3, h4, h5, h6, h7, h8⟩ => ⟨h1, h2.same s, h3, h4, h5, s _ _ h6, h7.same s, fun a z => trk_mono s a (h8 a z)⟩
theorem tr2 (p : P2) : ∀ σ H, pre2 p σ H → ∀ a, p.av a → H a ≠ none := fun _ _ h => h.2.2.2.2.2.2.2
def rgD (n : Nat) : List PyData := (List.range n).map fun i => PyData.int ((i : Nat) : Int)
def ds2 (p : P2) : List PyData := [p.o, .tuple [.int (p.z : Nat)], .tuple [.int 0, .int ((p.z : Nat) - 1)], .tuple [.int ((p.z : Nat) - 1), .int 0], .list (rgD p.z), .bool false, .bool true, .int 0, .int 1, p.d0, .tuple [.bool true]]
theorem da_rg {av : Addr → Prop} {H : Hp} : ∀ (l : List Nat), DaAll av H (l.map fun i => V.int (0 + ((i : Nat) : Int))) (l.map fun i => PyData.int ((i : Nat) : Int))
  | [] => .nil
  | i :: l => .cons (by show Da av H (V.int (0 + ((i : Nat) : Int))) (PyData.int ((i : Nat) : Int)); rw [Int.zero_add]; exact .int _) (da_rg l)
theorem mem_take_append {α : Type} {l m : List α} {b x : α} {i j : Nat} (h : x ∈ l.take i ++ [b] ++ m.drop j) : x ∈ l ∨ x = b ∨ x ∈ m := by
  rcases List.mem_append.mp h with h | h
  · rcases List.mem_append.mp h with h | h
    · exact .inl (List.mem_of_mem_take h)
    · exact .inr (.inl (List.mem_singleton.mp h))
  · exact .inr (.inr (List.mem_of_mem_drop h))
theorem prt1 {p : P1} (ho : Sml p.o) (hs : Sml p.s) (k0 : 0 ≤ p.k) (k1 : p.k ≤ 6) : ∀ x ∈ ds1 p, Sml x := by
  intro x hx
  have hk := bd_int (i := p.k) (by omega) k1
  have hk' := bd_int (i := p.k - 1) (by omega) (by omega)
  unfold ds1 at hx
  simp only [List.mem_cons, List.not_mem_nil, or_false] at hx
  rcases hx with h | h | h | h | h | h | h | h | h | h <;> subst h
  · exact ho
  · exact smlB_ok (by decide +kernel)
  · exact sml_tup (fun y hy => by rw [List.mem_singleton.mp hy]; exact hk) (by simp)
  · exact smlB_ok (by decide +kernel)
  · exact smlB_ok (by decide +kernel)
  · exact smlB_ok (by decide +kernel)
  · exact smlB_ok (by decide +kernel)
  · exact smlB_ok (by decide +kernel)
  · exact sml_tup (fun y hy => by
      rcases List.mem_cons.mp hy with h | h
      · rw [h]; exact hk'
      · rw [List.mem_singleton.mp h]; exact hk) (by simp)
  · exact hs
theorem prt2 {p : P2} (ho : Prt p.o) (h0 : Prt p.d0) (hz : p.z ≤ 6) : ∀ x ∈ ds2 p, Prt x := by
  intro x hx
  have hk := bd_int (i := (p.z : Nat)) (by omega) (by omega)
  have hk' := bd_int (i := (p.z : Nat) - 1) (by omega) (by omega)
  have h0' : Bd (.int 0) 2 0 := bd_int (by decide) (by decide)
  have up : ∀ {y : PyData}, Bd y 2 0 → Sml y := fun h => h.mono (by decide) (by decide)
  unfold ds2 at hx
  simp only [List.mem_cons, List.not_mem_nil, or_false] at hx
  rcases hx with h | h | h | h | h | h | h | h | h | h | h <;> subst h
  · exact ho
  · exact prt_tup (fun y hy => by rw [List.mem_singleton.mp hy]; exact up hk) (by simp)
  · exact prt_tup (fun y hy => by
      rcases List.mem_cons.mp hy with h | h
      · rw [h]; exact up h0'
      · rw [List.mem_singleton.mp h]; exact up hk') (by simp)
  · exact prt_tup (fun y hy => by
      rcases List.mem_cons.mp hy with h | h
      · rw [h]; exact up hk'
      · rw [List.mem_singleton.mp h]; exact up h0') (by simp)
  · refine prt_of ((bd_lst (n := 2) (D := 0) (k := 6) (fun y hy => ?_) (by unfold rgD; rw [List.length_map, List.length_range]; exact hz)).mono (by decide) (by decide)) rfl
    unfold rgD at hy
    obtain ⟨i, hi, rfl⟩ := List.mem_map.mp hy
    have := List.mem_range.mp hi
    exact bd_int (by omega) (by omega)
  · exact (prtB_ok (by decide +kernel)).2
  · exact (prtB_ok (by decide +kernel)).2
  · exact (prtB_ok (by decide +kernel)).2
  · exact (prtB_ok (by decide +kernel)).2
  · exact h0
  · exact (prtB_ok (by decide +kernel)).2
theorem keep_up {p q : Addr → Prop} {H H' : Hp} (k : Keep p H H') (h : ∀ a, p a → q a) : Keep q H H' := fun c o z n => k c o z fun y => n (h c y)
theorem dl_trk {H : Hp} {d la lb L : Addr} {n : Nat} {xs : List V} (D : DeckAt H d la lb n) (hL : H L = some (.lst xs)) : ∀ a, dl d la L a → H a ≠ none := by
  obtain ⟨t1, t2, _⟩ := D.tracked
  rintro a ((z | z) | z)
  · rw [z]; exact t1
  · rw [z]; exact t2
  · rw [z, hL]; simp
theorem pt_imp {X : Cx} {e : Expr} {t t' : TT} (h : PT X e t) (i : ∀ σ H Q, t' σ H Q → t σ H Q) : PT X e t' := ⟨fun pins s σ H Q I z => h.run pins s σ H Q I (i σ H Q z)⟩
structure Pc where
  d : Addr
  la : Addr
  lb : Addr
  L : Addr
  b : Nat
  t : Int
  v0 : V
  vr : List V
  d0 : PyData
  dr : List PyData
  vo : V
  o : PyData
/-- the list of the four, the odd value, and n more draws -/
structure Sit (p : Pc) (n : Nat) (H : Hp) : Prop where
  dk : DeckAt H p.d p.la p.lb n
  at_ : H p.L = some (.lst (p.v0 :: p.vr))
  a0 : Da (dl p.d p.la p.L) H p.v0 p.d0
  ar : DaAll (dl p.d p.la p.L) H p.vr p.dr
  ao : Da (dl p.d p.la p.L) H p.vo p.o
  n1 : p.d ≠ p.L
  n2 : p.la ≠ p.L
theorem Sit.go {p : Pc} {n m : Nat} {H H' : Hp} (S : Sit p n H) (g : Go H p.d p.la p.lb m H') : Sit p m H' := by
  have k : Keep (dl p.d p.la p.L) H H' := keep_up g.kp fun a z => .inl z
  exact ⟨g.now, g.at_ S.at_ S.n1 S.n2, S.a0.keep k, S.ar.keep k, S.ao.keep k, S.n1, S.n2⟩
theorem Sit.trk {p : Pc} {n : Nat} {H : Hp} (S : Sit p n H) : ∀ a, dl p.d p.la p.L a → H a ≠ none := dl_trk S.dk S.at_
def slC (p : Pc) (σ : L2.St) : Prop := σ[0]? = some (some (.ref p.d)) ∧ σ[1]? = some (some (.ref p.L)) ∧ σ[2]? = some (some (.int p.t))
def tCond : TT := fun σ H Q => ∃ p : Pc, slC p σ ∧ Sit p (p.b + 3) H ∧ (∀ H', Go H p.d p.la p.lb (p.b + 2) H' → Q false H') ∧ (∀ H' a xs es, p.t = 0 → p.v0 = .ref a → p.d0 = .tuple es → H' a = some (.tup xs) → xs ≠ [] → DaAll (dl p.d p.la p.L) H' xs es → Go H p.d p.la p.lb (p.b + 2) H' → Q true H')
def tSpl : TE := fun σ H Q => ∃ (L a : Addr) (vr xs : List V) (k : Nat) (bv : V), σ[1]? = some (some (.ref L)) ∧ σ[4]? = some (some (.int (k : Nat))) ∧ σ[6]? = some (some bv) ∧ H L = some (.lst (.ref a :: vr)) ∧ H a = some (.tup xs) ∧ k < xs.length ∧ xs.length ≤ 6 ∧
  ∀ H' z, Same H H' → H z = none → H' z = some (.tup (xs.take k ++ [bv] ++ xs.drop (k + 1))) → Q (.ref z) H'
def tSiz : TE := fun σ H Q => ∃ (L : Addr) (v0 : V) (vr : List V) (d0 : PyData) (av : Addr → Prop), σ[1]? = some (some (.ref L)) ∧ H L = some (.lst (v0 :: vr)) ∧ Da av H v0 d0 ∧ Prt d0 ∧ ∀ z : Nat, z ≤ 6 → Q (.int (z : Nat)) H
theorem tup_of {d : PyData} (h : isTup d = true) : ∃ es, d = .tuple es := by
  cases d with
  | tuple es => exact ⟨es, rfl⟩
  | _ => exact nomatch h
theorem da_tup {av : Addr → Prop} {H : Hp} {v : V} {es : List PyData} (h : Da av H v (.tuple es)) : ∃ a xs, v = .ref a ∧ ¬ av a ∧ H a = some (.tup xs) ∧ xs.length ≤ 1000 ∧ DaAll av H xs es := by
  cases h with
  | @tup a xs _ n h1 h2 h3 => exact ⟨a, xs, rfl, n, h1, h2, h3⟩
theorem da_lst {av : Addr → Prop} {H : Hp} {v : V} {es : List PyData} (h : Da av H v (.list es)) : ∃ a xs, v = .ref a ∧ ¬ av a ∧ H a = some (.lst xs) ∧ xs.length ≤ 1000 ∧ DaAll av H xs es := by
  cases h with
  | @lst a xs _ n h1 h2 h3 => exact ⟨a, xs, rfl, n, h1, h2, h3⟩
theorem cut_take {xs : List V} {k : Nat} (h : k < xs.length) : cutV xs none (some (k : Nat)) = xs.take k ∧ ¬ (HT.sIx xs.length 0 none = 0 ∧ HT.sIx xs.length xs.length (some ((k : Nat) : Int)) = xs.length) := by
  unfold cutV
  rw [HT.sIx_none, HT.sIx_nat, Nat.min_eq_left (Nat.le_of_lt h), List.drop_zero, Nat.sub_zero]
  exact ⟨rfl, fun z => by omega⟩
theorem cut_drop {xs : List V} {k : Nat} (h : k < xs.length) : cutV xs (some ((k : Nat) + 1)) none = xs.drop (k + 1) ∧ ¬ (HT.sIx xs.length 0 (some (((k : Nat) : Int) + 1)) = 0 ∧ HT.sIx xs.length xs.length none = xs.length) := by
  have e : ((k : Nat) : Int) + 1 = ((k + 1 : Nat) : Int) := by omega
  unfold cutV
  rw [e, HT.sIx_none, HT.sIx_nat, Nat.min_eq_left h]
  refine ⟨?_, fun z => by omega⟩
  rw [List.take_of_length_le (by rw [List.length_drop]; omega)]
section
variable {P : Program} {w : World} {K : PySem.W.Frag} {mg : Str → Option Value} {base : Heap} {f : Addr} {fd : FuncData} {k : Nat}
theorem ok_bent {fN fO : Addr} {dN dO : FuncData} (F : Fun K "_law_bent" "_law_bent" sBent f fd) (B : Bl mg) (GN : FnOk P w K mg base CX0 1 fN dN ["_law_deck_here", "_law_many"] spNext) (kN : PySem.W.keepIn K (.ref fN) = true) (bN : Binds K dN ["_law_deck_here", "_law_many"] []) (gN : mg "_law_next" = some (.ref fN))
    (GO : FnOk P w K mg base CX0 2 fO dO ["_law_deck_here"] spOdd) (kO : PySem.W.keepIn K (.ref fO) = true) (bO : Binds K dO ["_law_deck_here"] []) (gO : mg "_law_odd" = some (.ref fO)) : FnOk P w K mg base CX0 3 f fd ["_law_deck_here", "_law_four_here"] spBent := by
  refine F.ok scBent (fun vs H Q E h => ?_) (fun cdv A outer s H vs Q E hr h => ?_)
  · obtain ⟨d, la, lb, L, b, ds, rfl, _⟩ := h
    rfl
  · obtain ⟨d, la, lb, L, b, ds, rfl, D, FD, q⟩ := h
    have hr1 := hr.mono (show 1 ≤ 2 by decide)
    refine ⟨_, pss_cons (ps_par3 (i := 2) (j := 3) (l := 1) (by rfl) scBent.nd rfl rfl rfl (by decide) (by decide) (by decide) rfl rfl rfl (pa_cons (pe_call GN hr1 (by rfl) gN kN bN .nil pass0 (pa_cons (pv 0) (pa_cons pe_int pa_nil))) (pa_cons (pe_call GO hr (by rfl) gO kO bO .nil pass0 (pa_cons (pv 0) pa_nil)) (pa_cons (pe_callTy call_list_of (by rfl) B.list PyProof.Rows.boot_list (pa_cons (pv 1) pa_nil)) pa_nil))) (by rfl))
      (pss_cons (ps_if (pt_imp (t' := tCond) (PW.pt (pw_and (pt_cmpR op_eq (pv 2) pe_int (nomark _)) (pw_and (pt_val (pe_callB call_isi (by rfl) B.isi boot_isinstance (pa_cons (pe_ix ix_list (pv 1) pe_int (fun _ _ => rfl)) (pa_cons (pe_bltn (v := .ty "tuple") (by rfl) B.tuple PyProof.Rows.boot_tuple rfl) pa_nil))))
            (pw_and (pt_cmpR (op_neT0 hr.units) (pe_ix ix_list (pv 1) pe_int (fun _ _ => rfl)) (pe_tup pa_nil) (nomark _)) (pw_and1 (pt_cmpR op_gt (pe_call GN hr1 (by rfl) gN kN bN .nil pass0 (pa_cons (pv 0) (pa_cons pe_int pa_nil))) pe_int (nomark _))))))) (fun σ H Q h => by
            obtain ⟨p, ⟨s0, s1, s2⟩, S, qF, qT⟩ := h
            refine ⟨_, s2, rfl, _, rfl, ?_⟩
            by_cases c0 : p.t = 0
            · refine iteD (decide_eq_true (by rw [c0])) ?_
              refine ⟨_, s1, p.L, _, 0, p.v0, rfl, rfl, SqL.of S.at_, atI_nat (j := 0) rfl, _, _, _, _, isTup p.d0, rfl, .ty _, S.a0.ty, kit_ty (kt_tup p.d0), _, rfl, ?_⟩
              by_cases hb : isTup p.d0 = true
              · refine iteD hb ?_
                obtain ⟨es, ed⟩ := tup_of hb
                have a0 := S.a0
                rw [ed] at a0
                obtain ⟨a, xs, hv, na, ha, hal, hA⟩ := da_tup a0
                refine ⟨_, s1, p.L, _, 0, p.v0, rfl, rfl, SqL.of S.at_, atI_nat (j := 0) rfl, (show 0 ≤ sizeLine by decide), fun em nem => ?_⟩
                have sE := same_new (o := HO.tup []) nem
                refine ⟨a, em, xs, hv, rfl, SqT.of (sE _ _ ha), SqT.of upd_same, _, rfl, ?_⟩
                have g3 := (Go.refl S.dk).same sE
                have S2 := S.go g3
                by_cases he : xs = []
                · refine iteE (by rw [he]; rfl) (qF _ (g3.less (by omega)))
                · refine iteD (by cases xs with | nil => exact absurd rfl he | cons _ _ => rfl) ?_
                  refine ⟨_, s0, p.d, p.la, p.lb, 4, p.b + 2, rfl, by decide, by decide, S2.dk, fun r H4 _ _ D4 k4 => ⟨r, 0, rfl, rfl, _, rfl, ?_⟩⟩
                  have g4 := g3.draw D4 k4
                  have kk : Keep (dl p.d p.la p.L) H H4 := keep_up g4.kp fun a z => .inl z
                  by_cases c2 : 0 < r
                  · rw [decide_eq_true c2]
                    exact qT H4 a xs es c0 hv ed (kk _ _ ha na) he (hA.keep kk) g4
                  · rw [decide_eq_false c2]
                    exact qF H4 g4
              · rw [Bool.not_eq_true] at hb
                exact iteE hb (qF H ((Go.refl S.dk).less (by omega)))
            · exact iteE (decide_eq_false (fun z => c0 (V.int.inj z))) (qF H ((Go.refl S.dk).less (by omega)))))
          (pss_cons (ps_set (i := 4) scBent.nd rfl (.inl rfl) (pe_call GN hr1 (by rfl) gN kN bN .nil pass0 (pa_cons (pv 0) (pa_cons (pe_callB call_len_seq (by rfl) B.len PySem.boot_len (pa_cons (pe_ix ix_list (pv 1) pe_int (fun _ _ => rfl)) pa_nil)) pa_nil))))
          (pss_cons (ps_set (i := 5) scBent.nd rfl (.inl rfl) (pe_ix ix_tup (pe_ix ix_list (pv 1) pe_int (fun _ _ => rfl)) (pv 4) (fun _ _ => rfl)))
          (pss_cons (ps_set (i := 6) scBent.nd rfl (.inl rfl) (pe_ix ix_list (pe_ex (ι := P1) (t := fun p => tDatA (pre1 p) p.av (.list (ds1 p))) fun p => pda_lst (hl := (by show 10 ≤ 1000; decide)) (tr1 p) (pdas_cons (stays1 p) (pda_of (pv 3) fun σ H Q h z => ⟨_, h.1, z _ H (Same.refl H) h.2.1⟩)
              (pdas_cons (stays1 p) (pda_con (tr1 p) (pd_lst pds_nil)) (pdas_cons (stays1 p) (pda_tup (tr1 p) (pdas_cons (stays1 p) (pda_of (pv 4) fun σ H Q h z => ⟨_, h.2.2.1, z _ H (Same.refl H) (.int _)⟩) pdas_nil))
              (pdas_cons (stays1 p) (pda_con (tr1 p) (pd_tup (pds_cons pd_int (pds_cons pd_int pds_nil)))) (pdas_cons (stays1 p) (pda_con (tr1 p) (pd_tup (pds_cons pd_int (pds_cons pd_int pds_nil)))) (pdas_cons (stays1 p) (pda_con (tr1 p) (pd_tup (pds_cons pd_bl pds_nil)))
              (pdas_cons (stays1 p) (pda_con (tr1 p) (pd_tup (pds_cons pd_int (pds_cons pd_int pds_nil)))) (pdas_cons (stays1 p) (pda_con (tr1 p) (pd_tup (pds_cons pd_int pds_nil)))
              (pdas_cons (stays1 p) (pda_tup (tr1 p) (pdas_cons (stays1 p) (pda_of (pe_op op_sub (pv 4) pe_int) fun σ H Q h z => ⟨_, h.2.2.1, _, _, rfl, rfl, z _ H (Same.refl H) (.int _)⟩) (pdas_cons (stays1 p) (pda_of (pv 4) fun σ H Q h z => ⟨_, h.2.2.1, z _ H (Same.refl H) (.int _)⟩) pdas_nil)))
              (pdas_cons (stays1 p) (pda_of (pv 5) fun σ H Q h z => ⟨_, h.2.2.2.1, z _ H (Same.refl H) h.2.2.2.2.1⟩) pdas_nil)))))))))))
            (pe_call GN hr1 (by rfl) gN kN bN .nil pass0 (pa_cons (pv 0) (pa_cons pe_int pa_nil))) (fun _ _ => rfl)))
          (pss_cons (ps_asg (pe_imp (t' := tSpl) (pe_op op_catA (pe_op op_catA (pe_slice sl_tupA (pe_ix ix_list (pv 1) pe_int (fun _ _ => rfl)) po_none (po_some (pv 4))) (pe_tup (pa_cons (pv 6) pa_nil))) (pe_slice sl_tupA (pe_ix ix_list (pv 1) pe_int (fun _ _ => rfl)) (po_some (pe_op op_add (pv 4) pe_int)) po_none)) (fun σ H Q h => by
            obtain ⟨L, a, vr, xs, k, bv, s1, s4, s6, hL, ha, hk, h6, q⟩ := h
            obtain ⟨c1, c2⟩ := cut_take hk
            obtain ⟨c3, c4⟩ := cut_drop hk
            have tl : (xs.take k).length = k := by rw [List.length_take]; omega
            have dl' : (xs.drop (k + 1)).length = xs.length - (k + 1) := List.length_drop
            refine ⟨_, s1, L, _, 0, .ref a, rfl, rfl, SqL.of hL, atI_nat (j := 0) rfl, _, s4, _, rfl, a, xs, rfl, SqT.of ha, fun z => absurd z c2, fun _ p1 np1 => ?_⟩
            rw [c1]
            have t1 := same_new (o := HO.tup (xs.take k)) np1
            refine ⟨_, s6, (show 1 ≤ sizeLine by decide), fun p2 np2 => ?_⟩
            have t2 := same_new (o := HO.tup [bv]) np2
            have h1 := t2 _ _ (upd_same (H := H) (a := p1) (o := HO.tup (xs.take k)))
            have h2 := upd_same (H := upd H p1 (HO.tup (xs.take k))) (a := p2) (o := HO.tup [bv])
            have t12 := t1.trans t2
            have n2 : H p2 = none := t1.free np2
            clear t2
            generalize upd (upd H p1 (HO.tup (xs.take k))) p2 (HO.tup [bv]) = H2 at h1 h2 t12 ⊢
            have second : ∀ (H3 : Hp) (y : Addr), Same H H3 → H y = none → H3 y = some (.tup (xs.take k ++ [bv])) → tSl (rSlA K) (tOp (rIxL K) (tVar 1) (tC (V.int 0))) (tPart (tOp (rI0 fun i j => V.int (i + j)) (tVar 4) (tC (V.int 1)))) tNoPart σ H3 fun x H4 => rCatA K (.ref y) x H4 Q := by
              intro H3 y s3 ny hy
              refine ⟨_, s1, L, _, 0, .ref a, rfl, rfl, SqL.of (s3 _ _ hL), atI_nat (j := 0) rfl, _, s4, _, _, rfl, rfl, _, rfl, a, xs, rfl, SqT.of (s3 _ _ ha), fun z => absurd z c4, fun _ p4 np4 => ?_⟩
              rw [c3]
              have t4 := same_new (o := HO.tup (xs.drop (k + 1))) np4
              refine ⟨y, p4, _, _, rfl, rfl, SqT.of (t4 _ _ hy), SqT.of upd_same, Nat.le_of_lt (small1000 (by rw [List.length_append, tl, dl', List.length_singleton]; omega)), fun z => absurd z (by simp), fun _ z => ?_, fun _ _ p5 np5 => ?_⟩
              · refine q _ y (s3.trans t4) ny ?_
                have e : xs.take k ++ [bv] ++ xs.drop (k + 1) = xs.take k ++ [bv] := by rw [z, List.append_nil]
                rw [e]; exact t4 _ _ hy
              · have t5 := same_new (o := HO.tup (xs.take k ++ [bv] ++ xs.drop (k + 1))) np5
                exact q _ p5 (s3.trans (t4.trans t5)) ((s3.trans t4).free np5) upd_same
            refine ⟨p1, p2, _, _, rfl, rfl, SqT.of h1, SqT.of h2, Nat.le_of_lt (small1000 (by rw [tl, List.length_singleton]; omega)), fun z => ?_, fun _ z => (nomatch z), fun _ _ p3 np3 => ?_⟩
            · exact second H2 p2 t12 n2 (by rw [z, List.nil_append]; exact h2)
            · have t3 := same_new (o := HO.tup (xs.take k ++ [bv])) np3
              exact second _ p3 (t12.trans t3) (t12.free np3) upd_same)) (pg_sub (pv 1) pe_int set_list))
          (pss_one (ps_ret (pv 1))))))) pss_nil)
      (pss_cons (ps_set (i := 7) scBent.nd rfl (.inl rfl) (pe_imp (t' := tSiz) (pe_ifExp (pt_val (pe_callB call_isi (by rfl) B.isi boot_isinstance (pa_cons (pe_ix ix_list (pv 1) pe_int (fun _ _ => rfl)) (pa_cons (pe_bltn (v := .ty "tuple") (by rfl) B.tuple PyProof.Rows.boot_tuple rfl) pa_nil)))) (pe_callB call_len_seq (by rfl) B.len PySem.boot_len (pa_cons (pe_ix ix_list (pv 1) pe_int (fun _ _ => rfl)) pa_nil)) pe_int) (fun σ H Q h => by
            obtain ⟨L, v0, vr, d0, av, s1, hL, h0, pr, q⟩ := h
            refine ⟨_, s1, L, _, 0, v0, rfl, rfl, SqL.of hL, atI_nat (j := 0) rfl, _, _, _, _, isTup d0, rfl, .ty _, h0.ty, kit_ty (kt_tup d0), _, rfl, ?_⟩
            by_cases hb : isTup d0 = true
            · refine iteD hb ?_
              obtain ⟨es, rfl⟩ := tup_of hb
              obtain ⟨a, xs, rfl, na, ha, hal, hA⟩ := da_tup h0
              refine ⟨_, s1, L, _, 0, .ref a, rfl, rfl, SqL.of hL, atI_nat (j := 0) rfl, a, xs, rfl, .inr (SqT.of ha), ?_⟩
              exact q xs.length (by rw [hA.length]; exact (pr.its es rfl).1)
            · rw [Bool.not_eq_true] at hb
              exact iteE hb (q 1 (by decide)))))
      (pss_cons (ps_set (i := 5) scBent.nd rfl (.inl rfl) (pe_ex (ι := P2) (t := fun p => tDatA (pre2 p) p.av (.list (ds2 p))) fun p => pda_lst (hl := (by show 11 ≤ 1000; decide)) (tr2 p) (pdas_cons (stays2 p) (pda_of (pv 3) fun σ H Q h z => ⟨_, h.1, z _ H (Same.refl H) h.2.1⟩)
              (pdas_cons (stays2 p) (pda_tup (tr2 p) (pdas_cons (stays2 p) (pda_of (pv 7) fun σ H Q h z => ⟨_, h.2.2.1, z _ H (Same.refl H) (.int _)⟩) pdas_nil))
              (pdas_cons (stays2 p) (pda_tup (tr2 p) (pdas_cons (stays2 p) (pda_con (tr2 p) pd_int) (pdas_cons (stays2 p) (pda_of (pe_op op_sub (pv 7) pe_int) fun σ H Q h z => ⟨_, h.2.2.1, _, _, rfl, rfl, z _ H (Same.refl H) (.int _)⟩) pdas_nil)))
              (pdas_cons (stays2 p) (pda_tup (tr2 p) (pdas_cons (stays2 p) (pda_of (pe_op op_sub (pv 7) pe_int) fun σ H Q h z => ⟨_, h.2.2.1, _, _, rfl, rfl, z _ H (Same.refl H) (.int _)⟩) (pdas_cons (stays2 p) (pda_con (tr2 p) pd_int) pdas_nil)))
              (pdas_cons (stays2 p) (pda_of (pe_listRg rfl (by rfl) B.list (prg_1 (by rfl) B.range (pv 7))) fun σ H Q h z => ⟨_, h.2.2.1, _, rfl, RgOk.of_le (by decide) (by have := h.2.2.2.1; omega) (by decide) (by omega), fun l nl => z _ _ (same_new nl) (.lst (fun c => h.2.2.2.2.2.2.2 l c nl) upd_same (by rw [rgV_length]; have := h.2.2.2.1; omega) (by
                  have e : ((p.z : Nat) : Int) - 0 = (p.z : Nat) := by omega
                  unfold rgV rgD
                  rw [e, Int.toNat_natCast]
                  exact da_rg _))⟩)
              (pdas_cons (stays2 p) (pda_con (tr2 p) pd_bl) (pdas_cons (stays2 p) (pda_con (tr2 p) pd_bl) (pdas_cons (stays2 p) (pda_con (tr2 p) pd_int) (pdas_cons (stays2 p) (pda_con (tr2 p) pd_int)
              (pdas_cons (stays2 p) (pda_of (pe_ix ix_list (pv 1) pe_int (fun _ _ => rfl)) fun σ H Q h z => ⟨_, h.2.2.2.2.1, p.L, _, 0, p.v0, rfl, rfl, SqL.of h.2.2.2.2.2.1, atI_nat (j := 0) rfl, z _ H (Same.refl H) h.2.2.2.2.2.2.1⟩)
              (pdas_cons (stays2 p) (pda_con (tr2 p) (pd_tup (pds_cons pd_bl pds_nil))) pdas_nil)))))))))))))
      (pss_cons (ps_asg (pe_ix ix_list (pv 5) (pe_call GN hr1 (by rfl) gN kN bN .nil pass0 (pa_cons (pv 0) (pa_cons pe_int pa_nil))) (fun _ _ => rfl)) (pg_sub (pv 1) (pv 2) set_list))
      (pss_one (ps_ret (pv 1))))))), ?_⟩
    obtain ⟨⟨xs, hL, hA⟩, len, prt, n1, n2, n3⟩ := FD
    -- the place, the odd value, the list anew
    refine ⟨_, rfl, d, la, lb, 4, b + 4, rfl, by decide, by decide, D, fun t H1 t0 t1 D1 k1 => ?_⟩
    refine ⟨_, rfl, d, la, lb, b + 3, rfl, D1, fun vo o H2 D2 k2 hvo hodd => ?_⟩
    have g2 := ((Go.refl D).draw D1 k1).draw D2 k2
    have kk2 : Keep (dl d la L) H H2 := keep_up g2.kp fun a z => .inl z
    have hL2 := g2.at_ hL n1 n2
    refine ⟨_, rfl, L, xs, rfl, .inl (SqL.of hL2), fun L' nL' => ⟨_, _, _, rfl, ?_⟩⟩
    have s3 := same_new (o := HO.lst xs) nL'
    have g3 := g2.same s3
    have nL0 : H L' = none := g2.free nL'
    obtain ⟨o1, o2, o3⟩ := g2.off nL0
    have tr1 := D1.tracked
    have hvo2 : Da (dk d la) H2 vo o := hvo.sub fun a z => by
      rcases z with z | z
      · rw [z]; exact tr1.1
      · rw [z]; exact tr1.2.1
    have hvo3 : Da (dl d la L') (upd H2 L' (.lst xs)) vo o := (hvo2.more (bv := fun a => a = L') fun a z => by rw [z]; exact nL').same s3
    have hA3 : DaAll (dl d la L') (upd H2 L' (.lst xs)) xs ds := (((hA.keep kk2).sub fun a z => Or.inl z).more (av := dk d la) (bv := fun a => a = L') fun a z => by rw [z]; exact nL').keep (.of_same s3)
    have hL3 : (upd H2 L' (HO.lst xs)) L' = some (.lst xs) := upd_same
    generalize upd H2 L' (HO.lst xs) = H3 at g3 hvo3 hA3 hL3 ⊢
    clear hvo hvo2 hA kk2 hL2 s3 g2 tr1
    obtain ⟨v0, vr, d0, dr, rfl, rfl⟩ : ∃ v0 vr d0 dr, xs = v0 :: vr ∧ ds = d0 :: dr := by
      cases hA3 with
      | nil => exact nomatch len
      | cons _ _ => exact ⟨_, _, _, _, rfl, rfl⟩
    have h03 : Da (dl d la L') H3 v0 d0 := by cases hA3 with | cons a _ => exact a
    have hr3 : DaAll (dl d la L') H3 vr dr := by cases hA3 with | cons _ a => exact a
    have S3 : Sit ⟨d, la, lb, L', b, t, v0, vr, d0, dr, vo, o⟩ (b + 3) H3 := ⟨g3.now, hL3, h03, hr3, hvo3, o1, o2⟩
    have drl : dr.length = 3 := by have := len; rw [List.length_cons] at this; omega
    have vrl : vr.length = 3 := by rw [hr3.length]; exact drl
    have p0 := prt d0 (List.mem_cons_self ..)
    obtain ⟨so, po⟩ := odd_prt hodd
    refine ⟨⟨d, la, lb, L', b, t, v0, vr, d0, dr, vo, o⟩, ⟨rfl, rfl, rfl⟩, S3, fun H4 g4 => iteF ?_, fun H4 a xs4 es4 c0 hv ed ha hne hA4 g4 => iteT ?_⟩
    · -- one of the four exchanged
      have S4 := S3.go g4
      refine ⟨L', v0, vr, d0, _, rfl, S4.at_, S4.a0, p0, fun z hz => ?_⟩
      refine ⟨⟨dl d la L', vo, o, z, L', v0, vr, d0⟩, ⟨rfl, S4.ao, rfl, hz, rfl, S4.at_, S4.a0, S4.trk⟩, fun lv H5 s5 hl5 => ?_⟩
      obtain ⟨l5, ys, rfl, nl5, hl5', _, hY⟩ := da_lst hl5
      have yl : ys.length = 11 := hY.length
      have g5 := g4.same s5
      have S5 := S4.go ((Go.refl S4.dk).same s5)
      refine ⟨_, rfl, _, rfl, d, la, lb, 11, b + 1, rfl, by decide, by decide, S5.dk, fun r H6 r0 r1 D6 k6 => ?_⟩
      have g6 := g5.draw D6 k6
      have gg := (Go.refl S5.dk).draw D6 k6
      have S6 := S5.go gg
      have kk : Keep (dl d la L') H5 H6 := keep_up k6 fun a z => .inl z
      have hrn : r.toNat < ys.length := by omega
      obtain ⟨dd, e1, e2⟩ := (hY.keep kk).get (List.getElem?_eq_getElem hrn)
      have hj : ixN (v0 :: vr).length t = some t.toNat := by
        unfold ixN
        rw [if_pos t0, if_pos (by rw [List.length_cons, vrl]; exact t1)]
      refine ⟨l5, ys, r, ys[r.toNat], rfl, rfl, SqL.of (kk _ _ hl5' nl5), at_of (j := r.toNat) (by omega) (List.getElem?_eq_getElem hrn), _, rfl, _, rfl, L', _, t, t.toNat, rfl, rfl, S6.at_, hj, _, rfl, ?_⟩
      have hp : Prt dd := prt2 (p := ⟨dl d la L', vo, o, z, L', v0, vr, d0⟩) po p0 hz dd (List.mem_of_getElem? e1)
      have kp : Keep (dl d la L') H6 (upd H6 L' (.lst ((v0 :: vr).set t.toNat ys[r.toNat]))) := Keep.put (.inr rfl)
      refine q _ L' ((d0 :: dr).set t.toNat dd) (((g3.trans g6).put nL0).less (by omega)) ⟨⟨_, upd_same, (DaAll.set e2 t.toNat (.cons S6.a0 S6.ar)).keep kp⟩, by rw [List.length_set]; exact len, fun x hx => ?_, o1, o2, o3⟩
      rcases List.mem_or_eq_of_mem_set hx with h | h
      · exact prt x h
      · rw [h]; exact hp
    · -- one of the elders exchanged
      have S4 := S3.go g4
      have hv' : v0 = .ref a := hv
      subst hv'
      have ed' : d0 = .tuple es4 := ed
      subst ed'
      obtain ⟨el6, esm⟩ := p0.its es4 rfl
      have xl : xs4.length = es4.length := hA4.length
      have xp : 0 < xs4.length := by cases xs4 with | nil => exact absurd rfl hne | cons _ _ => simp
      have at0 : ∀ {n : Nat} {H5 : Hp}, Sit ⟨d, la, lb, L', b, t, .ref a, vr, .tuple es4, dr, vo, o⟩ n H5 → H5 L' = some (.lst (.ref a :: vr)) := fun S => S.at_
      have nda : ¬ dl d la L' a := by
        have z := S4.a0
        obtain ⟨a', _, e, n, _⟩ := da_tup z
        cases e
        exact n
      refine ⟨_, rfl, _, rfl, L', _, 0, .ref a, rfl, rfl, SqL.of (at0 S4), atI_nat (j := 0) rfl, a, xs4, rfl, .inr (SqT.of ha), d, la, lb, _, b + 1, rfl, by omega, by omega, S4.dk, fun kk H5 k0 k1 D5 k5 => ?_⟩
      obtain ⟨kn, rfl⟩ : ∃ kn : Nat, kk = (kn : Nat) := ⟨kk.toNat, by omega⟩
      have hkn : kn < xs4.length := by omega
      have g5 := g4.draw D5 k5
      have S5 := S4.go ((Go.refl S4.dk).draw D5 k5)
      have kp5 : Keep (dl d la L') H4 H5 := keep_up k5 fun a z => .inl z
      have ha5 := kp5 _ _ ha nda
      have hA5 := hA4.keep kp5
      have hx := List.getElem?_eq_getElem hkn
      obtain ⟨dx, ex, hdx⟩ := hA5.get hx
      refine ⟨_, rfl, L', _, 0, .ref a, rfl, rfl, SqL.of (at0 S5), atI_nat (j := 0) rfl, _, rfl, a, xs4, _, _, rfl, rfl, SqT.of ha5, atI_nat (j := kn) hx, ?_⟩
      refine ⟨⟨dl d la L', vo, o, (kn : Nat), xs4[kn], dx⟩, ⟨rfl, S5.ao, rfl, rfl, hdx, S5.trk⟩, fun lv H6 s6 hl6 => ?_⟩
      obtain ⟨l6, ys, rfl, nl6, hl6', _, hY⟩ := da_lst hl6
      have yl : ys.length = 10 := hY.length
      have S6 := S5.go ((Go.refl S5.dk).same s6)
      refine ⟨_, rfl, d, la, lb, 10, b, rfl, by decide, by decide, S6.dk, fun r H7 r0 r1 D7 k7 => ?_⟩
      have g7 := (g5.same s6).draw D7 k7
      have S7 := S6.go ((Go.refl S6.dk).draw D7 k7)
      have kp7 : Keep (dl d la L') H6 H7 := keep_up k7 fun a z => .inl z
      have hrn : r.toNat < ys.length := by omega
      obtain ⟨dd, e1, e2⟩ := (hY.keep kp7).get (List.getElem?_eq_getElem hrn)
      have hp : Sml dd := prt1 (p := ⟨dl d la L', vo, o, (kn : Nat), xs4[kn], dx⟩) so (esm dx (List.mem_of_getElem? ex)) (show (0 : Int) ≤ (kn : Nat) by omega) (show ((kn : Nat) : Int) ≤ 6 by omega) dd (List.mem_of_getElem? e1)
      have ha7 := kp7 _ _ (s6 _ _ ha5) nda
      have hA7 := (hA5.keep (.of_same s6)).keep kp7
      refine ⟨l6, ys, r, ys[r.toNat], rfl, rfl, SqL.of (kp7 _ _ hl6' nl6), at_of (j := r.toNat) (by omega) (List.getElem?_eq_getElem hrn), ?_⟩
      refine ⟨L', a, vr, xs4, kn, ys[r.toNat], rfl, rfl, rfl, at0 S7, ha7, hkn, by omega, fun H8 z s8 nz hz => ?_⟩
      have S8 := S7.go ((Go.refl S7.dk).same s8)
      have hj : ixN (V.ref a :: vr).length 0 = some 0 := by
        unfold ixN
        rw [if_pos (by decide), if_pos (by rw [List.length_cons, vrl]; decide)]; rfl
      refine ⟨_, rfl, L', _, 0, 0, rfl, rfl, at0 S8, hj, _, rfl, ?_⟩
      have kp : Keep (dl d la L') H8 (upd H8 L' (.lst ((V.ref a :: vr).set 0 (.ref z)))) := Keep.put (.inr rfl)
      have nz' : ¬ dl d la L' z := fun y => S7.trk z y nz
      have dn : Da (dl d la L') H8 (.ref z) (.tuple (es4.take kn ++ [dd] ++ es4.drop (kn + 1))) := by
        refine .tup nz' hz ?_ ?_
        · rw [List.length_append, List.length_append, List.length_take, List.length_drop, List.length_singleton]; omega
        · exact (DaAll.app (DaAll.app (hA7.take kn) (.cons e2 .nil)) (hA7.drop (kn + 1))).keep (.of_same s8)
      refine q _ L' ((PyData.tuple es4 :: dr).set 0 (.tuple (es4.take kn ++ [dd] ++ es4.drop (kn + 1)))) (((g3.trans (g7.same s8)).put nL0).less (by omega)) ⟨⟨_, upd_same, (DaAll.set dn 0 (.cons S8.a0 S8.ar)).keep kp⟩, by rw [List.length_set]; exact len, fun x hx => ?_, o1, o2, o3⟩
      rcases List.mem_or_eq_of_mem_set hx with h | h
      · exact prt x h
      · rw [h]
        refine prt_tup (fun y hy => ?_) ?_
        · rcases mem_take_append hy with h | h | h
          · exact esm y h
          · rw [h]; exact hp
          · exact esm y h
        · rw [List.length_append, List.length_append, List.length_take, List.length_drop, List.length_singleton]; omega
end
end Kc

set_option Elab.async false
set_option linter.all false
set_option maxRecDepth 100000
set_option maxHeartbeats 8000000
namespace Kc
open PySem PySem.Spec PyProof.Rows L2 Kg Kd Kr Kf Kx
abbrev sLaw : Stmt := topS 29
abbrev nLaw : List Str := ["_law_script", "_law_deck_here", "_law_turn", "_law_four_here", "_law_change", "_law_kept", "_law_due", "_law_made_here"]
theorem scLaw : FnScope nLaw ["_law_script"] (defScope sLaw) := ⟨rfl, rfl, rfl, by decide +kernel, rfl, by decide +kernel, by decide +kernel⟩
abbrev sGE : Stmt := inClass sCls 1
abbrev sGC : Stmt := inClass sCls 2
abbrev sGH : Stmt := inClass sCls 3
abbrev sGS : Stmt := inClass sCls 4
theorem scGE : FnScope ["self"] ["self"] (defScope sGE) := ⟨rfl, rfl, rfl, by decide +kernel, rfl, by decide +kernel, by decide +kernel⟩
theorem scGC : FnScope ["self"] ["self"] (defScope sGC) := ⟨rfl, rfl, rfl, by decide +kernel, rfl, by decide +kernel, by decide +kernel⟩
theorem scGH : FnScope ["self"] ["self"] (defScope sGH) := ⟨rfl, rfl, rfl, by decide +kernel, rfl, by decide +kernel, by decide +kernel⟩
theorem scGS : FnScope ["self"] ["self"] (defScope sGS) := ⟨rfl, rfl, rfl, by decide +kernel, rfl, by decide +kernel, by decide +kernel⟩
theorem ps_imp {X : Cx} {st : Stmt} {t t' : TS} (h : PS X st t) (i : ∀ D σ H, t' D σ H → t D σ H) : PS X st t' := ⟨fun pins s σ H D I z => h.run pins s σ H D I (i D σ H z)⟩
def tMor : TS := fun D σ H => ∃ (d la lb L : Addr) (b : Nat) (ds : List PyData), σ[1]? = some (some (.ref d)) ∧ σ[3]? = some (some (.ref L)) ∧ DeckAt H d la lb (b + 1) ∧ Fd H d la lb L ds ∧
  ∀ H' xs ds', DeckAt H' d la lb b → H' L = some (.lst xs) → DaAll (dl d la L) H' xs ds' → ds'.length = 4 → (∀ x ∈ ds', Bd x 4000 5) → D.nx σ H'
def spLaw (K : PySem.W.Frag) : Sp := fun vs H Q _ => ∃ (a : Addr) (ns : List Int), vs = [.ref a] ∧ SqL K H a (ns.map V.int) ∧ ns.length ≤ 63 ∧ ∀ H', Q (.bl true) H'
/-- what the place is, as a datum -/
def datV : V → PyData
  | .non => .none
  | .int i => .int i
  | .str x => .str x
  | .bl b => .bool b
  | _ => .none
theorem wrP_da {H : Hp} (e c h : PyData) (s : V) : Da Kd.nil H (wrP e c h s) (datV (wrP e c h s)) ∧ (datV (wrP e c h s)).depth = 0 := by
  have key : ∀ v : V, (v = .non ∨ (∃ i, v = .int i) ∨ ∃ x, v = .str x) → Da Kd.nil H v (datV v) ∧ (datV v).depth = 0 := by
    rintro v (rfl | ⟨i, rfl⟩ | ⟨x, rfl⟩)
    · exact ⟨.non, rfl⟩
    · exact ⟨.int i, rfl⟩
    · exact ⟨.str x, rfl⟩
  apply key
  cases e with
  | tuple ds =>
    show (if 1 ≤ ds.length ∧ ds.length ≤ 6 then _ else _) = _ ∨ _
    show (wrP (.tuple ds) c h s = .non ∨ (∃ i, wrP (.tuple ds) c h s = .int i) ∨ ∃ x, wrP (.tuple ds) c h s = .str x)
    have e1 : wrP (.tuple ds) c h s = (if 1 ≤ ds.length ∧ ds.length ≤ 6 then
      (match wrE (!decide (s = .bl false)) 0 ds with
      | some k => V.int (k : Nat)
      | none => if ascD c (ds.length : Nat) then (if ascD h (ds.length : Nat) then (if s = .bl true ∨ s = .bl false then .non else .str "several") else .str "hollow") else .str "closed")
      else .str "elders") := rfl
    rw [e1]
    split
    · split
      · exact .inr (.inl ⟨_, rfl⟩)
      · split
        · split
          · split
            · exact .inl rfl
            · exact .inr (.inr ⟨_, rfl⟩)
          · exact .inr (.inr ⟨_, rfl⟩)
        · exact .inr (.inr ⟨_, rfl⟩)
    · exact .inr (.inr ⟨_, rfl⟩)
  | _ => exact .inr (.inr ⟨_, rfl⟩)
section
variable {P : Program} {w : World} {K : PySem.W.Frag} {mg : Str → Option Value} {base : Heap} {f : Addr} {fd : FuncData} {k : Nat}
theorem ok_ge {C : Addr} (F : Fun K "elders" "Kinds.elders" sGE f fd) (T : KC K C) : FnOk P w K mg base CX0 (k + 1) f fd ["self"] (getSp C "kept_elders") := by
  refine F.ok scGE (fun vs H Q E h => ?_) (fun cdv A outer s H vs Q E hr h => ?_)
  · obtain ⟨a, dx, fs, v, rfl, _⟩ := h
    rfl
  · obtain ⟨a, dx, fs, v, rfl, ea, l, q⟩ := h
    exact ⟨_, pss_one (ps_ret (pe_fld (pv 0) rfl)), _, rfl, a, C, dx, fs, v, rfl, ea, T.cl, T.n1, l, q⟩
theorem ok_gc {C : Addr} (F : Fun K "closed" "Kinds.closed" sGC f fd) (T : KC K C) : FnOk P w K mg base CX0 (k + 1) f fd ["self"] (getSp C "kept_closed") := by
  refine F.ok scGC (fun vs H Q E h => ?_) (fun cdv A outer s H vs Q E hr h => ?_)
  · obtain ⟨a, dx, fs, v, rfl, _⟩ := h
    rfl
  · obtain ⟨a, dx, fs, v, rfl, ea, l, q⟩ := h
    exact ⟨_, pss_one (ps_ret (pe_fld (pv 0) rfl)), _, rfl, a, C, dx, fs, v, rfl, ea, T.cl, T.n2, l, q⟩
theorem ok_gh {C : Addr} (F : Fun K "hollow" "Kinds.hollow" sGH f fd) (T : KC K C) : FnOk P w K mg base CX0 (k + 1) f fd ["self"] (getSp C "kept_hollow") := by
  refine F.ok scGH (fun vs H Q E h => ?_) (fun cdv A outer s H vs Q E hr h => ?_)
  · obtain ⟨a, dx, fs, v, rfl, _⟩ := h
    rfl
  · obtain ⟨a, dx, fs, v, rfl, ea, l, q⟩ := h
    exact ⟨_, pss_one (ps_ret (pe_fld (pv 0) rfl)), _, rfl, a, C, dx, fs, v, rfl, ea, T.cl, T.n3, l, q⟩
theorem ok_gs {C : Addr} (F : Fun K "several" "Kinds.several" sGS f fd) (T : KC K C) : FnOk P w K mg base CX0 (k + 1) f fd ["self"] (getSp C "kept_several") := by
  refine F.ok scGS (fun vs H Q E h => ?_) (fun cdv A outer s H vs Q E hr h => ?_)
  · obtain ⟨a, dx, fs, v, rfl, _⟩ := h
    rfl
  · obtain ⟨a, dx, fs, v, rfl, ea, l, q⟩ := h
    exact ⟨_, pss_one (ps_ret (pe_fld (pv 0) rfl)), _, rfl, a, C, dx, fs, v, rfl, ea, T.cl, T.n4, l, q⟩
/-- the getters -/
structure Gt (P : Program) (w : World) (K : PySem.W.Frag) (mg : Str → Option Value) (base : Heap) (C : Addr) (n k : Str) : Prop where
  ex : ∃ p g fd, PropOf K C n p g ∧ FnOk P w K mg base CX0 1 g fd ["self"] (getSp C k) ∧ Binds K fd ["self"] []
theorem Fd.da {H : Hp} {d la L : Addr} {xs : List V} {ds : List PyData} (h : DaAll (dl d la L) H xs ds) (l : ds.length = 4) : ∃ ve vc vh s e c h' sd, xs = [ve, vc, vh, s] ∧ ds = [e, c, h', sd] ∧ Da (dl d la L) H ve e ∧ Da (dl d la L) H vc c ∧ Da (dl d la L) H vh h' ∧ Da (dl d la L) H s sd := by
  cases h with
  | nil => exact nomatch l
  | cons h1 h =>
    cases h with
    | nil => exact nomatch l
    | cons h2 h =>
      cases h with
      | nil => exact nomatch l
      | cons h3 h =>
        cases h with
        | nil => exact nomatch l
        | cons h4 h =>
          cases h with
          | nil => exact ⟨_, _, _, _, _, _, _, _, rfl, rfl, h1, h2, h3, h4⟩
          | cons _ _ => exact absurd l (by simp)
theorem ok_law {f fD fN fS fF fB fP fT fM C : Addr} {fd dD dN dS dF dB dP dT dM : FuncData} (F : Fun K "law" "law" sLaw f fd) (B : Bl mg) (T : KC K C) (hsys : ∃ o, base.get? sysModules = some o)
    (GD : FnOk P w K mg base CX0 1 fD dD ["_law_script"] (spDeck K)) (gD : mg "_law_deck" = some (.ref fD)) (kD : PySem.W.keepIn K (.ref fD) = true) (bD : Binds K dD ["_law_script"] [])
    (GN : FnOk P w K mg base CX0 1 fN dN ["_law_deck_here", "_law_many"] spNext) (kN : PySem.W.keepIn K (.ref fN) = true) (bN : Binds K dN ["_law_deck_here", "_law_many"] []) (gN : mg "_law_next" = some (.ref fN))
    (GS : FnG P w K mg base 7 fS dS ["_law_found", "_law_due"] (spSame 7)) (gS : mg "_law_same" = some (.ref fS)) (kS : PySem.W.keepIn K (.ref fS) = true) (bS : Binds K dS ["_law_found", "_law_due"] [])
    (GF : FnOk P w K mg base CX0 3 fF dF ["_law_deck_here", "_law_most"] spFour) (gF : mg "_law_four" = some (.ref fF)) (kF : PySem.W.keepIn K (.ref fF) = true) (bF : Binds K dF ["_law_deck_here", "_law_most"] [])
    (GB : FnOk P w K mg base CX0 3 fB dB ["_law_deck_here", "_law_four_here"] spBent) (gB : mg "_law_bent" = some (.ref fB)) (kB : PySem.W.keepIn K (.ref fB) = true) (bB : Binds K dB ["_law_deck_here", "_law_four_here"] [])
    (GP : FnOk P w K mg base CX0 3 fP dP ["_law_four_here"] spPla) (gP : mg "_law_place" = some (.ref fP)) (kP : PySem.W.keepIn K (.ref fP) = true) (bP : Binds K dP ["_law_four_here"] [])
    (GT : FnOk P w K mg base CX0 8 fT dT ["_law_four_here"] spTold) (gT : mg "_law_told" = some (.ref fT)) (kT : PySem.W.keepIn K (.ref fT) = true) (bT : Binds K dT ["_law_four_here"] [])
    (GM : FnOk P w K mg base CX0 8 fM dM ["_law_four_here"] (spMade C)) (gM : mg "_law_made" = some (.ref fM)) (kM : PySem.W.keepIn K (.ref fM) = true) (bM : Binds K dM ["_law_four_here"] [])
    (P1 : Gt P w K mg base C "elders" "kept_elders") (P2 : Gt P w K mg base C "closed" "kept_closed") (P3 : Gt P w K mg base C "hollow" "kept_hollow") (P4 : Gt P w K mg base C "several" "kept_several") :
    FnG P w K mg base 9 f fd ["_law_script"] (spLaw K) := by
  obtain ⟨p1, g1, d1, po1, Gg1, bg1⟩ := P1.ex
  obtain ⟨p2, g2, d2, po2, Gg2, bg2⟩ := P2.ex
  obtain ⟨p3, g3, d3, po3, Gg3, bg3⟩ := P3.ex
  obtain ⟨p4, g4, d4, po4, Gg4, bg4⟩ := P4.ex
  refine okG F scLaw (fun vs H Q E h => ?_) (fun cdv A out s H vs Q hgu hr h => ?_)
  · obtain ⟨a, ns, rfl, _⟩ := h
    rfl
  · obtain ⟨a, ns, rfl, hS, hlen, q⟩ := h
    have hr1 := hr.mono (show 1 ≤ 8 by decide)
    have hr2 := hr.mono (show 2 ≤ 8 by decide)
    have hr3 := hr.mono (show 3 ≤ 8 by decide)
    have hr7 := hr.mono (show 7 ≤ 8 by decide)
    refine ⟨_, pss_cons (ps_set (i := 1) scLaw.nd rfl (.inl rfl) (pe_call GD hr1 (by rfl) gD kD bD .nil pass0 (pa_cons (pv 0) pa_nil)))
      (pss_cons (ps_for PassesOwn.never rfl (pi_range1 (by rfl) B.range (pa_cons pe_int pa_nil)) (pg_name (i := 2) scLaw.nd rfl (.inl rfl))
        (pss_cons (ps_set (i := 3) scLaw.nd rfl (.inl rfl) (pe_call GF hr3 (by rfl) gF kF bF .nil pass0 (pa_cons (pv 1) (pa_cons pe_int pa_nil))))
        (pss_cons (ps_for PassesOwn.never rfl (pi_range1 (by rfl) B.range (pa_cons (pe_ix ix_list (pe_lst (pa_cons pe_int (pa_cons pe_int (pa_cons pe_int (pa_cons pe_int pa_nil))))) (pe_call GN hr1 (by rfl) gN kN bN .nil pass0 (pa_cons (pv 1) (pa_cons pe_int pa_nil))) (fun _ _ => rfl)) pa_nil)) (pg_name (i := 4) scLaw.nd rfl (.inl rfl))
          (pss_one (ps_set (i := 3) scLaw.nd rfl (.inl rfl) (pe_call GB hr3 (by rfl) gB kB bB .nil pass0 (pa_cons (pv 1) (pa_cons (pv 3) pa_nil))))))
        (pss_cons (ps_imp (t' := tMor) (ps_if (PW.pt (pw_and (pt_cmpR op_eq (pe_call GN hr1 (by rfl) gN kN bN .nil pass0 (pa_cons (pv 1) (pa_cons pe_int pa_nil))) pe_int (nomark _)) (pw_and1 (pt_val (pe_callB call_isi (by rfl) B.isi boot_isinstance (pa_cons (pe_ix ix_list (pv 3) pe_int (fun _ _ => rfl)) (pa_cons (pe_bltn (v := .ty "tuple") (by rfl) B.tuple PyProof.Rows.boot_tuple rfl) pa_nil)))))))
            (pss_one (ps_asg (pe_op op_catA (pe_ix ix_list (pv 3) pe_int (fun _ _ => rfl)) (pe_op op_repT (pe_tup (pa_cons (pe_tup pa_nil) pa_nil)) pe_int)) (pg_sub (pv 3) pe_int set_list))) pss_nil) (fun D σ H h => by
              obtain ⟨d, la, lb, L, b, ds, s1, s3, D0, FD, q⟩ := h
              obtain ⟨⟨xs, hL, hA⟩, len, prt, n1, n2, n3⟩ := FD
              refine ⟨_, s1, d, la, lb, 10, b, rfl, by decide, by decide, D0, fun r H1 _ _ D1 k1 => ⟨rfl, _, rfl, ?_⟩⟩
              have gg := (Go.refl D0).draw D1 k1
              have kp : Keep (dl d la L) H H1 := keep_up k1 fun a z => .inl z
              have hL1 := gg.at_ hL n1 n2
              have hA1 := hA.keep kp
              have fin : D.nx σ H1 := q H1 xs ds D1 hL1 hA1 len fun x hx => (prt x hx).bd
              refine ite2 (fun _ => ?_) (fun _ => iteF fin)
              obtain ⟨v0, vr, d0, dr, rfl, rfl⟩ : ∃ v0 vr d0 dr, xs = v0 :: vr ∧ ds = d0 :: dr := by
                cases hA1 with
                | nil => exact nomatch len
                | cons _ _ => exact ⟨_, _, _, _, rfl, rfl⟩
              have h0 : Da (dl d la L) H1 v0 d0 := by cases hA1 with | cons a _ => exact a
              have hr0 : DaAll (dl d la L) H1 vr dr := by cases hA1 with | cons _ a => exact a
              refine ⟨_, s3, L, _, 0, v0, rfl, rfl, SqL.of hL1, atI_nat (j := 0) rfl, _, _, _, _, isTup d0, rfl, .ty _, h0.ty, kit_ty (kt_tup d0), _, rfl, ?_⟩
              by_cases hb : isTup d0 = true
              · refine iteD hb ?_
                obtain ⟨es, rfl⟩ := tup_of hb
                obtain ⟨a, ys, rfl, na, ha, hal, hY⟩ := da_tup h0
                obtain ⟨e6, esm⟩ := (prt _ (List.mem_cons_self ..)).its es rfl
                have yl : ys.length ≤ 6 := by rw [hY.length]; exact e6
                refine ⟨_, s3, L, _, 0, .ref a, rfl, rfl, SqL.of hL1, atI_nat (j := 0) rfl, (show 0 ≤ sizeLine by decide), fun em nem => ⟨(show 1 ≤ sizeLine by decide), fun t1 nt1 => ?_⟩⟩
                have u1 := same_new (o := HO.tup []) nem
                have u2 := same_new (o := HO.tup [.ref em]) nt1
                refine ⟨t1, 4, _, rfl, rfl, SqT.of upd_same, by simp, by decide, by decide, by simp, fun p np => ?_⟩
                have ef : (List.replicate (Int.toNat 4) [V.ref em]).flatten = [.ref em, .ref em, .ref em, .ref em] := rfl
                rw [ef]
                have u3 := same_new (o := HO.tup [.ref em, .ref em, .ref em, .ref em]) np
                have hem := u3 _ _ (u2 _ _ (upd_same (H := H1) (a := em) (o := HO.tup [])))
                have hpp := upd_same (H := upd (upd H1 em (HO.tup [])) t1 (HO.tup [.ref em])) (a := p) (o := HO.tup [.ref em, .ref em, .ref em, .ref em])
                have uu := u1.trans (u2.trans u3)
                have npH : H1 p = none := (u1.trans u2).free np
                clear u2 u3
                generalize upd (upd (upd H1 em (HO.tup [])) t1 (HO.tup [.ref em])) p (HO.tup [.ref em, .ref em, .ref em, .ref em]) = H2 at hem hpp uu ⊢
                have trk := dl_trk D1 hL1
                have hj : ixN (V.ref a :: vr).length 0 = some 0 := by
                  unfold ixN
                  rw [if_pos (by decide), if_pos (by rw [List.length_cons]; omega)]; rfl
                have last : ∀ (H3 : Hp) (z : Addr), Same H1 H3 → H1 z = none → H3 z = some (.tup (ys ++ [.ref em, .ref em, .ref em, .ref em])) → H3 em = some (.tup []) → D.nx σ (upd H3 L (.lst ((V.ref a :: vr).set 0 (.ref z)))) := by
                  intro H3 z s3' nz hz hem3
                  have dem : Da (dl d la L) H3 (.ref em) (.tuple []) := .tup (fun y => trk em y nem) hem3 (by decide) .nil
                  have dz : Da (dl d la L) H3 (.ref z) (.tuple (es ++ [.tuple [], .tuple [], .tuple [], .tuple []])) := by
                    refine .tup (fun y => trk z y nz) hz (by rw [List.length_append]; simp; omega) (DaAll.app (hY.keep (.of_same s3')) (.cons dem (.cons dem (.cons dem (.cons dem .nil)))))
                  have kp3 : Keep (dl d la L) H3 (upd H3 L (.lst ((V.ref a :: vr).set 0 (.ref z)))) := Keep.put (.inr rfl)
                  refine q _ _ ((PyData.tuple es :: dr).set 0 (.tuple (es ++ [.tuple [], .tuple [], .tuple [], .tuple []]))) ?_ upd_same ((DaAll.set dz 0 (.cons (h0.same s3') (hr0.keep (.of_same s3')))).keep kp3) (by rw [List.length_set]; exact len) fun x hx => ?_
                  · exact (D1.same s3').put n1 n2 n3
                  · rcases List.mem_or_eq_of_mem_set hx with h | h
                    · exact (prt x h).bd
                    · rw [h]
                      have sm0 : Sml (.tuple []) := smlB_ok (by decide +kernel)
                      refine (bd_tup (n := 200) (D := 4) (k := 10) (fun y hy => ?_) (by rw [List.length_append]; simp; omega)).mono (by decide) (by decide)
                      rcases List.mem_append.mp hy with h | h
                      · exact esm y h
                      · simp at h; rw [h]; exact sm0
                refine ⟨a, p, _, _, rfl, rfl, SqT.of (uu _ _ ha), SqT.of hpp, Nat.le_of_lt (small1000 (by simp; omega)), fun z => ?_, fun _ z => (nomatch z), fun _ _ p5 np5 => ?_⟩
                · exact ⟨_, s3, L, _, 0, 0, rfl, rfl, uu _ _ hL1, hj, last H2 p uu npH (by rw [z, List.nil_append]; exact hpp) hem⟩
                · have u5 := same_new (o := HO.tup (ys ++ [.ref em, .ref em, .ref em, .ref em])) np5
                  exact ⟨_, s3, L, _, 0, 0, rfl, rfl, u5 _ _ (uu _ _ hL1), hj, last _ p5 (uu.trans u5) (uu.free np5) upd_same (u5 _ _ hem)⟩
              · rw [Bool.not_eq_true] at hb
                exact iteE hb fin))
        (pss_cons (ps_par (i := 5) (j := 6) (by rfl) scLaw.nd rfl rfl (by decide) rfl rfl (pa_cons (pe_callB (call_reprA hgu hr.units hsys) (by rfl) B.repr (by decide +kernel) (pa_cons (pv 3) pa_nil)) (pa_cons (pe_call GP hr3 (by rfl) gP kP bP .nil pass0 (pa_cons (pv 3) pa_nil)) pa_nil)) (by rfl))
        (pss_cons (ps_if (PW.pt (pw_or (pt_not (pt_val (pe_callG GS hgu hr7 (by rfl) gS kS bS (pa_cons (pe_call GT hr (by rfl) gT kT bT .nil pass0 (pa_cons (pv 3) pa_nil)) (pa_cons (pv 6) pa_nil))))) (pw_or1 (pt_cmpR op_ne (pe_callB (call_reprA hgu hr.units hsys) (by rfl) B.repr (by decide +kernel) (pa_cons (pv 3) pa_nil)) (pv 5) (nomark _))))) (pss_one (ps_ret pe_bl)) pss_nil)
        (pss_one (ps_if (pt_cmpR op_isN (pv 6) pe_non (nomark _))
          (pss_cons (ps_set (i := 7) scLaw.nd rfl (.inl rfl) (pe_call GM hr (by rfl) gM kM bM .nil pass0 (pa_cons (pv 3) pa_nil)))
          (pss_one (ps_if (pt_not (pt_val (pe_callG GS hgu hr7 (by rfl) gS kS bS (pa_cons (pe_lst (pa_cons (pe_prop (pv 7) T.cl po1 Gg1 hr2 bg1 .nil pass0 rfl) (pa_cons (pe_prop (pv 7) T.cl po2 Gg2 hr2 bg2 .nil pass0 rfl) (pa_cons (pe_prop (pv 7) T.cl po3 Gg3 hr2 bg3 .nil pass0 rfl) (pa_cons (pe_prop (pv 7) T.cl po4 Gg4 hr2 bg4 .nil pass0 rfl) pa_nil))))) (pa_cons (pv 3) pa_nil))))) (pss_one (ps_ret pe_bl)) pss_nil))) pss_nil))))))))
      (pss_one (ps_ret pe_bl))), ?_⟩
    -- the deck
    refine ⟨_, rfl, a, ns, rfl, hS, hlen, fun H1 d la lb s1 nd nla nlb D1 => ?_⟩
    refine ⟨6, rfl, by decide, by decide, for_range (lo := 0) (n := 6) (fun i σ H2 => ∃ y2 y3 y4 y5 y6 y7, σ = [some (.ref a), some (.ref d), y2, y3, y4, y5, y6, y7] ∧ DeckAt H2 d la lb (1152921504606846976 - 80 * i))
      ⟨none, none, none, none, none, none, rfl, D1⟩ (fun i σ H2 hi hP => ?_) (fun σ H2 hP => ?_)⟩
    · obtain ⟨y2, y3, y4, y5, y6, y7, rfl, D2⟩ := hP
      obtain ⟨b, hb⟩ : ∃ b, 1152921504606846976 - 80 * i = b + 16 + 64 := ⟨1152921504606846976 - 80 * i - 80, by omega⟩
      rw [hb] at D2
      -- the four
      refine ⟨_, rfl, d, la, lb, 6, b + 16, rfl, by decide, by decide, D2, fun H3 L es cl ho sv g3 nL F3 el => ?_⟩
      obtain ⟨o1, o2, o3⟩ := g3.off nL
      have F3d : Fd H3 d la lb L [pdE es, pdI cl, pdI ho, .bool sv] := by
        obtain ⟨⟨ve, vc, vh, hl, h1, h2, h3⟩, EL, SC, SH⟩ := F3
        have ap : ∀ {v : V} {D : PyData}, Tu H3 v D → Da (dl d la L) H3 v D := by
          obtain ⟨⟨ks, ls, tt, z1, z2, _⟩, _⟩ := g3.now
          have nt : ∀ {x : Addr} {xs : List V}, H3 x = some (.tup xs) → ¬ dl d la L x := by
            rintro x xs hx ((z | z) | z)
            · rw [z, z1] at hx; cases hx
            · rw [z, z2] at hx; cases hx
            · rw [z, hl] at hx; cases hx
          intro v D h
          exact Tu.rec (motive_1 := fun v d' _ => Da (dl d la L) H3 v d') (motive_2 := fun vs ds _ => DaAll (dl d la L) H3 vs ds) .non (fun b => .bl b) (fun i => .int i) (fun x => .str x) (fun h z _ r => .tup (nt h) h z r) .nil (fun _ _ h r => .cons h r) h
        refine ⟨⟨_, hl, .cons (ap h1) (.cons (ap h2) (.cons (ap h3) (.cons (.bl sv) .nil)))⟩, rfl, fun x hx => ?_, o1, o2, o3⟩
        have sI : ∀ l : List Nat, Som es.length l → (∀ y ∈ l.map iD, Bd y 2 0) := fun l hl y hy => by
          obtain ⟨n, hn, rfl⟩ := List.mem_map.mp hy
          have := hl.low n hn
          have := EL.hi
          exact bd_int (by omega) (by omega)
        have up : ∀ l : List Nat, Som es.length l → Prt (pdI l) := fun l hl => prt_tup (fun y hy => (sI l hl y hy).mono (by decide) (by decide)) (by rw [List.length_map]; have := hl.len; have := EL.hi; omega)
        simp only [List.mem_cons, List.not_mem_nil, or_false] at hx
        rcases hx with h | h | h | h
        · rw [h]
          refine prt_tup (fun y hy => ?_) (by rw [List.length_map]; exact EL.hi)
          obtain ⟨l, hl, rfl⟩ := List.mem_map.mp hy
          obtain ⟨k, hk⟩ := List.getElem?_of_mem hl
          have hs := EL.som hk
          have hkl : k < es.length := (List.getElem?_eq_some_iff.mp hk).1
          exact sml_tup (sI l (som_up hs (by omega))) (by rw [List.length_map]; have := hs.len; have := EL.hi; omega)
        · rw [h]; exact up cl SC
        · rw [h]; exact up ho SH
        · rw [h]; cases sv <;> exact (prtB_ok (by decide +kernel)).2
      -- the changes
      refine ⟨(show 4 ≤ sizeLine by decide), fun Lc nLc => ⟨_, rfl, d, la, lb, 4, b + 15, rfl, by decide, by decide, (g3.now.same (same_new nLc)), fun r H4 r0 r1 D4 k4 => ?_⟩⟩
      have gc := (Go.refl (g3.now.same (same_new (o := HO.lst [.int 0, .int 1, .int 1, .int 2]) nLc))).draw D4 k4
      have hLc : H4 Lc = some (.lst [.int 0, .int 1, .int 1, .int 2]) := k4 _ _ upd_same (by
        obtain ⟨a1, a2, _⟩ := g3.now.tracked
        rintro (z | z) <;> (rw [z] at nLc; contradiction))
      have g34 : Go H3 d la lb (b + 15) H4 := ((Go.refl g3.now).same (same_new nLc)).draw D4 k4
      have mv : ∀ {H4 : Hp} {m : Nat} {ds : List PyData}, Go H3 d la lb m H4 → Fd H3 d la lb L ds → Fd H4 d la lb L ds := fun g F => by
        obtain ⟨⟨xs, h1, h2⟩, h3, h4, h5, h6, h7⟩ := F
        exact ⟨⟨xs, g.at_ h1 h5 h6, h2.keep (keep_up g.kp fun a z => .inl z)⟩, h3, h4, h5, h6, h7⟩
      have F4 := mv g34 F3d
      obtain ⟨nc, hnc, hncl⟩ : ∃ nc : Nat, atI ([.int 0, .int 1, .int 1, .int 2] : List V) r = some (.int (nc : Nat)) ∧ nc ≤ 2 := by
        have : r = 0 ∨ r = 1 ∨ r = 2 ∨ r = 3 := by omega
        rcases this with h | h | h | h <;> subst h
        · exact ⟨0, rfl, by decide⟩
        · exact ⟨1, rfl, by decide⟩
        · exact ⟨1, rfl, by decide⟩
        · exact ⟨2, rfl, by decide⟩
      refine ⟨Lc, _, r, .int (nc : Nat), rfl, rfl, SqL.of hLc, hnc, (nc : Nat), rfl, by omega, by omega, for_range (lo := 0) (n := ((nc : Nat) : Int).toNat) (fun j σ H5 => ∃ y4 L ds, σ = [some (.ref a), some (.ref d), some (.int (0 + (i : Nat))), some (.ref L), y4, y5, y6, y7] ∧ DeckAt H5 d la lb (b + 1 + 5 * (2 - j)) ∧ Fd H5 d la lb L ds)
        ⟨y4, L, _, rfl, D4.less (by omega), F4⟩ (fun j σ H5 hj p => ?_) (fun σ H5 p => ?_)⟩
      · obtain ⟨z4, L5, ds5, rfl, D5, F5⟩ := p
        rw [Int.toNat_natCast] at hj
        refine ⟨_, rfl, _, rfl, d, la, lb, L5, b + 1 + 5 * (2 - (j + 1)), ds5, rfl, D5.less (by omega), F5, fun H6 L6 ds6 g6 F6 => ?_⟩
        exact ⟨_, L6, ds6, rfl, g6.now, F6⟩
      · obtain ⟨z4, L5, ds5, rfl, D5, F5⟩ := p
        refine ⟨d, la, lb, L5, b, ds5, rfl, rfl, D5.less (by omega), F5, fun H6 xs ds6 D6 hL6 hA6 len6 bd6 => ?_⟩
        obtain ⟨ve, vc, vh, vs, e, c, h, sd, rfl, rfl, h1, h2, h3, h4⟩ := Fd.da hA6 len6
        have whole : ∀ {H7 : Hp}, Same H6 H7 → Da Kd.nil H7 (.ref L5) (.list [e, c, h, sd]) := fun s7 => (Da.lst (av := Kd.nil) (fun z => z) hL6 (by show 4 ≤ 1000; decide) (.cons h1.nil (.cons h2.nil (.cons h3.nil (.cons h4.nil .nil))))).same s7
        have bdL : Bd (.list [e, c, h, sd]) (3 + 4 * (4000 + 2)) (5 + 1) := bd_lst bd6 (by show 4 ≤ 4; decide)
        have depOk : (PyData.list [e, c, h, sd]).depth ≤ 60 := Nat.le_trans bdL.dep (by decide)
        have lenOk : (PyData.list [e, c, h, sd]).shown.length ≤ sizeLine := Nat.le_trans bdL.len (show 3 + 4 * (4000 + 2) ≤ sizeLine by decide)
        obtain ⟨wd, wdp⟩ := wrP_da (H := H6) e c h vs
        refine ⟨_, rfl, Kd.nil, L5, _, rfl, whole (Same.refl _), bdL.sho, depOk, lenOk, ?_⟩
        refine ⟨_, rfl, L5, ve, vc, vh, vs, e, c, h, sd, rfl, hL6, h1.nil, h2.nil, h3.nil, h4.nil, fun H7 s7 => ⟨_, _, rfl, ?_⟩⟩
        -- told
        refine ⟨_, rfl, L5, ve, vc, vh, vs, e, c, h, rfl, s7 _ _ hL6, h1.nil.same s7, h2.nil.same s7, h3.nil.same s7, fun H8 s8 => ?_⟩
        refine ⟨_, rfl, _, _, _, _, rfl, (wrP_da e c h vs).1, (wrP_da e c h vs).1, by rw [wdp]; decide, fun H9 s9 => ⟨_, rfl, ?_⟩⟩
        rw [sameD_refl]
        have s69 := s7.trans (s8.trans s9)
        refine iteF ⟨_, rfl, Kd.nil, L5, _, rfl, whole s69, bdL.sho, depOk, lenOk, _, rfl, rfl, _, rfl, ?_⟩
        refine iteE (by simp) ?_
        have D9 := D6.same s69
        refine ⟨_, rfl, rfl, _, rfl, ?_⟩
        by_cases cw : wrP e c h vs = .non
        · refine iteD (decide_eq_true cw) ?_
          obtain ⟨es', cl', ho', sv', rfl, rfl, rfl, rfl, EL, SC, SH⟩ := wrP_inv cw
          have Fo9 : Fo H9 L5 es' cl' ho' sv' := ⟨⟨ve, vc, vh, s69 _ _ hL6, (da_pdE h1).same s69, (da_pdI h2).same s69, (da_pdI h3).same s69⟩, EL, SC, SH⟩
          refine ⟨_, rfl, L5, es', cl', ho', sv', rfl, Fo9, fun HA pk sA npk KA => ?_⟩
          obtain ⟨⟨dx, ke, kc, kh, kt, hk, t1, t2, t3, t4⟩, _, _, _⟩ := KA
          refine ⟨_, rfl, pk, dx, _, rfl, hk, pk, dx, _, ke, rfl, hk, rfl, ?_⟩
          refine ⟨_, rfl, pk, dx, _, rfl, hk, pk, dx, _, kc, rfl, hk, rfl, ?_⟩
          refine ⟨_, rfl, pk, dx, _, rfl, hk, pk, dx, _, kh, rfl, hk, rfl, ?_⟩
          refine ⟨_, rfl, pk, dx, _, rfl, hk, pk, dx, _, .bl sv', rfl, hk, rfl, ?_⟩
          refine ⟨(show 4 ≤ sizeLine by decide), fun l nl => ?_⟩
          have sB := same_new (o := HO.lst [ke, kc, kh, .bl sv']) nl
          have dl1 : Da Kd.nil (upd HA l (.lst [ke, kc, kh, .bl sv'])) (.ref l) (.list [pdE es', pdI cl', pdI ho', .bool sv']) := .lst (fun z => z) upd_same (by show 4 ≤ 1000; decide) (.cons (t1.same sB).da (.cons (t2.same sB).da (.cons (t3.same sB).da (.cons (.bl sv') .nil))))
          have sdb : sd = .bool sv' := by cases h4; rfl
          have dl2 := whole (s69.trans (sA.trans sB))
          rw [sdb] at dl2
          refine ⟨_, rfl, _, _, _, _, rfl, dl1, dl2, ?_, fun HB sBB => ⟨_, rfl, ?_⟩⟩
          · show PyData.depthAll [pdE es', pdI cl', pdI ho', .bool sv'] + 1 < 7
            have := bd_depA (ds := [pdE es', pdI cl', pdI ho', .bool sv']) (D := 5) (fun x hx => (bd6 x (by rw [sdb]; exact hx)).dep)
            omega
          · rw [sameD_refl]
            refine iteF ⟨_, _, _, _, _, _, rfl, ?_⟩
            exact ((D9.same sA).same (sB.trans sBB)).less (by omega)
        · refine iteE (decide_eq_false cw) ?_
          exact ⟨_, _, _, _, _, _, rfl, D9.less (by omega)⟩
    · obtain ⟨y2, y3, y4, y5, y6, y7, rfl, D2⟩ := hP
      exact q H2
end
end Kc

set_option Elab.async false
set_option linter.all false
set_option maxRecDepth 100000
set_option maxHeartbeats 8000000
namespace Kc
open PySem PySem.Spec PyProof.Rows L2 Kg Kd Kr Kf Kx
theorem ba2 {a b : Bool} (h : (a && b) = true) : a = true ∧ b = true := Bool.and_eq_true_iff.mp h
def excCB (K : PySem.W.Frag) (C : Addr) : Bool := decide (PySem.W.findIn K (.ref C) "__getattribute__" = some (some (.builtin "BaseException.__getattribute__"))) && (decide (PySem.W.findIn K (.ref C) "__getattr__" = some none) && (decide (PySem.W.subIn K (.ref C) (.type "BaseException") = some true) && (PySem.W.hasDictIn K C &&
  (decide (PySem.W.findIn K (.ref C) "__class__" = some (some (.builtin "object.__class__"))) && (decide (PySem.W.specialIn K (.builtin "object.__class__") "__get__" = some (some (.builtin "getset_descriptor.__get__"))) && (decide (PySem.W.takesIn K (.builtin "object.__class__") = some true) && decide (PySem.W.mroIn K C (.type "object") = some true)))))))
theorem excCB_ok {K : PySem.W.Frag} {C : Addr} (h : excCB K C = true) : ExcC K C := by
  obtain ⟨h1, h⟩ := ba2 h
  obtain ⟨h2, h⟩ := ba2 h
  obtain ⟨h3, h⟩ := ba2 h
  obtain ⟨h4, h⟩ := ba2 h
  obtain ⟨h5, h⟩ := ba2 h
  obtain ⟨h6, h⟩ := ba2 h
  obtain ⟨h7, h8⟩ := ba2 h
  exact ⟨of_decide_eq_true h1, of_decide_eq_true h2, of_decide_eq_true h3, h4, of_decide_eq_true h5, of_decide_eq_true h6, of_decide_eq_true h7, of_decide_eq_true h8⟩
/-- the class Kinds -/
def kcB (K : PySem.W.Frag) (C fI : Addr) : Bool := PySem.W.plainGet K C Str.empty && (PySem.W.hasDictIn K C && (PySem.W.plainOver K C && (decide (PySem.W.findIn K (.ref C) "__setattr__" = some (some (.builtin "object.__setattr__"))) &&
  (decide (PySem.W.findIn K (.ref C) "kept_elders" = some none) && (decide (PySem.W.findIn K (.ref C) "kept_closed" = some none) && (decide (PySem.W.findIn K (.ref C) "kept_hollow" = some none) && (decide (PySem.W.findIn K (.ref C) "kept_several" = some none) && (decide (PySem.W.findIn K (.ref C) "kept_above" = some none) &&
  (PySem.W.makesIn K C && (PySem.W.isFn K (.ref fI) && PySem.W.keepIn K (.ref C)))))))))))
theorem kcB_ok {K : PySem.W.Frag} {C fI : Addr} (y : PySem.W.findIn K (.ref C) "__init__" = some (some (.ref fI))) (h : kcB K C fI = true) : KC K C ∧ Mk K C fI := by
  obtain ⟨h1, h⟩ := ba2 h
  obtain ⟨h2, h⟩ := ba2 h
  obtain ⟨h3, h⟩ := ba2 h
  obtain ⟨h4, h⟩ := ba2 h
  obtain ⟨h5, h⟩ := ba2 h
  obtain ⟨h6, h⟩ := ba2 h
  obtain ⟨h7, h⟩ := ba2 h
  obtain ⟨h8, h⟩ := ba2 h
  obtain ⟨h9, h⟩ := ba2 h
  obtain ⟨hA, h⟩ := ba2 h
  obtain ⟨hB, hC⟩ := ba2 h
  have k5 : PySem.W.findIn K (.ref C) "kept_elders" = some none := of_decide_eq_true h5
  have k6 : PySem.W.findIn K (.ref C) "kept_closed" = some none := of_decide_eq_true h6
  have k7 : PySem.W.findIn K (.ref C) "kept_hollow" = some none := of_decide_eq_true h7
  have k8 : PySem.W.findIn K (.ref C) "kept_several" = some none := of_decide_eq_true h8
  have k9 : PySem.W.findIn K (.ref C) "kept_above" = some none := of_decide_eq_true h9
  exact ⟨⟨⟨h1, h2, h3, of_decide_eq_true h4⟩, k5, k6, k7, k8, k9⟩, ⟨hA, y, hB, hC⟩⟩
def prB (K : PySem.W.Frag) (p : Addr) : Bool := decide (PySem.W.specialIn K (.ref p) "__get__" = some (some (.builtin "property.__get__"))) && decide (PySem.W.takesIn K (.ref p) = some true)
def bkB (K : PySem.W.Frag) (C KE fI : Addr) : Bool := decide (PySem.W.findIn K (.ref C) "__setattr__" = some (some (.builtin "object.__setattr__"))) && (decide (PySem.W.typeIn K (.ref C) = some (.type "type")) && (PySem.W.keepIn K (.ref C) && (decide (PySem.W.findIn K (.ref C) "place" = some none) &&
  (decide (PySem.W.typeIn K (.ref fI) = some (.type "function")) && (excCB K C && (decide (PySem.W.kitOne K (.ref C) (.ref C) = some true) && decide (PySem.W.exmOne K (.ref C) (.ref KE) = some true)))))))
theorem bkB_ok {K : PySem.W.Frag} {mg : Str → Option Value} {C KE fI NN : Addr} {nm qq : Str} {bs : List Value} {sn : List Str} {sub : List Value} {ab : Bool} {col : Option Bool} {dd : Option Addr} {m0 m1 m2 m3 m5 : Option Value}
    (gB : mg "BadKinds" = some (.ref C)) (gK : mg "KindError" = some (.ref KE)) (y : PySem.W.findIn K (.ref C) "__init__" = some (some (.ref fI))) (tL : K.lookup C = some (excClassObj nm qq C NN bs [.ref KE, .type "ValueError", .type "Exception", .type "BaseException", .type "object"] true sn sub ab col dd m0 m1 m2 m3 m5 "ValueError.__new__")) (h : bkB K C KE fI = true) : BKC K mg C KE fI := by
  obtain ⟨h1, h⟩ := ba2 h
  obtain ⟨h2, h⟩ := ba2 h
  obtain ⟨h3, h⟩ := ba2 h
  obtain ⟨h4, h⟩ := ba2 h
  obtain ⟨h5, h⟩ := ba2 h
  obtain ⟨h6, h⟩ := ba2 h
  obtain ⟨h7, h8⟩ := ba2 h
  have x := excCB_ok h6
  exact ⟨⟨⟨nm, qq, NN, bs, _, sn, sub, ab, col, dd, m0, m1, m2, m3, m5, tL, rfl⟩, of_decide_eq_true h1, x.hs, of_decide_eq_true h2, h3⟩, of_decide_eq_true h4, y, of_decide_eq_true h5, ⟨x.hg, x.hk, x.hs, x.hd⟩, x, of_decide_eq_true h7, of_decide_eq_true h8, gB, gK⟩
theorem gt_mk {P : Program} {w : World} {K : PySem.W.Frag} {mg : Str → Option Value} {base : Heap} {C p g : Addr} {fd : FuncData} {n k : Str} {rs : List Value} (y : PySem.W.findIn K (.ref C) n = some (some (.ref p))) (o : prB K p = true) (r : PySem.W.recIn K p "property" = some (.ref g :: rs)) (G : FnOk P w K mg base CX0 1 g fd ["self"] (getSp C k)) (b : Binds K fd ["self"] []) : Gt P w K mg base C n k :=
  ⟨p, g, fd, ⟨y, of_decide_eq_true (ba2 o).1, of_decide_eq_true (ba2 o).2, ⟨rs, r⟩⟩, G, b⟩
/-! ### what the top has written -/
theorem all_mk {l : PySem.W.OpenLaw} {w : World} {K : PySem.W.Frag} {h : Heap} {mg : Str → Option Value} {fa fD fN fS fH fO fSo fF fM fR fP fB fT fL fnu fas fel fwe fwp fta fI fJ cC cB cK pg1 pg2 pg3 pg4 fg1 fg2 fg3 fg4 : Addr} (X : K.In h) (G : h.Ns mainGlobals mg) (hfa : mg "law" = some (.ref fa))
    (aD : PySem.W.nsIn K mainGlobals "_law_deck" = some (some (.ref fD)))
    {ocD kVD dcD pmD cdD ctD : Value} {odD anD : Option Addr} {slD : Array (Option Value)}
    (lD : K.lookup fD = some ⟨ocD, odD, .func (PySem.W.fnOf "_law_deck" "_law_deck" (defArgs sDeck) (defBody sDeck) (defScope sDeck) .none kVD dcD pmD anD cdD ctD), slD⟩)
    (xD : PySem.W.codeIn K cdD "_law_deck" = true)
    (kD : PySem.W.keepIn K (.ref fD) = true)
    (aN : PySem.W.nsIn K mainGlobals "_law_next" = some (some (.ref fN)))
    {ocN kVN dcN pmN cdN ctN : Value} {odN anN : Option Addr} {slN : Array (Option Value)}
    (lN : K.lookup fN = some ⟨ocN, odN, .func (PySem.W.fnOf "_law_next" "_law_next" (defArgs sNext) (defBody sNext) (defScope sNext) .none kVN dcN pmN anN cdN ctN), slN⟩)
    (xN : PySem.W.codeIn K cdN "_law_next" = true)
    (kN : PySem.W.keepIn K (.ref fN) = true)
    (aS : PySem.W.nsIn K mainGlobals "_law_same" = some (some (.ref fS)))
    {ocS kVS dcS pmS cdS ctS : Value} {odS anS : Option Addr} {slS : Array (Option Value)}
    (lS : K.lookup fS = some ⟨ocS, odS, .func (PySem.W.fnOf "_law_same" "_law_same" (defArgs sSame) (defBody sSame) (defScope sSame) .none kVS dcS pmS anS cdS ctS), slS⟩)
    (xS : PySem.W.codeIn K cdS "_law_same" = true)
    (kS : PySem.W.keepIn K (.ref fS) = true)
    (aH : PySem.W.nsIn K mainGlobals "_law_whole" = some (some (.ref fH)))
    {ocH kVH dcH pmH cdH ctH : Value} {odH anH : Option Addr} {slH : Array (Option Value)}
    (lH : K.lookup fH = some ⟨ocH, odH, .func (PySem.W.fnOf "_law_whole" "_law_whole" (defArgs sWhole) (defBody sWhole) (defScope sWhole) .none kVH dcH pmH anH cdH ctH), slH⟩)
    (xH : PySem.W.codeIn K cdH "_law_whole" = true)
    (kH : PySem.W.keepIn K (.ref fH) = true)
    (aO : PySem.W.nsIn K mainGlobals "_law_odd" = some (some (.ref fO)))
    {ocO kVO dcO pmO cdO ctO : Value} {odO anO : Option Addr} {slO : Array (Option Value)}
    (lO : K.lookup fO = some ⟨ocO, odO, .func (PySem.W.fnOf "_law_odd" "_law_odd" (defArgs sOdd) (defBody sOdd) (defScope sOdd) .none kVO dcO pmO anO cdO ctO), slO⟩)
    (xO : PySem.W.codeIn K cdO "_law_odd" = true)
    (kO : PySem.W.keepIn K (.ref fO) = true)
    (aSo : PySem.W.nsIn K mainGlobals "_law_some" = some (some (.ref fSo)))
    {ocSo kVSo dcSo pmSo cdSo ctSo : Value} {odSo anSo : Option Addr} {slSo : Array (Option Value)}
    (lSo : K.lookup fSo = some ⟨ocSo, odSo, .func (PySem.W.fnOf "_law_some" "_law_some" (defArgs sSome) (defBody sSome) (defScope sSome) .none kVSo dcSo pmSo anSo cdSo ctSo), slSo⟩)
    (xSo : PySem.W.codeIn K cdSo "_law_some" = true)
    (kSo : PySem.W.keepIn K (.ref fSo) = true)
    (aF : PySem.W.nsIn K mainGlobals "_law_four" = some (some (.ref fF)))
    {ocF kVF dcF pmF cdF ctF : Value} {odF anF : Option Addr} {slF : Array (Option Value)}
    (lF : K.lookup fF = some ⟨ocF, odF, .func (PySem.W.fnOf "_law_four" "_law_four" (defArgs sFour) (defBody sFour) (defScope sFour) .none kVF dcF pmF anF cdF ctF), slF⟩)
    (xF : PySem.W.codeIn K cdF "_law_four" = true)
    (kF : PySem.W.keepIn K (.ref fF) = true)
    (aM : PySem.W.nsIn K mainGlobals "_law_made" = some (some (.ref fM)))
    {ocM kVM dcM pmM cdM ctM : Value} {odM anM : Option Addr} {slM : Array (Option Value)}
    (lM : K.lookup fM = some ⟨ocM, odM, .func (PySem.W.fnOf "_law_made" "_law_made" (defArgs sMade) (defBody sMade) (defScope sMade) .none kVM dcM pmM anM cdM ctM), slM⟩)
    (xM : PySem.W.codeIn K cdM "_law_made" = true)
    (kM : PySem.W.keepIn K (.ref fM) = true)
    (aR : PySem.W.nsIn K mainGlobals "_law_rising" = some (some (.ref fR)))
    {ocR kVR dcR pmR cdR ctR : Value} {odR anR : Option Addr} {slR : Array (Option Value)}
    (lR : K.lookup fR = some ⟨ocR, odR, .func (PySem.W.fnOf "_law_rising" "_law_rising" (defArgs sRis) (defBody sRis) (defScope sRis) .none kVR dcR pmR anR cdR ctR), slR⟩)
    (xR : PySem.W.codeIn K cdR "_law_rising" = true)
    (kR : PySem.W.keepIn K (.ref fR) = true)
    (aP : PySem.W.nsIn K mainGlobals "_law_place" = some (some (.ref fP)))
    {ocP kVP dcP pmP cdP ctP : Value} {odP anP : Option Addr} {slP : Array (Option Value)}
    (lP : K.lookup fP = some ⟨ocP, odP, .func (PySem.W.fnOf "_law_place" "_law_place" (defArgs sPla) (defBody sPla) (defScope sPla) .none kVP dcP pmP anP cdP ctP), slP⟩)
    (xP : PySem.W.codeIn K cdP "_law_place" = true)
    (kP : PySem.W.keepIn K (.ref fP) = true)
    (aB : PySem.W.nsIn K mainGlobals "_law_bent" = some (some (.ref fB)))
    {ocB kVB dcB pmB cdB ctB : Value} {odB anB : Option Addr} {slB : Array (Option Value)}
    (lB : K.lookup fB = some ⟨ocB, odB, .func (PySem.W.fnOf "_law_bent" "_law_bent" (defArgs sBent) (defBody sBent) (defScope sBent) .none kVB dcB pmB anB cdB ctB), slB⟩)
    (xB : PySem.W.codeIn K cdB "_law_bent" = true)
    (kB : PySem.W.keepIn K (.ref fB) = true)
    (aT : PySem.W.nsIn K mainGlobals "_law_told" = some (some (.ref fT)))
    {ocT kVT dcT pmT cdT ctT : Value} {odT anT : Option Addr} {slT : Array (Option Value)}
    (lT : K.lookup fT = some ⟨ocT, odT, .func (PySem.W.fnOf "_law_told" "_law_told" (defArgs sTold) (defBody sTold) (defScope sTold) .none kVT dcT pmT anT cdT ctT), slT⟩)
    (xT : PySem.W.codeIn K cdT "_law_told" = true)
    (kT : PySem.W.keepIn K (.ref fT) = true)
    (aL : PySem.W.nsIn K mainGlobals "law" = some (some (.ref fL)))
    {ocL kVL dcL pmL cdL ctL : Value} {odL anL : Option Addr} {slL : Array (Option Value)}
    (lL : K.lookup fL = some ⟨ocL, odL, .func (PySem.W.fnOf "law" "law" (defArgs sLaw) (defBody sLaw) (defScope sLaw) .none kVL dcL pmL anL cdL ctL), slL⟩)
    (xL : PySem.W.codeIn K cdL "law" = true)
    (kL : PySem.W.keepIn K (.ref fL) = true)
    (anu : PySem.W.nsIn K mainGlobals "is_number" = some (some (.ref fnu)))
    {ocnu kVnu dcnu pmnu cdnu ctnu : Value} {odnu annu : Option Addr} {slnu : Array (Option Value)}
    (lnu : K.lookup fnu = some ⟨ocnu, odnu, .func (PySem.W.fnOf "is_number" "is_number" (defArgs sNum) (defBody sNum) (defScope sNum) .none kVnu dcnu pmnu annu cdnu ctnu), slnu⟩)
    (xnu : PySem.W.codeIn K cdnu "is_number" = true)
    (knu : PySem.W.keepIn K (.ref fnu) = true)
    (aas : PySem.W.nsIn K mainGlobals "is_ascending" = some (some (.ref fas)))
    {ocas kVas dcas pmas cdas ctas : Value} {odas anas : Option Addr} {slas : Array (Option Value)}
    (las : K.lookup fas = some ⟨ocas, odas, .func (PySem.W.fnOf "is_ascending" "is_ascending" (defArgs sAsc) (defBody sAsc) (defScope sAsc) .none kVas dcas pmas anas cdas ctas), slas⟩)
    (xas : PySem.W.codeIn K cdas "is_ascending" = true)
    (kas : PySem.W.keepIn K (.ref fas) = true)
    (ael : PySem.W.nsIn K mainGlobals "are_elders" = some (some (.ref fel)))
    {ocel kVel dcel pmel cdel ctel : Value} {odel anel : Option Addr} {slel : Array (Option Value)}
    (lel : K.lookup fel = some ⟨ocel, odel, .func (PySem.W.fnOf "are_elders" "are_elders" (defArgs sEld) (defBody sEld) (defScope sEld) .none kVel dcel pmel anel cdel ctel), slel⟩)
    (xel : PySem.W.codeIn K cdel "are_elders" = true)
    (kel : PySem.W.keepIn K (.ref fel) = true)
    (awe : PySem.W.nsIn K mainGlobals "wrong_elders" = some (some (.ref fwe)))
    {ocwe kVwe dcwe pmwe cdwe ctwe : Value} {odwe anwe : Option Addr} {slwe : Array (Option Value)}
    (lwe : K.lookup fwe = some ⟨ocwe, odwe, .func (PySem.W.fnOf "wrong_elders" "wrong_elders" (defArgs sWrE) (defBody sWrE) (defScope sWrE) .none kVwe dcwe pmwe anwe cdwe ctwe), slwe⟩)
    (xwe : PySem.W.codeIn K cdwe "wrong_elders" = true)
    (kwe : PySem.W.keepIn K (.ref fwe) = true)
    (awp : PySem.W.nsIn K mainGlobals "wrong_place" = some (some (.ref fwp)))
    {ocwp kVwp dcwp pmwp cdwp ctwp : Value} {odwp anwp : Option Addr} {slwp : Array (Option Value)}
    (lwp : K.lookup fwp = some ⟨ocwp, odwp, .func (PySem.W.fnOf "wrong_place" "wrong_place" (defArgs sWrP) (defBody sWrP) (defScope sWrP) .none kVwp dcwp pmwp anwp cdwp ctwp), slwp⟩)
    (xwp : PySem.W.codeIn K cdwp "wrong_place" = true)
    (kwp : PySem.W.keepIn K (.ref fwp) = true)
    (ata : PySem.W.nsIn K mainGlobals "table_above" = some (some (.ref fta)))
    {octa kVta dcta pmta cdta ctta : Value} {odta anta : Option Addr} {slta : Array (Option Value)}
    (lta : K.lookup fta = some ⟨octa, odta, .func (PySem.W.fnOf "table_above" "table_above" (defArgs sTab) (defBody sTab) (defScope sTab) .none kVta dcta pmta anta cdta ctta), slta⟩)
    (xta : PySem.W.codeIn K cdta "table_above" = true)
    (kta : PySem.W.keepIn K (.ref fta) = true)
    (nC : PySem.W.nsIn K mainGlobals "Kinds" = some (some (.ref cC)))
    (nB : PySem.W.nsIn K mainGlobals "BadKinds" = some (some (.ref cB)))
    (nK : PySem.W.nsIn K mainGlobals "KindError" = some (some (.ref cK)))
    (yI : PySem.W.findIn K (.ref cC) "__init__" = some (some (.ref fI)))
    {ocI kVI dcI pmI cdI ctI : Value} {odI anI : Option Addr} {slI : Array (Option Value)}
    (lI : K.lookup fI = some ⟨ocI, odI, .func (PySem.W.fnOf "__init__" "Kinds.__init__" (defArgs sIni) (defBody sIni) (defScope sIni) .none kVI dcI pmI anI cdI ctI), slI⟩)
    (xI : PySem.W.codeIn K cdI "Kinds.__init__" = true)
    (kI : PySem.W.keepIn K (.ref fI) = true)
    (yJ : PySem.W.findIn K (.ref cB) "__init__" = some (some (.ref fJ)))
    {ocJ kVJ dcJ pmJ cdJ ctJ : Value} {odJ anJ : Option Addr} {slJ : Array (Option Value)}
    (lJ : K.lookup fJ = some ⟨ocJ, odJ, .func (PySem.W.fnOf "__init__" "BadKinds.__init__" (defArgs sBK) (defBody sBK) (defScope sBK) .none kVJ dcJ pmJ anJ cdJ ctJ), slJ⟩)
    (xJ : PySem.W.codeIn K cdJ "BadKinds.__init__" = true)
    (kJ : PySem.W.keepIn K (.ref fJ) = true)
    (yg1 : PySem.W.findIn K (.ref cC) "elders" = some (some (.ref pg1)))
    {rsg1 : List Value}
    (rg1 : PySem.W.recIn K pg1 "property" = some (.ref fg1 :: rsg1))
    (og1 : prB K pg1 = true)
    {ocg1 kVg1 dcg1 pmg1 cdg1 ctg1 : Value} {odg1 ang1 : Option Addr} {slg1 : Array (Option Value)}
    (lg1 : K.lookup fg1 = some ⟨ocg1, odg1, .func (PySem.W.fnOf "elders" "Kinds.elders" (defArgs sGE) (defBody sGE) (defScope sGE) .none kVg1 dcg1 pmg1 ang1 cdg1 ctg1), slg1⟩)
    (xg1 : PySem.W.codeIn K cdg1 "Kinds.elders" = true)
    (kg1 : PySem.W.keepIn K (.ref fg1) = true)
    (yg2 : PySem.W.findIn K (.ref cC) "closed" = some (some (.ref pg2)))
    {rsg2 : List Value}
    (rg2 : PySem.W.recIn K pg2 "property" = some (.ref fg2 :: rsg2))
    (og2 : prB K pg2 = true)
    {ocg2 kVg2 dcg2 pmg2 cdg2 ctg2 : Value} {odg2 ang2 : Option Addr} {slg2 : Array (Option Value)}
    (lg2 : K.lookup fg2 = some ⟨ocg2, odg2, .func (PySem.W.fnOf "closed" "Kinds.closed" (defArgs sGC) (defBody sGC) (defScope sGC) .none kVg2 dcg2 pmg2 ang2 cdg2 ctg2), slg2⟩)
    (xg2 : PySem.W.codeIn K cdg2 "Kinds.closed" = true)
    (kg2 : PySem.W.keepIn K (.ref fg2) = true)
    (yg3 : PySem.W.findIn K (.ref cC) "hollow" = some (some (.ref pg3)))
    {rsg3 : List Value}
    (rg3 : PySem.W.recIn K pg3 "property" = some (.ref fg3 :: rsg3))
    (og3 : prB K pg3 = true)
    {ocg3 kVg3 dcg3 pmg3 cdg3 ctg3 : Value} {odg3 ang3 : Option Addr} {slg3 : Array (Option Value)}
    (lg3 : K.lookup fg3 = some ⟨ocg3, odg3, .func (PySem.W.fnOf "hollow" "Kinds.hollow" (defArgs sGH) (defBody sGH) (defScope sGH) .none kVg3 dcg3 pmg3 ang3 cdg3 ctg3), slg3⟩)
    (xg3 : PySem.W.codeIn K cdg3 "Kinds.hollow" = true)
    (kg3 : PySem.W.keepIn K (.ref fg3) = true)
    (yg4 : PySem.W.findIn K (.ref cC) "several" = some (some (.ref pg4)))
    {rsg4 : List Value}
    (rg4 : PySem.W.recIn K pg4 "property" = some (.ref fg4 :: rsg4))
    (og4 : prB K pg4 = true)
    {ocg4 kVg4 dcg4 pmg4 cdg4 ctg4 : Value} {odg4 ang4 : Option Addr} {slg4 : Array (Option Value)}
    (lg4 : K.lookup fg4 = some ⟨ocg4, odg4, .func (PySem.W.fnOf "several" "Kinds.several" (defArgs sGS) (defBody sGS) (defScope sGS) .none kVg4 dcg4 pmg4 ang4 cdg4 ctg4), slg4⟩)
    (xg4 : PySem.W.codeIn K cdg4 "Kinds.several" = true)
    (kg4 : PySem.W.keepIn K (.ref fg4) = true)
    (tC : kcB K cC fI = true)
    {nm qq : Str} {NN : Addr} {bs : List Value} {sn : List Str} {sub : List Value} {ab : Bool} {col : Option Bool} {dd : Option Addr} {m0 m1 m2 m3 m5 : Option Value}
    (tL : K.lookup cB = some (excClassObj nm qq cB NN bs [.ref cK, .type "ValueError", .type "Exception", .type "BaseException", .type "object"] true sn sub ab col dd m0 m1 m2 m3 m5 "ValueError.__new__"))
    (tB : bkB K cB cK fJ = true)
    (z_abs : PySem.W.nsIn K mainGlobals "abs" = some none)
    (z_len : PySem.W.nsIn K mainGlobals "len" = some none)
    (z_int : PySem.W.nsIn K mainGlobals "int" = some none)
    (z_isinstance : PySem.W.nsIn K mainGlobals "isinstance" = some none)
    (z_tuple : PySem.W.nsIn K mainGlobals "tuple" = some none)
    (z_list : PySem.W.nsIn K mainGlobals "list" = some none)
    (z_str : PySem.W.nsIn K mainGlobals "str" = some none)
    (z_bool : PySem.W.nsIn K mainGlobals "bool" = some none)
    (z_dict : PySem.W.nsIn K mainGlobals "dict" = some none)
    (z_zip : PySem.W.nsIn K mainGlobals "zip" = some none)
    (z_all : PySem.W.nsIn K mainGlobals "all" = some none)
    (z_repr : PySem.W.nsIn K mainGlobals "repr" = some none)
    (z_range : PySem.W.nsIn K mainGlobals "range" = some none)
    (z_set : PySem.W.nsIn K mainGlobals "set" = some none)
    (z_sorted : PySem.W.nsIn K mainGlobals "sorted" = some none)
    (z_enumerate : PySem.W.nsIn K mainGlobals "enumerate" = some none)
    {tl0 : Tok}
    (u0 : PySem.W.nsIn K mainGlobals "MAX_KINDS" = some (some (.int 6 tl0)))
    : ∃ fd : FuncData, (∀ (s : Shared) (v : Value), BindsTo s fd ⟨[v], []⟩ [("_law_script", v)]) ∧ ∀ base : Heap, K.In base → base.Ns mainGlobals mg → (∃ o, base.get? sysModules = some o) → FnG l.prog w K mg base 9 fa fd ["_law_script"] (spLaw K) := by
  have e := hfa.symm.trans (PySem.W.mg_of X G aL)
  cases e
  have FD := fun_mk (st := sDeck) lD xD kD
  have FN := fun_mk (st := sNext) lN xN kN
  have FS := fun_mk (st := sSame) lS xS kS
  have FH := fun_mk (st := sWhole) lH xH kH
  have FO := fun_mk (st := sOdd) lO xO kO
  have FSo := fun_mk (st := sSome) lSo xSo kSo
  have FF := fun_mk (st := sFour) lF xF kF
  have FM := fun_mk (st := sMade) lM xM kM
  have FR := fun_mk (st := sRis) lR xR kR
  have FP := fun_mk (st := sPla) lP xP kP
  have FB := fun_mk (st := sBent) lB xB kB
  have FT := fun_mk (st := sTold) lT xT kT
  have FL := fun_mk (st := sLaw) lL xL kL
  have Fnu := fun_mk (st := sNum) lnu xnu knu
  have Fas := fun_mk (st := sAsc) las xas kas
  have Fel := fun_mk (st := sEld) lel xel kel
  have Fwe := fun_mk (st := sWrE) lwe xwe kwe
  have Fwp := fun_mk (st := sWrP) lwp xwp kwp
  have Fta := fun_mk (st := sTab) lta xta kta
  have FI := fun_mk (st := sIni) lI xI kI
  have FJ := fun_mk (st := sBK) lJ xJ kJ
  have Fg1 := fun_mk (st := sGE) lg1 xg1 kg1
  have Fg2 := fun_mk (st := sGC) lg2 xg2 kg2
  have Fg3 := fun_mk (st := sGH) lg3 xg3 kg3
  have Fg4 := fun_mk (st := sGS) lg4 xg4 kg4
  have bD := FD.binds (ps := ["_law_script"]) fun _ _ _ _ _ _ us hl => match us, hl with | [_], _ => rfl
  have bN := FN.binds (ps := ["_law_deck_here", "_law_many"]) fun _ _ _ _ _ _ us hl => match us, hl with | [_, _], _ => rfl
  have bS := FS.binds (ps := ["_law_found", "_law_due"]) fun _ _ _ _ _ _ us hl => match us, hl with | [_, _], _ => rfl
  have bH := FH.binds (ps := ["_law_value"]) fun _ _ _ _ _ _ us hl => match us, hl with | [_], _ => rfl
  have bO := FO.binds (ps := ["_law_deck_here"]) fun _ _ _ _ _ _ us hl => match us, hl with | [_], _ => rfl
  have bSo := FSo.binds (ps := ["_law_deck_here", "_law_many", "_law_most"]) fun _ _ _ _ _ _ us hl => match us, hl with | [_, _, _], _ => rfl
  have bF := FF.binds (ps := ["_law_deck_here", "_law_most"]) fun _ _ _ _ _ _ us hl => match us, hl with | [_, _], _ => rfl
  have bM := FM.binds (ps := ["_law_four_here"]) fun _ _ _ _ _ _ us hl => match us, hl with | [_], _ => rfl
  have bR := FR.binds (ps := ["_law_value", "_law_many", "_law_most"]) fun _ _ _ _ _ _ us hl => match us, hl with | [_, _, _], _ => rfl
  have bP := FP.binds (ps := ["_law_four_here"]) fun _ _ _ _ _ _ us hl => match us, hl with | [_], _ => rfl
  have bB := FB.binds (ps := ["_law_deck_here", "_law_four_here"]) fun _ _ _ _ _ _ us hl => match us, hl with | [_, _], _ => rfl
  have bT := FT.binds (ps := ["_law_four_here"]) fun _ _ _ _ _ _ us hl => match us, hl with | [_], _ => rfl
  have bnu := Fnu.binds (ps := ["value"]) fun _ _ _ _ _ _ us hl => match us, hl with | [_], _ => rfl
  have bas := Fas.binds (ps := ["value", "limit"]) fun _ _ _ _ _ _ us hl => match us, hl with | [_, _], _ => rfl
  have bel := Fel.binds (ps := ["value", "kind", "several"]) fun _ _ _ _ _ _ us hl => match us, hl with | [_, _, _], _ => rfl
  have bwe := Fwe.binds (ps := ["elders", "several"]) fun _ _ _ _ _ _ us hl => match us, hl with | [_, _], _ => rfl
  have bwp := Fwp.binds (ps := ["elders", "closed", "hollow", "several"]) fun _ _ _ _ _ _ us hl => match us, hl with | [_, _, _, _], _ => rfl
  have bta := Fta.binds (ps := ["elders"]) fun _ _ _ _ _ _ us hl => match us, hl with | [_], _ => rfl
  have bI := FI.binds (ps := ["self", "elders", "closed", "hollow", "several"]) fun _ _ _ _ _ _ us hl => match us, hl with | [_, _, _, _, _], _ => rfl
  have bJ := FJ.binds (ps := ["self", "place"]) fun _ _ _ _ _ _ us hl => match us, hl with | [_, _], _ => rfl
  have bg1 := Fg1.binds (ps := ["self"]) fun _ _ _ _ _ _ us hl => match us, hl with | [_], _ => rfl
  have bg2 := Fg2.binds (ps := ["self"]) fun _ _ _ _ _ _ us hl => match us, hl with | [_], _ => rfl
  have bg3 := Fg3.binds (ps := ["self"]) fun _ _ _ _ _ _ us hl => match us, hl with | [_], _ => rfl
  have bg4 := Fg4.binds (ps := ["self"]) fun _ _ _ _ _ _ us hl => match us, hl with | [_], _ => rfl
  have gD := PySem.W.mg_of X G aD
  have gN := PySem.W.mg_of X G aN
  have gS := PySem.W.mg_of X G aS
  have gH := PySem.W.mg_of X G aH
  have gO := PySem.W.mg_of X G aO
  have gSo := PySem.W.mg_of X G aSo
  have gF := PySem.W.mg_of X G aF
  have gM := PySem.W.mg_of X G aM
  have gR := PySem.W.mg_of X G aR
  have gP := PySem.W.mg_of X G aP
  have gB := PySem.W.mg_of X G aB
  have gT := PySem.W.mg_of X G aT
  have gL := PySem.W.mg_of X G aL
  have gnu := PySem.W.mg_of X G anu
  have gas := PySem.W.mg_of X G aas
  have gel := PySem.W.mg_of X G ael
  have gwe := PySem.W.mg_of X G awe
  have gwp := PySem.W.mg_of X G awp
  have gta := PySem.W.mg_of X G ata
  have B : Bl mg := ⟨(PySem.W.mg_none_of X G z_abs), (PySem.W.mg_none_of X G z_len), (PySem.W.mg_none_of X G z_int), (PySem.W.mg_none_of X G z_isinstance), (PySem.W.mg_none_of X G z_tuple), (PySem.W.mg_none_of X G z_list), (PySem.W.mg_none_of X G z_str), (PySem.W.mg_none_of X G z_bool), (PySem.W.mg_none_of X G z_dict), (PySem.W.mg_none_of X G z_zip), (PySem.W.mg_none_of X G z_all), (PySem.W.mg_none_of X G z_repr), (PySem.W.mg_none_of X G z_range)⟩
  have M : Bm mg := ⟨(PySem.W.mg_none_of X G z_set), (PySem.W.mg_none_of X G z_sorted), (PySem.W.mg_none_of X G z_enumerate), ⟨tl0, PySem.W.mg_of X G u0⟩⟩
  obtain ⟨TC, MC⟩ := kcB_ok yI tC
  have TB : BKC K mg cB cK fJ := bkB_ok (PySem.W.mg_of X G nB) (PySem.W.mg_of X G nK) yJ tL tB
  have gC := PySem.W.mg_of X G nC
  refine ⟨PySem.W.fnOf "law" "law" (defArgs sLaw) (defBody sLaw) (defScope sLaw) .none kVL dcL pmL anL cdL ctL, fun s v => .of_eq rfl, fun base _ _ hsys => ?_⟩
  have GN : FnOk l.prog w K mg base CX0 1 fN _ ["_law_deck_here", "_law_many"] spNext := ok_next (k := 0) FN B.int B.len
  have GA : FnOk l.prog w K mg base CX0 2 fas _ ["value", "limit"] spAsc := ok_asc (k := 0) Fas B Fnu bnu gnu
  have GE : FnOk l.prog w K mg base CX0 3 fel _ ["value", "kind", "several"] spEld := ok_eld Fel B GA kas bas gas
  have GWE : FnOk l.prog w K mg base CX0 4 fwe _ ["elders", "several"] spWrE := ok_wrE Fwe M.enum GE kel bel gel
  have GWP : FnOk l.prog w K mg base CX0 5 fwp _ ["elders", "closed", "hollow", "several"] spWrP := ok_wrP Fwp B M GA kas bas gas GWE kwe bwe gwe
  have GTa : FnOk l.prog w K mg base CX0 1 fta _ ["elders"] spTab := ok_tab (k := 0) Fta B M
  have GJ : FnOk l.prog w K mg base CX0 1 fJ _ ["self", "place"] (spBK cB) := ok_bk (k := 0) FJ TB
  have GI : FnOk l.prog w K mg base (L2.CX l.prog w) 6 fI _ ["self", "elders", "closed", "hollow", "several"] (spIniX cC cB) := ok_iniX FI TC TB GJ bJ GWP kwp bwp gwp GTa kta bta gta
  have GSo : FnOk l.prog w K mg base CX0 2 fSo _ ["_law_deck_here", "_law_many", "_law_most"] spSome := ok_some FSo B GN kN bN gN
  have GF : FnOk l.prog w K mg base CX0 3 fF _ ["_law_deck_here", "_law_most"] spFour := ok_four FF B GN kN bN gN GSo kSo bSo gSo
  have GO : FnOk l.prog w K mg base CX0 2 fO _ ["_law_deck_here"] spOdd := ok_odd (k := 0) FO B FN bN gN
  have GB : FnOk l.prog w K mg base CX0 3 fB _ ["_law_deck_here", "_law_four_here"] spBent := ok_bent FB B GN kN bN gN GO kO bO gO
  have GH : FnOk l.prog w K mg base CX0 1 fH _ ["_law_value"] spNum := ok_whole (k := 0) FH B
  have GR : FnOk l.prog w K mg base CX0 2 fR _ ["_law_value", "_law_many", "_law_most"] spRis := ok_ris FR B M GH kH bH gH
  have GP : FnOk l.prog w K mg base CX0 3 fP _ ["_law_four_here"] spPla := ok_pla FP B GR kR bR gR
  have GT : FnOk l.prog w K mg base CX0 8 fT _ ["_law_four_here"] spTold := ok_told FT B TB MC GI bI gC
  have GM : FnOk l.prog w K mg base CX0 8 fM _ ["_law_four_here"] (spMade cC) := ok_madeX FM MC GI bI gC
  exact ok_law FL B TC hsys (ok_deck (k := 0) FD B.abs B.len) gD kD bD GN kN bN gN (ok_same FS B bS gS 7) gS kS bS GF gF kF bF GB gB kB bB GP gP kP bP GT gT kT bT GM gM kM bM
    (gt_mk yg1 og1 rg1 (ok_ge (k := 0) Fg1 TC) bg1) (gt_mk yg2 og2 rg2 (ok_gc (k := 0) Fg2 TC) bg2) (gt_mk yg3 og3 rg3 (ok_gh (k := 0) Fg3 TC) bg3) (gt_mk yg4 og4 rg4 (ok_gs (k := 0) Fg4 TC) bg4)
end Kc

set_option Elab.async false
set_option linter.all false
open PySem PySem.W PyProof.Rows
set_option maxRecDepth 100000 in
set_option maxHeartbeats 0 in
theorem PySem.Challenge.cw_kindstocome_k02_kinds_made_holds : PySem.Challenge.rw_kindstocome_k02_kinds_made.Holds := by
  w_on; o_law; k_head; (case hw => w_witness2)
  k_fill
  refine Kg.walkH (l := PySem.Challenge.rw_kindstocome_k02_kinds_made) (n := 63) (k := 9) (x := "_law_script") (sp := Kc.spLaw) ?I rfl (by decide) rfl ⟨rfl, by decide, by decide⟩ (fun w h Y => PySem.W.kIn_of Y) ?F (fun K H a ns hl _ _ hS => ⟨a, ns, rfl, hS, hl, fun _ => rfl⟩)
  case I => first | rfl | decide +kernel | kernel_rfl
  case F =>
    intro w mg fa h KX G hmg
    refine' Kc.all_mk KX G hmg ?aD ?lD ?xD ?kD ?aN ?lN ?xN ?kN ?aS ?lS ?xS ?kS ?aH ?lH ?xH ?kH ?aO ?lO ?xO ?kO ?aSo ?lSo ?xSo ?kSo ?aF ?lF ?xF ?kF ?aM ?lM ?xM ?kM ?aR ?lR ?xR ?kR ?aP ?lP ?xP ?kP ?aB ?lB ?xB ?kB ?aT ?lT ?xT ?kT ?aL ?lL ?xL ?kL ?anu ?lnu ?xnu ?knu ?aas ?las ?xas ?kas ?ael ?lel ?xel ?kel ?awe ?lwe ?xwe ?kwe ?awp ?lwp ?xwp ?kwp ?ata ?lta ?xta ?kta ?nC ?nB ?nK ?yI ?lI ?xI ?kI ?yJ ?lJ ?xJ ?kJ ?yg1 ?rg1 ?og1 ?lg1 ?xg1 ?kg1 ?yg2 ?rg2 ?og2 ?lg2 ?xg2 ?kg2 ?yg3 ?rg3 ?og3 ?lg3 ?xg3 ?kg3 ?yg4 ?rg4 ?og4 ?lg4 ?xg4 ?kg4 ?tC ?tL ?tB ?z_abs ?z_len ?z_int ?z_isinstance ?z_tuple ?z_list ?z_str ?z_bool ?z_dict ?z_zip ?z_all ?z_repr ?z_range ?z_set ?z_sorted ?z_enumerate ?u0
    (case aD => k_is)
    (case lD => k_is)
    (case xD => k_is)
    (case kD => k_is)
    (case aN => k_is)
    (case lN => k_is)
    (case xN => k_is)
    (case kN => k_is)
    (case aS => k_is)
    (case lS => k_is)
    (case xS => k_is)
    (case kS => k_is)
    (case aH => k_is)
    (case lH => k_is)
    (case xH => k_is)
    (case kH => k_is)
    (case aO => k_is)
    (case lO => k_is)
    (case xO => k_is)
    (case kO => k_is)
    (case aSo => k_is)
    (case lSo => k_is)
    (case xSo => k_is)
    (case kSo => k_is)
    (case aF => k_is)
    (case lF => k_is)
    (case xF => k_is)
    (case kF => k_is)
    (case aM => k_is)
    (case lM => k_is)
    (case xM => k_is)
    (case kM => k_is)
    (case aR => k_is)
    (case lR => k_is)
    (case xR => k_is)
    (case kR => k_is)
    (case aP => k_is)
    (case lP => k_is)
    (case xP => k_is)
    (case kP => k_is)
    (case aB => k_is)
    (case lB => k_is)
    (case xB => k_is)
    (case kB => k_is)
    (case aT => k_is)
    (case lT => k_is)
    (case xT => k_is)
    (case kT => k_is)
    (case aL => k_is)
    (case lL => k_is)
    (case xL => k_is)
    (case kL => k_is)
    (case anu => k_is)
    (case lnu => k_is)
    (case xnu => k_is)
    (case knu => k_is)
    (case aas => k_is)
    (case las => k_is)
    (case xas => k_is)
    (case kas => k_is)
    (case ael => k_is)
    (case lel => k_is)
    (case xel => k_is)
    (case kel => k_is)
    (case awe => k_is)
    (case lwe => k_is)
    (case xwe => k_is)
    (case kwe => k_is)
    (case awp => k_is)
    (case lwp => k_is)
    (case xwp => k_is)
    (case kwp => k_is)
    (case ata => k_is)
    (case lta => k_is)
    (case xta => k_is)
    (case kta => k_is)
    (case nC => k_is)
    (case nB => k_is)
    (case nK => k_is)
    (case yI => k_is)
    (case lI => k_is)
    (case xI => k_is)
    (case kI => k_is)
    (case yJ => k_is)
    (case lJ => k_is)
    (case xJ => k_is)
    (case kJ => k_is)
    (case yg1 => k_is)
    (case rg1 => k_is)
    (case og1 => kernel_rfl)
    (case lg1 => k_is)
    (case xg1 => k_is)
    (case kg1 => k_is)
    (case yg2 => k_is)
    (case rg2 => k_is)
    (case og2 => kernel_rfl)
    (case lg2 => k_is)
    (case xg2 => k_is)
    (case kg2 => k_is)
    (case yg3 => k_is)
    (case rg3 => k_is)
    (case og3 => kernel_rfl)
    (case lg3 => k_is)
    (case xg3 => k_is)
    (case kg3 => k_is)
    (case yg4 => k_is)
    (case rg4 => k_is)
    (case og4 => kernel_rfl)
    (case lg4 => k_is)
    (case xg4 => k_is)
    (case kg4 => k_is)
    (case tC => kernel_rfl)
    (case tL => k_is)
    (case tB => kernel_rfl)
    (case z_abs => k_is)
    (case z_len => k_is)
    (case z_int => k_is)
    (case z_isinstance => k_is)
    (case z_tuple => k_is)
    (case z_list => k_is)
    (case z_str => k_is)
    (case z_bool => k_is)
    (case z_dict => k_is)
    (case z_zip => k_is)
    (case z_all => k_is)
    (case z_repr => k_is)
    (case z_range => k_is)
    (case z_set => k_is)
    (case z_sorted => k_is)
    (case z_enumerate => k_is)
    (case u0 => k_is)
#print axioms PySem.Challenge.cw_kindstocome_k02_kinds_made_holds

