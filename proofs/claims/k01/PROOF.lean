import PyProof.Rows.All
import Wide.All
import OpenK.AllK
import Wide.FinOn
import PySem.Challenge.RW_kindstocome_k01_errors_and_limits
import HandS.ForMost
import HandS.EndBits
import PyProof.ReprRoads
import HandS.IsInst
import HandS.Zip
import HandS.Walk
import HandS.ForExc
import HandS.ExcInit
import HandS.ExcIs
import HandS.ExcField
import HandS.ExcValue
import KE.KExcInit
import KE.KExcIs
set_option Elab.async false
set_option linter.all false
set_option maxRecDepth 100000
set_option maxHeartbeats 4000000
/-! Defs that are promised where no repr is under way (so that repr of lists, tuples, dicts tells the whole text). -/
namespace Kg
open PySem PySem.Spec PyProof.Rows L2
/-- a def keeps sp wherever no repr runs around it -/
structure FnG (P : Program) (w : World) (K : PySem.W.Frag) (mg : Str → Option Value) (base : Heap) (k : Nat) (f : Addr) (fd : FuncData) (ps : List Str) (sp : Sp) : Prop where
  len : ∀ vs H Q E, sp vs H Q E → vs.length = ps.length
  go : ∀ (A : Around) (out : List Env) (s : Shared) (H : Hp) (ar : Args) (us : List Value) (vs : List V) (Q : VK), A.guards = some [] → Room k A → Env0 P w K mg base A out s H →
    BindsTo s fd ar (ps.zip us) → Vals vs us → sp vs H Q E0 → codeAny (model P w) A (.call (.ref f) ar) (CR CX0 out P w H s Q E0) s
section
variable {P : Program} {w : World} {K : PySem.W.Frag} {mg : Str → Option Value} {base : Heap} {k : Nat} {f : Addr} {fd : FuncData} {ps : List Str} {sp : Sp}
theorem FnG.mono {j : Nat} (F : FnG P w K mg base j f fd ps sp) (h : j ≤ k) : FnG P w K mg base k f fd ps sp :=
  ⟨F.len, fun A out s H ar us vs Q g r => F.go A out s H ar us vs Q g (r.mono h)⟩
/-- the rule for such a def: as Fun.ok, the body may lean on the guards -/
theorem okG {x qual : Str} {st : Stmt} {N : List Str} (F : Fun K x qual st f fd) (S : FnScope N ps (defScope st)) (len : ∀ vs H Q E, sp vs H Q E → vs.length = ps.length)
    (bd : ∀ (cdv : Value) (A : Around) (out : List Env) (s : Shared) (H : Hp) (vs : List V) (Q : VK), (A.deeper (envOfC qual (defScope st) s.heap.objs.size f cdv)).guards = some [] → Room k (A.deeper (envOfC qual (defScope st) s.heap.objs.size f cdv)) → sp vs H Q E0 →
      ∃ t, PSs (cxOf CX0 P w K mg base N qual (defScope st) f cdv A out s H E0).nox (defBody st) t ∧ t { nx := fun _ H' => Q .non H', rt := Q } (start N vs) H) : FnG P w K mg base (k + 1) f fd ps sp := by
  obtain ⟨oc, od, kV, dc, pm, an, cdv, ct, osl, rfl, lk, hcd⟩ := F.ex
  refine ⟨len, fun A out s H ar us vs Q hgu hro e0 hbi rv hs => ?_⟩
  have old : ∀ b o, base.get? b = some o → s.heap.get? b = some o := fun b o e => (e0.bs b o e).1
  have kin := e0.mod.kin.keeps old
  obtain ⟨t, ht, hq⟩ := bd cdv A out s H vs Q hgu (hro.deeper _) hs
  have par : ∀ y ∈ ps.zip us, (defScope st).names.lookup y.1 = some .local ∨ ((defScope st).names.lookup y.1 = some .cell ∧ ((cellsFrom (s.heap.objs.size + 1) (defScope st).names []).lookup y.1).isSome = true) := by
    intro y hy
    cases S.par y.1 (List.of_mem_zip (a := y.1) (b := y.2) hy).1 with
    | inl z => exact .inl z
    | inr z => exact .inr ⟨z, PySem.W.cellsFrom_some _ _ _ (.inl z)⟩
  refine codeAny_call_function hro.depth (kin f _ lk) rfl S.co S.gen rfl (PySem.W.codeRec_of kin hcd) (hbi _ _ _ _ (wpAny_newFunctionEnv_cells S.kind par fun env he s1 x => ?_))
  subst he
  refine ⟨(e0.mod.nolimit.keeps old).keeps x.toInCall.keep, codeAny_func (wpAny_mono (ht.nox.run [] s1 (start N vs) H _ (inv_start S hro.hd e0 (len _ _ _ _ hs) rv x) hq) (fun fl s' z => ?_) fun _ _ z => z)⟩
  match fl, z with
  | .ret _, ⟨v, _, H', J, r, q⟩ => exact ⟨v, H', J.os, J.bare, J.base, J.hok, r, q⟩
  | .next, ⟨_, H', J, q⟩ => exact ⟨V.non, H', J.os, J.bare, J.base, J.hok, rfl, q⟩
  | .brk, ⟨_, _, _, q⟩ => exact q.elim
  | .cont, ⟨_, _, _, q⟩ => exact q.elim
end
section
variable {X : Cx} {k : Nat} {f : Addr} {fd : FuncData} {ps : List Str} {sp : Sp} {x : Str} {p pos : Pos} {e : Expr} {es : List Expr} {t : TA}
/-- f(e, ..) of such a def, where no repr runs -/
theorem pe_callG (F : FnG X.prog X.w X.K X.mg X.base k f fd ps sp) (hgu : X.A.guards = some []) (hr : Room k X.A) (hg : Gl X x) (hm : X.mg x = some (.ref f)) (hk : PySem.W.keepIn X.K (.ref f) = true) (hb : Binds X.K fd ps [])
    (ha : PA X (e :: es) t) (hdb : (x == ("__debug__" : Str)) = false := by decide) (he : starEach (e :: es) X.env = (false, eval e X.env) :: starEach es X.env := by rfl) (hpl : (backTo pos (starEach es X.env)).any (·.1) = false := by rfl) :
    PE X (.Call (.Name x p) (e :: es) [] pos) (tCall sp [] E0 t) := by
  refine ⟨fun pins s σ H Q I h => wpAny_Call_Name_kw (ld_glob I hg hm (PySem.W.callWith_K (h₀ := X.base) I.ok.mod.kin hk (thn (ha.run pos pins s σ H _ I h) fun us s1 ⟨vs, H1, I1, r, q⟩ => ⟨I1.kIn, ?_⟩) he hpl) hdb)⟩
  have q' : sp vs H1 Q E0 := by rw [← List.append_nil vs]; exact q
  have hl : us.length = ps.length := (Vals.length r).symm.trans (F.len _ _ _ _ q')
  have bi := hb s1 us I1.kIn (by rw [List.append_nil]; exact hl)
  rw [List.append_nil] at bi
  refine wpAny_call (codeAny_mono (F.go X.A X.stack s1 H1 ⟨us, []⟩ us vs Q hgu hr I1.env0 bi r q') fun rs s' z => ?_)
  match rs, z with
  | .ok (.ret _), z => exact I1.after z
  | .ok .next, z => exact z.elim
  | .ok .brk, z => exact z.elim
  | .ok .cont, z => exact z.elim
  | .error _, z => exact z.elim
end
/-! ### the law's end -/
theorem endG {P : Program} {w : World} {K : PySem.W.Frag} {mg mb : Str → Option Value} {k : Nat} {fa a : Addr} {fd : FuncData} {x : Str} {sp : Sp} {s₁ : Shared} {vs : List Value} {ns : List Int}
    (KX : K.In s₁.heap) (hns : s₁.heap.Ns mainGlobals mg) (hb : s₁.heap.Ns builtinsNs mb) (hbb : ∀ x : Str, x ≠ "__name__" → mb x = bootBuiltins x) (hlim : s₁.heap.NoLimit) (hg : s₁.gens = #[])
    (ha : s₁.heap.get? a = some { cls := .type "list", data := .seq vs.toArray }) (hi : IntsAre vs ns) (hl : ns.length ≤ sizeLine) (hr : Room k callerA)
    (F : ∀ base : Heap, K.In base → base.Ns mainGlobals mg → FnG P w K mg base k fa fd [x] sp) (hbind : ∀ (s : Shared) (u : Value), BindsTo s fd ⟨[u], []⟩ [(x, u)])
    (hsp : ∀ H : Hp, Only H → SqL K H a (ns.map V.int) → sp [.ref a] H (fun v _ => v = .bl true) E0) :
    codeAny (model P w) callerA (.call (.ref fa) ⟨[.ref a], []⟩) (fun r s' => r = .ok (.ret (.bool true)) ∧ OldK s₁.heap s'.heap ∧ s'.os = s₁.os ∧ AllBare s'.gens) s₁ := by
  have main : ∀ H : Hp, Only H → SqL K H a (ns.map V.int) → HOk P w H s₁.heap → (∀ b o, H b = some o → b = a ∧ K.lookup a = none) →
      codeAny (model P w) callerA (.call (.ref fa) ⟨[.ref a], []⟩) (fun r s' => r = .ok (.ret (.bool true)) ∧ OldK s₁.heap s'.heap ∧ s'.os = s₁.os ∧ AllBare s'.gens) s₁ := by
    intro H only sq ok one
    have notD : ∀ {b : Addr} {o : Obj} {es : Array DictEntry} {n : Nat}, s₁.heap.get? b = some o → o.data = .dict es n → H b = none := by
      intro b o es n e d
      cases q : H b with
      | none => rfl
      | some u =>
        rw [(one b u q).1, ha] at e
        rw [← Option.some.inj e] at d
        exact nomatch d
    have hid : ∀ {b : Addr} {m : Str → Option Value}, s₁.heap.Ns b m → (hidT s₁.heap H).Ns b m := by
      intro b m z
      obtain ⟨o, es, n, e, d, r⟩ := z
      exact ⟨o, es, n, hidT_get e (notD e d), d, r⟩
    have kb : K.In (hidT s₁.heap H) := by
      intro b o e
      refine hidT_get (KX b o e) ?_
      cases q : H b with
      | none => rfl
      | some u =>
        obtain ⟨z1, z2⟩ := one b u q
        rw [z1, z2] at e
        exact nomatch e
    obtain ⟨mc, l1, l2⟩ := hlim
    have env : Env0 P w K mg (hidT s₁.heap H) callerA [] s₁ H :=
      { frames := rfl, mod := ⟨kb, hid hns, ⟨mb, hid hb, hbb⟩, ⟨mc, hid l1, l2⟩⟩, bs := fun b o e => of_hidT e, bsz := Nat.le_of_eq (hidT_size _ _), funs := trivial, frf := fun b z => (nomatch (show b ∈ ([] : List Addr) from z)), hok := ok, bare := .of_eq hg }
    refine codeAny_mono ((F _ kb (hid hns)).go callerA [] s₁ H ⟨[.ref a], []⟩ [.ref a] [.ref a] _ rfl hr env (hbind s₁ (.ref a)) (.cons rfl .nil) (hsp H only sq)) fun r s' z => ?_
    match r, z with
    | .error _, z => exact z.elim
    | .ok .next, z => exact z.elim
    | .ok .brk, z => exact z.elim
    | .ok .cont, z => exact z.elim
    | .ok (.ret u), ⟨v, H', zo, zb, un, ok', rv, ev⟩ =>
      have ev' : v = .bl true := ev
      rw [ev'] at rv
      have eu : u = Value.bool true := rv
      refine ⟨by rw [eu], OldK.of_keep fun b o e => ?_, zo, zb⟩
      cases q : H b with
      | none => exact un.keep b o e q (fun y => nomatch (show b ∈ ([] : List Addr) from y)) (fun y => nomatch y)
      | some u2 =>
        cases only b with
        | inl y => rw [q] at y; exact nomatch y
        | inr y =>
          obtain ⟨ob, xs, y⟩ := y
          have y1 : ObjOk P w H s₁.heap b (.frz ob (.lst xs)) := ok b _ y
          have y2 : ObjOk P w H' s'.heap b (.frz ob (.lst xs)) := ok' b _ (un.frzs b ob _ y)
          have y3 : some o = some ob := e.symm.trans y1.1
          rw [Option.some.inj y3]
          exact y2.1
  have rv := vals_ints hi
  cases hk : K.lookup a with
  | none =>
    let H0 : Hp := fun b => if b = a then some (.frz { cls := .type "list", data := .seq vs.toArray } (.lst (ns.map V.int))) else none
    have at0 : ∀ b o, H0 b = some o → b = a ∧ o = .frz { cls := .type "list", data := .seq vs.toArray } (.lst (ns.map V.int)) := by
      intro b o e
      by_cases z : b = a
      · exact ⟨z, (Option.some.inj ((if_pos z).symm.trans e)).symm⟩
      · exact nomatch ((if_neg z).symm.trans e)
    refine main H0 (fun b => ?_) (.inl (.inr ⟨_, if_pos rfl⟩)) (fun b o e => ?_) (fun b o e => ⟨(at0 b o e).1, hk⟩)
    · cases q : H0 b with
      | none => exact .inl rfl
      | some o => exact .inr ⟨_, _, by rw [(at0 b o q).2]⟩
    · obtain ⟨z1, z2⟩ := at0 b o e
      rw [z1, z2]
      exact ⟨ha, by rw [List.length_map]; exact hl, vs, _, rv, ha⟩
  | some o =>
    have eo : ({ cls := .type "list", data := .seq vs.toArray } : Obj) = o := Option.some.inj (ha.symm.trans (KX a o hk))
    rw [← eo] at hk
    refine main (fun _ => none) (fun _ => .inl rfl) (.inr ⟨_, vs.toArray, _, hk, rfl, rfl, rfl, ?_, by simpa using rv⟩) (fun b o e => nomatch (show (none : Option HO) = some o from e)) (fun b o e => nomatch (show (none : Option HO) = some o from e))
    rw [List.size_toArray, hi.length]; exact hl
/-- what k_head leaves, from the law's promise; the script's bits are told -/
theorem walkG {l : PySem.W.OpenLaw} {n k : Nat} {q : Program} {loose : List Str} {XP : (Str → Option Value) → Heap → Prop} {YP : World → Heap → Prop} {d : DefRec} {K : Params → PySem.W.Frag} {sp : PySem.W.Frag → Sp} {x : Str}
    (hn : l.most = some n) (hn2 : n ≤ sizeLine) (hdf : d.params.defaults = []) (hr : Room k callerA) (hY : ∀ (w : World) (h : Heap), YP w h → (K w.params).In h)
    (F : ∀ (w : World) (mg : Str → Option Value) (fa : Addr) (h : Heap), (K w.params).In h → h.Ns mainGlobals mg → mg d.name = some (.ref fa) →
      ∃ fd : FuncData, (∀ (s : Shared) (u : Value), BindsTo s fd ⟨[u], []⟩ [(x, u)]) ∧ ∀ base : Heap, (K w.params).In base → base.Ns mainGlobals mg → FnG l.prog w (K w.params) mg base k fa fd [x] (sp (K w.params)))
    (hsp : ∀ (K : PySem.W.Frag) (H : Hp) (a : Addr) (ns : List Int), ns.length ≤ n → (∀ z ∈ ns, Builtin.Int.intBits z ≤ 1048576) → Only H → SqL K H a (ns.map V.int) → sp K [.ref a] H (fun v _ => v = .bl true) E0) :
    PySem.W.WalkO q loose XP YP l.row.toRowW d [] (fun f vs => PySem.call f vs) := by
  refine Att.attach_callB hn hdf fun w s₀ s₁ mg mb fa o pm cd dc a vs ns G Y ho hd hcd hmg hobj hints hlen hbits hgen => ?_
  obtain ⟨fd, hbi, hF⟩ := F w mg fa _ (hY w _ Y) G.T.g hmg
  exact endG (hY w _ Y) G.T.g G.T.b G.T.builtins G.T.nolimit hgen hobj hints (Nat.le_trans hlen hn2) hr hF hbi fun H hO hS => hsp (K w.params) H a ns hlen hbits hO hS
end Kg

set_option Elab.async false
set_option linter.all false
set_option maxRecDepth 100000
set_option maxHeartbeats 4000000
/-! Data: what the laws draw and compare. -/
namespace Kd
open PySem PySem.Spec PyProof.Rows L2 Kg
/-- all that was tracked stands as it was, but for the places of ds -/
def Keep (ds : Addr → Prop) (H H' : Hp) : Prop := ∀ c o, H c = some o → ¬ ds c → H' c = some o
theorem Keep.refl (ds : Addr → Prop) (H : Hp) : Keep ds H H := fun _ _ h _ => h
theorem Keep.trans {ds : Addr → Prop} {H H1 H2 : Hp} (a : Keep ds H H1) (b : Keep ds H1 H2) : Keep ds H H2 := fun c o h n => b c o (a c o h n) n
theorem Keep.of_same {ds : Addr → Prop} {H H' : Hp} (a : Same H H') : Keep ds H H' := fun c o h _ => a c o h
theorem same_new {H : Hp} {p : Addr} {o : HO} (h : H p = none) : Same H (upd H p o) := fun b x e => by
  rw [upd_ne (ne_of_none e h)]; exact e
theorem Keep.put {ds : Addr → Prop} {H : Hp} {p : Addr} {o : HO} (h : ds p) : Keep ds H (upd H p o) := fun c x e n => by
  rw [upd_ne (fun z => n (by rw [z]; exact h))]; exact e
/-! a value and the datum that it is; none of its objects stands at a place of av -/
mutual
inductive Da (av : Addr → Prop) (H : Hp) : V → PyData → Prop
  | non : Da av H .non .none
  | bl (b : Bool) : Da av H (.bl b) (.bool b)
  | int (i : Int) : Da av H (.int i) (.int i)
  | str (x : Str) : Da av H (.str x) (.str x)
  | lst {a : Addr} {xs : List V} {ds : List PyData} : ¬ av a → H a = some (.lst xs) → xs.length ≤ 1000 → DaAll av H xs ds → Da av H (.ref a) (.list ds)
  | tup {a : Addr} {xs : List V} {ds : List PyData} : ¬ av a → H a = some (.tup xs) → xs.length ≤ 1000 → DaAll av H xs ds → Da av H (.ref a) (.tuple ds)
  | dc0 {a : Addr} : ¬ av a → H a = some (.dK []) → Da av H (.ref a) (.dict [])
  | dc1 {a : Addr} : ¬ av a → H a = some (.dK [(Sum.inl 0, V.int 1)]) → Da av H (.ref a) (.dict [(.int 0, .int 1)])
inductive DaAll (av : Addr → Prop) (H : Hp) : List V → List PyData → Prop
  | nil : DaAll av H [] []
  | cons {v : V} {vs : List V} {d : PyData} {ds : List PyData} : Da av H v d → DaAll av H vs ds → DaAll av H (v :: vs) (d :: ds)
end
mutual
theorem Da.keep {av : Addr → Prop} {H H' : Hp} (k : Keep av H H') : ∀ {v : V} {d : PyData}, Da av H v d → Da av H' v d
  | _, _, .non => .non
  | _, _, .bl b => .bl b
  | _, _, .int i => .int i
  | _, _, .str x => .str x
  | _, _, .lst n h z r => .lst n (k _ _ h n) z (DaAll.keep k r)
  | _, _, .tup n h z r => .tup n (k _ _ h n) z (DaAll.keep k r)
  | _, _, .dc0 n h => .dc0 n (k _ _ h n)
  | _, _, .dc1 n h => .dc1 n (k _ _ h n)
theorem DaAll.keep {av : Addr → Prop} {H H' : Hp} (k : Keep av H H') : ∀ {vs : List V} {ds : List PyData}, DaAll av H vs ds → DaAll av H' vs ds
  | _, _, .nil => .nil
  | _, _, .cons h r => .cons (Da.keep k h) (DaAll.keep k r)
end
theorem Da.same {av : Addr → Prop} {H H' : Hp} {v : V} {d : PyData} (h : Da av H v d) (k : Same H H') : Da av H' v d := h.keep (.of_same k)
mutual
theorem Da.sub {av bv : Addr → Prop} {H : Hp} (k : ∀ a, bv a → av a) : ∀ {v : V} {d : PyData}, Da av H v d → Da bv H v d
  | _, _, .non => .non
  | _, _, .bl b => .bl b
  | _, _, .int i => .int i
  | _, _, .str x => .str x
  | _, _, .lst n h l r => .lst (fun z => n (k _ z)) h l (DaAll.sub k r)
  | _, _, .tup n h l r => .tup (fun z => n (k _ z)) h l (DaAll.sub k r)
  | _, _, .dc0 n h => .dc0 (fun z => n (k _ z)) h
  | _, _, .dc1 n h => .dc1 (fun z => n (k _ z)) h
theorem DaAll.sub {av bv : Addr → Prop} {H : Hp} (k : ∀ a, bv a → av a) : ∀ {vs : List V} {ds : List PyData}, DaAll av H vs ds → DaAll bv H vs ds
  | _, _, .nil => .nil
  | _, _, .cons h r => .cons (Da.sub k h) (DaAll.sub k r)
end
theorem DaAll.length {av : Addr → Prop} {H : Hp} : ∀ {vs : List V} {ds : List PyData}, DaAll av H vs ds → vs.length = ds.length
  | _, _, .nil => rfl
  | _, _, .cons _ r => congrArg (· + 1) (DaAll.length r)
theorem DaAll.get {av : Addr → Prop} {H : Hp} : ∀ {vs : List V} {ds : List PyData} {i : Nat} {v : V}, DaAll av H vs ds → vs[i]? = some v → ∃ d, ds[i]? = some d ∧ Da av H v d
  | _, _, _, _, .nil, e => by simp at e
  | _, _, 0, _, .cons h _, e => ⟨_, rfl, by simp at e; rw [← e]; exact h⟩
  | _, _, i + 1, v, .cons _ r, e => by
    obtain ⟨d, h1, h2⟩ := DaAll.get (i := i) (v := v) r (by simpa using e)
    exact ⟨d, by simpa using h1, h2⟩
/-- no place at all -/
def nil : Addr → Prop := fun _ => False
theorem Da.nil {av : Addr → Prop} {H : Hp} {v : V} {d : PyData} (h : Da av H v d) : Da Kd.nil H v d := h.sub fun _ z => z.elim
/-! ### kinds of data -/
def tyN : PyData → String
  | .none => "NoneType"
  | .bool _ => "bool"
  | .int _ => "int"
  | .str _ => "str"
  | .list _ => "list"
  | .tuple _ => "tuple"
  | .dict _ => "dict"
def isTup : PyData → Bool | .tuple _ => true | _ => false
def isLst : PyData → Bool | .list _ => true | _ => false
def isSeq : PyData → Bool | .tuple _ => true | .list _ => true | _ => false
def isStr : PyData → Bool | .str _ => true | _ => false
def isBool : PyData → Bool | .bool _ => true | _ => false
def isInt : PyData → Bool | .int _ => true | .bool _ => true | _ => false
def isDct : PyData → Bool | .dict _ => true | _ => false
theorem kt_tup (d : PyData) : kitB (tyN d) "tuple" = some (isTup d) := by cases d <;> kernel_rfl
theorem kt_lst (d : PyData) : kitB (tyN d) "list" = some (isLst d) := by cases d <;> kernel_rfl
theorem kt_str (d : PyData) : kitB (tyN d) "str" = some (isStr d) := by cases d <;> kernel_rfl
theorem kt_bool (d : PyData) : kitB (tyN d) "bool" = some (isBool d) := by cases d <;> kernel_rfl
theorem kt_int (d : PyData) : kitB (tyN d) "int" = some (isInt d) := by cases d <;> kernel_rfl
theorem kt_dct (d : PyData) : kitB (tyN d) "dict" = some (isDct d) := by cases d <;> kernel_rfl
theorem kt_seq {K : PySem.W.Frag} (d : PyData) : PySem.W.kitAny K (.type (tyN d)) [.type "tuple", .type "list"] = some (isSeq d) := by
  cases d with
  | tuple xs => exact kitAny_cons (b := true) (kit_ty (kt_tup (.tuple xs))) (fun z => nomatch z) (fun _ => rfl)
  | list xs => exact kitAny_cons (b := false) (kit_ty (kt_tup (.list xs))) (fun _ => kitAny_cons (b := true) (kit_ty (kt_lst (.list xs))) (fun z => nomatch z) (fun _ => rfl)) (fun z => nomatch z)
  | none => exact kitAny_cons (b := false) (kit_ty (kt_tup .none)) (fun _ => kitAny_cons (b := false) (kit_ty (kt_lst .none)) (fun _ => kitAny_nil) (fun z => nomatch z)) (fun z => nomatch z)
  | bool x => exact kitAny_cons (b := false) (kit_ty (kt_tup (.bool x))) (fun _ => kitAny_cons (b := false) (kit_ty (kt_lst (.bool x))) (fun _ => kitAny_nil) (fun z => nomatch z)) (fun z => nomatch z)
  | int x => exact kitAny_cons (b := false) (kit_ty (kt_tup (.int x))) (fun _ => kitAny_cons (b := false) (kit_ty (kt_lst (.int x))) (fun _ => kitAny_nil) (fun z => nomatch z)) (fun z => nomatch z)
  | str x => exact kitAny_cons (b := false) (kit_ty (kt_tup (.str x))) (fun _ => kitAny_cons (b := false) (kit_ty (kt_lst (.str x))) (fun _ => kitAny_nil) (fun z => nomatch z)) (fun z => nomatch z)
  | dict x => exact kitAny_cons (b := false) (kit_ty (kt_tup (.dict x))) (fun _ => kitAny_cons (b := false) (kit_ty (kt_lst (.dict x))) (fun _ => kitAny_nil) (fun z => nomatch z)) (fun z => nomatch z)
theorem Da.ty {K : PySem.W.Frag} {av : Addr → Prop} {H : Hp} {v : V} {d : PyData} (h : Da av H v d) : TyX K H v (.type (tyN d)) := by
  cases h with
  | non => exact .base .non
  | bl b => exact .base (.bl b)
  | int i => exact .base (.int i)
  | str x => exact .base (.str x)
  | lst _ e _ _ => exact .base (.lst e)
  | tup _ e _ _ => exact .base (.tup e)
  | dc0 _ e => exact .base (.dK e)
  | dc1 _ e => exact .base (.dK e)
theorem Da.non_iff {av : Addr → Prop} {H : Hp} {v : V} {d : PyData} (h : Da av H v d) : decide (v = .non) = (match d with | .none => true | _ => false) := by
  cases h with
  | non => rfl
  | _ => exact decide_eq_false (fun z => nomatch z)
/-! ### repr of the dicts that the laws draw -/
theorem shows0 : (PyData.dict []).shown.length ≤ sizeLine := by decide +kernel
theorem shows1 : (PyData.dict [(.int 0, .int 1)]).shown.length ≤ sizeLine := by decide +kernel
section
variable {X : Cx}
def rRepr : List V → Hp → VK → Prop := fun xs H Q => ∃ (av : Addr → Prop) (v : V) (kvs : List (PyData × PyData)), xs = [v] ∧ Da av H v (.dict kvs) ∧ Q (.str (PyData.dict kvs).shown) H
theorem call_reprD (hg : X.A.guards = some []) (hu : X.A.units + 64 < cLine) : CallR X (.builtin "repr") rRepr := by
  intro pins s σ H xs us Q I r h
  obtain ⟨av, v, kvs, rfl, hd, q⟩ := h
  obtain ⟨u, rfl, rx⟩ := vals1 r
  cases hd with
  | @dc0 a _ e =>
    cases rx
    obtain ⟨_, hsys, vs, kv, o, es, ep, ho, hex, hdt, _, prs, _⟩ := (show ObjOk X.prog X.w H s.heap a (.dK []) from I.hok a _ e)
    cases kv
    have rd : Reads s.heap (.ref a) (.dict []) [a] := by
      have el : es.toList = [] := by cases hh : es.toList with
        | nil => rfl
        | cons _ _ => rw [hh] at prs; cases prs
      exact Reads.dict (as := []) (bs := []) ho hex.1 hdt (by rw [el]; exact .nil) (by rw [el]; exact .nil)
    exact repr_of_reads' rd (by decide +kernel) (fun _ z => by rw [List.mem_singleton.mp z] at hsys; simp at hsys) hg (by show X.A.units + (PyData.depthKv [] + 1 + 1) < cLine; show X.A.units + (0 + 1 + 1) < cLine; omega) (fun _ _ z => z) (fun h' u tk k => ⟨.str (PyData.dict []).shown, H, I.kept (t' := tk) k, ⟨u, rfl⟩, q⟩) shows0
  | @dc1 a _ e =>
    cases rx
    obtain ⟨_, hsys, vs, kv, o, es, ep, ho, hex, hdt, _, prs, _⟩ := (show ObjOk X.prog X.w H s.heap a (.dK [(Sum.inl 0, V.int 1)]) from I.hok a _ e)
    cases kv with
    | @cons p qv l1 l2 hh tt =>
      cases tt
      obtain ⟨e1, t1, e2⟩ := hh
      obtain ⟨qk, qw⟩ := qv
      have e1' : qk = Sum.inl 0 := e1.symm
      have e2' : qw = Value.int 1 t1 := e2
      subst e1' e2'
      have rd : Reads s.heap (.ref a) (.dict [(.int 0, .int 1)]) [a] := by
        cases hl : es.toList with
        | nil => rw [hl] at prs; cases prs
        | cons en er =>
          rw [hl] at prs
          cases prs with
          | cons z1 z2 z3 =>
            cases z3
            obtain ⟨tk, z1'⟩ := Value.isInt_shape (k := 0) (v := en.key) z1
            refine Reads.dict (as := []) (bs := []) ho hex.1 hdt ?_ ?_
            · rw [hl]
              show ReadsAll s.heap [en.key] [.int 0] ([] ++ [])
              rw [z1']
              exact .cons (.int 0 tk) .nil
            · rw [hl]
              show ReadsAll s.heap [en.val] [.int 1] ([] ++ [])
              rw [z2]
              exact .cons (.int 1 t1) .nil
      exact repr_of_reads' rd (by decide +kernel) (fun _ z => by rw [List.mem_singleton.mp z] at hsys; simp at hsys) hg (by show X.A.units + (PyData.depthKv [(.int 0, .int 1)] + 1 + 1) < cLine; show X.A.units + (0 + 1 + 1) < cLine; omega) (fun _ _ z => z) (fun h' u tk k => ⟨.str (PyData.dict [(.int 0, .int 1)]).shown, H, I.kept (t' := tk) k, ⟨u, rfl⟩, q⟩) shows1
end
/-! ### zip of two tuples, as a walk -/
theorem walk_zipT {K : PySem.W.Frag} {a b : Addr} {xs ys : List V} {n : Nat} (hn : n = min xs.length ys.length) : Walk (RZ.ItzT K a b) n (fun H => SqT K H a xs ∧ SqT K H b ys) (YPair (fun i => xs[i]?) (fun i => ys[i]?)) := by
  subst hn
  refine ⟨fun i _ hi z => ⟨xs, ys, xs[i]'(by omega), ys[i]'(by omega), z.1, z.2, by simp [show i < xs.length by omega], by simp [show i < ys.length by omega]⟩, fun _ z => ⟨xs, ys, z.1, z.2, by omega⟩, fun i H v H' _ z y => ?_⟩
  obtain ⟨T, x1, x2, g1, g2, g3, g4, g5⟩ := y
  exact ⟨T, x1, x2, g1, g2, g3, g4 xs z.1, g5 ys z.2⟩
/-! ### sameness, as the laws ask it -/
mutual
def sameD : PyData → PyData → Bool
  | .tuple ds, .tuple es => sameA ds es
  | .list ds, .list es => sameA ds es
  | .none, .none => true
  | .str x, .str y => decide (x = y)
  | .bool a, .bool b => decide (a = b)
  | .int i, .int j => decide (i = j)
  | .dict a, .dict b => decide ((PyData.dict a).shown = (PyData.dict b).shown)
  | _, _ => false
def sameA : List PyData → List PyData → Bool
  | [], [] => true
  | d :: ds, e :: es => sameD d e && sameA ds es
  | _, _ => false
end
mutual
theorem sameD_refl : ∀ d : PyData, sameD d d = true
  | .none => by simp [sameD]
  | .bool b => by simp [sameD]
  | .int i => by simp [sameD]
  | .str x => by simp [sameD]
  | .list ds => by simp [sameD, sameA_refl ds]
  | .tuple ds => by simp [sameD, sameA_refl ds]
  | .dict a => by simp [sameD]
theorem sameA_refl : ∀ ds : List PyData, sameA ds ds = true
  | [] => by simp [sameA]
  | d :: ds => by simp [sameA, sameD_refl d, sameA_refl ds]
end
/-- the answers at each place -/
def sameL : List PyData → List PyData → List Bool
  | d :: ds, e :: es => sameD d e :: sameL ds es
  | _, _ => []
theorem sameL_len : ∀ (ds es : List PyData), (sameL ds es).length = min ds.length es.length
  | [], _ => by simp [sameL]
  | _ :: _, [] => by simp [sameL]
  | _ :: ds, _ :: es => by simp [sameL, sameL_len ds es]
theorem sameL_get : ∀ (ds es : List PyData) (i : Nat) (d e : PyData), ds[i]? = some d → es[i]? = some e → (sameL ds es)[i]? = some (sameD d e)
  | [], _, _, _, _, h, _ => by simp at h
  | _ :: _, [], _, _, _, _, h => by simp at h
  | a :: ds, b :: es, 0, d, e, h, h2 => by simp at h h2; simp [sameL, h, h2]
  | a :: ds, b :: es, i + 1, d, e, h, h2 => by simp at h h2; simp [sameL, sameL_get ds es i d e h h2]
theorem sameA_eq : ∀ (ds es : List PyData), sameA ds es = (decide (ds.length = es.length) && (sameL ds es).all id)
  | [], [] => by simp [sameA, sameL]
  | [], _ :: _ => by simp [sameA]
  | _ :: _, [] => by simp [sameA]
  | d :: ds, e :: es => by
    simp only [sameA, sameL, sameA_eq ds es, List.length_cons, List.all_cons, id]
    by_cases h : ds.length = es.length
    · simp [h]
    · simp [h]
end Kd

set_option Elab.async false
set_option linter.all false
set_option maxRecDepth 100000
set_option maxHeartbeats 4000000
/-! Displays of data: an expression that makes a datum anew. -/
namespace Kd
open PySem PySem.Spec PyProof.Rows L2 Kg
def trk (H : Hp) : Addr → Prop := fun a => H a ≠ none
theorem trk_mono {H H' : Hp} (s : Same H H') : ∀ a, trk H a → trk H' a := fun a h z => h (s.free z)
theorem Keep.free {ds : Addr → Prop} {H H' : Hp} (k : Keep ds H H') (d : ∀ a, ds a → H' a ≠ none) {a : Addr} (h : H' a = none) : H a = none := by
  cases q : H a with
  | none => rfl
  | some o =>
    by_cases z : ds a
    · exact absurd h (d a z)
    · rw [k a o q z] at h; exact nomatch h
theorem pe_imp {X : Cx} {e : Expr} {t t' : TE} (h : PE X e t) (i : ∀ σ H Q, t' σ H Q → t σ H Q) : PE X e t' := ⟨fun pins s σ H Q I z => h.run pins s σ H Q I (i σ H Q z)⟩
theorem pa_imp {X : Cx} {es : List Expr} {t t' : TA} (h : PA X es t) (i : ∀ σ H Q, t' σ H Q → t σ H Q) : PA X es t' := ⟨fun pos pins s σ H Q I z => h.run pos pins s σ H Q I (i σ H Q z)⟩
/-- a datum, made anew -/
def tDat (d : PyData) : TE := fun _ H Q => ∀ v H', Same H H' → Da (trk H) H' v d → Q v H'
def tDats (ds : List PyData) : TA := fun _ H Q => ∀ vs H', Same H H' → DaAll (trk H) H' vs ds → Q vs H'
section
variable {X : Cx}
theorem pd_non {j pos} : PE X (.Constant .none j pos) (tDat .none) := pe_imp pe_non fun _ H _ z => z _ H (Same.refl H) .non
theorem pd_bl {b : Bool} {j pos} : PE X (.Constant (.bool b) j pos) (tDat (.bool b)) := pe_imp pe_bl fun _ H _ z => z _ H (Same.refl H) (.bl b)
theorem pd_int {i : Int} {j pos} : PE X (.Constant (.int i) j pos) (tDat (.int i)) := pe_imp pe_int fun _ H _ z => z _ H (Same.refl H) (.int i)
theorem pd_str {x : Str} {j pos} : PE X (.Constant (.str x) j pos) (tDat (.str x)) := pe_imp pe_str fun _ H _ z => z _ H (Same.refl H) (.str x)
theorem pd_neg {i : Int} {j p pos} : PE X (.UnaryOp .USub (.Constant (.int i) j p) pos) (tDat (.int (-i))) := pe_imp (pe_un un_neg pe_int) fun _ H _ z => ⟨i, rfl, z _ H (Same.refl H) (.int (-i))⟩
theorem pd_pow {a b : Int} {j p j2 p2 pos} (h : CPow a b) : PE X (.BinOp (.Constant (.int a) j p) .Pow (.Constant (.int b) j2 p2) pos) (tDat (.int (a ^ b.toNat))) := pe_imp (pe_op op_pow pe_int pe_int) fun _ H _ z => ⟨a, b, rfl, rfl, h, z _ H (Same.refl H) (.int (a ^ b.toNat))⟩
theorem pds_nil : PA X [] (tDats []) := pa_imp pa_nil fun _ H _ z => z _ H (Same.refl H) .nil
theorem pds_cons {e : Expr} {es : List Expr} {d : PyData} {ds : List PyData} (h : PE X e (tDat d)) (r : PA X es (tDats ds)) (hs : starEach (e :: es) X.env = (false, eval e X.env) :: starEach es X.env := by rfl) : PA X (e :: es) (tDats (d :: ds)) :=
  pa_imp (pa_cons h r hs) fun _ H _ z v H1 s1 hv vs H2 s2 hvs => z _ H2 (s1.trans s2) (.cons (hv.same s2) (hvs.sub (trk_mono s1)))
theorem pd_tup {es : List Expr} {ds : List PyData} {x1} {pos : Pos} (h : PA X es (tDats ds)) (hl : ds.length ≤ 1000 := by decide) : PE X (.Tuple es x1 pos) (tDat (.tuple ds)) :=
  pe_imp (pe_tup h) fun _ H _ z vs H1 s1 hvs => ⟨by rw [hvs.length]; exact Nat.le_of_lt (small1000 hl), fun p np => z _ _ (s1.trans (same_new np)) (.tup (fun c => c (s1.free np)) upd_same (by rw [hvs.length]; exact hl) (hvs.keep (.of_same (same_new np))))⟩
theorem pd_lst {es : List Expr} {ds : List PyData} {pos : Pos} (h : PA X es (tDats ds)) (hl : ds.length ≤ 1000 := by decide) : PE X (.List es pos) (tDat (.list ds)) :=
  pe_imp (pe_lst h) fun _ H _ z vs H1 s1 hvs => ⟨by rw [hvs.length]; exact Nat.le_of_lt (small1000 hl), fun p np => z _ _ (s1.trans (same_new np)) (.lst (fun c => c (s1.free np)) upd_same (by rw [hvs.length]; exact hl) (hvs.keep (.of_same (same_new np))))⟩
theorem pd_d0 {pos : Pos} : PE X (.Dict [] [] pos) (tDat (.dict [])) := pe_imp pe_dnewK fun _ H _ z p np => z _ _ (same_new np) (.dc0 (fun c => c np) upd_same)
theorem pd_d1 {j p j2 p2 pos} : PE X (.Dict [some (.Constant (.int 0) j p)] [.Constant (.int 1) j2 p2] pos) (tDat (.dict [(.int 0, .int 1)])) := by
  refine pe_imp (pe_disp (pps_cons pe_int pe_int pps_nil) (by rfl) (by rfl) (fun z => by cases z) (show 1 ≤ 15 by decide)) fun σ H Q z p np => ?_
  refine ⟨upd_same, [(Sum.inl 0, V.int 1)], rfl, by decide, ?_⟩
  refine z _ _ (fun b o e => ?_) (.dc1 (fun c => c np) (upd_same.trans ?_))
  · rw [upd_ne (ne_of_none e np), upd_ne (ne_of_none e np)]; exact e
  · rfl
end
/-! ### what is tracked stands apart from what is not -/
mutual
theorem Da.apart {av bv : Addr → Prop} {H : Hp} (k : ∀ a, bv a → H a = none) : ∀ {v : V} {d : PyData}, Da av H v d → Da bv H v d
  | _, _, .non => .non
  | _, _, .bl b => .bl b
  | _, _, .int i => .int i
  | _, _, .str x => .str x
  | _, _, .lst _ h l r => .lst (fun z => nomatch (k _ z).symm.trans h) h l (DaAll.apart k r)
  | _, _, .tup _ h l r => .tup (fun z => nomatch (k _ z).symm.trans h) h l (DaAll.apart k r)
  | _, _, .dc0 _ h => .dc0 (fun z => nomatch (k _ z).symm.trans h) h
  | _, _, .dc1 _ h => .dc1 (fun z => nomatch (k _ z).symm.trans h) h
theorem DaAll.apart {av bv : Addr → Prop} {H : Hp} (k : ∀ a, bv a → H a = none) : ∀ {vs : List V} {ds : List PyData}, DaAll av H vs ds → DaAll bv H vs ds
  | _, _, .nil => .nil
  | _, _, .cons h r => .cons (Da.apart k h) (DaAll.apart k r)
end
/-! ### displays that lean on something that stays -/
def Stays (pre : L2.St → Hp → Prop) : Prop := ∀ σ H H', Same H H' → pre σ H → pre σ H'
def tDatP (pre : L2.St → Hp → Prop) (d : PyData) : TE := fun σ H Q => pre σ H ∧ ∀ v H', Same H H' → Da (trk H) H' v d → Q v H'
def tDatsP (pre : L2.St → Hp → Prop) (ds : List PyData) : TA := fun σ H Q => pre σ H ∧ ∀ vs H', Same H H' → DaAll (trk H) H' vs ds → Q vs H'
section
variable {X : Cx} {pre : L2.St → Hp → Prop}
theorem pdp_of {e : Expr} {d : PyData} (h : PE X e (tDat d)) : PE X e (tDatP pre d) := pe_imp h fun _ _ _ z => z.2
theorem pdps_nil : PA X [] (tDatsP pre []) := pa_imp pds_nil fun _ _ _ z => z.2
theorem pdps_cons {e : Expr} {es : List Expr} {d : PyData} {ds : List PyData} (st : Stays pre) (h : PE X e (tDatP pre d)) (r : PA X es (tDatsP pre ds)) (hs : starEach (e :: es) X.env = (false, eval e X.env) :: starEach es X.env := by rfl) : PA X (e :: es) (tDatsP pre (d :: ds)) :=
  pa_imp (pa_cons h r hs) fun σ H _ z => ⟨z.1, fun v H1 s1 hv => ⟨st σ H H1 s1 z.1, fun vs H2 s2 hvs => z.2 _ H2 (s1.trans s2) (.cons (hv.same s2) (hvs.sub (trk_mono s1)))⟩⟩
theorem pdp_tup {es : List Expr} {ds : List PyData} {x1} {pos : Pos} (h : PA X es (tDatsP pre ds)) (hl : ds.length ≤ 1000 := by first | decide | simp) : PE X (.Tuple es x1 pos) (tDatP pre (.tuple ds)) :=
  pe_imp (pe_tup h) fun _ H _ z => ⟨z.1, fun vs H1 s1 hvs => ⟨by rw [hvs.length]; exact Nat.le_of_lt (small1000 hl), fun p np => z.2 _ _ (s1.trans (same_new np)) (.tup (fun c => c (s1.free np)) upd_same (by rw [hvs.length]; exact hl) (hvs.keep (.of_same (same_new np))))⟩⟩
theorem pdp_lst {es : List Expr} {ds : List PyData} {pos : Pos} (h : PA X es (tDatsP pre ds)) (hl : ds.length ≤ 1000 := by first | decide | simp) : PE X (.List es pos) (tDatP pre (.list ds)) :=
  pe_imp (pe_lst h) fun _ H _ z => ⟨z.1, fun vs H1 s1 hvs => ⟨by rw [hvs.length]; exact Nat.le_of_lt (small1000 hl), fun p np => z.2 _ _ (s1.trans (same_new np)) (.lst (fun c => c (s1.free np)) upd_same (by rw [hvs.length]; exact hl) (hvs.keep (.of_same (same_new np))))⟩⟩
end
end Kd

set_option Elab.async false
set_option linter.all false
set_option maxRecDepth 100000
set_option maxHeartbeats 4000000
/-! Exceptions of own classes as values: made, asked by isinstance, their fields read. -/
namespace Kx
open PySem PySem.Spec PyProof.Rows L2 Kg Kd
section
variable {X : Cx} {pins : List (Addr × Obj)} {σ : L2.St} {H : Hp} {s : Shared}
/-- one object is changed, another is laid -/
theorem inv_two {h' : Heap} {a dx : Addr} {oa od : HO} {φ : Heap → Prop} {tk : Nat} (I : Inv X pins σ H s) (e : H a = some (.ext φ)) (k : ∀ b o, b ≠ a → s.heap.get? b = some o → h'.get? b = some o) (dn : s.heap.objs.size ≤ dx)
    (there : ∃ o, h'.get? a = some o) (na : ObjOk X.prog X.w (upd (upd H dx od) a oa) h' a oa) (nd : ObjOk X.prog X.w (upd (upd H dx od) a oa) h' dx od) : Inv X pins σ (upd (upd H dx od) a oa) { s with heap := h', toks := tk } := by
  have hdx : H dx = none := I.hok.fresh dn
  have ndx : ∀ c u, H c = some u → c ≠ dx := fun c u z => ne_of_none z hdx
  have nol : ∀ c o, s.heap.get? c = some o → c ≠ dx := fun c o z w => Nat.lt_irrefl _ (Nat.lt_of_lt_of_le (w ▸ Heap.lt_size z) dn)
  have frA : ∀ c, H c = none → c ≠ a := fun c z w => by rw [w, e] at z; exact nomatch z
  have kd : ∀ c u, H c = some u → (∀ ψ, u ≠ .ext ψ) → upd (upd H dx od) a oa c = some u := fun c u z w => by
    have ca : c ≠ a := fun v => by rw [v, e] at z; exact w φ (Option.some.inj z).symm
    rw [upd_ne ca, upd_ne (ndx c u z)]; exact z
  have U : Un X.fs [] H (upd (upd H dx od) a oa) s.heap h' :=
    { keep := fun b o z n _ _ => k b o (frA b n) z
      slot := fun b o z n _ _ => ⟨o.slots, k b o (frA b n) z⟩
      free := fun b o z n _ => by rw [upd_ne (frA b n), upd_ne (nol b o z), n]
      there := fun b o z _ => by
        by_cases w : b = a
        · rw [w]; exact there
        · exact ⟨o, k b o w z⟩
      tups := fun b xs z => kd b _ z fun ψ w => nomatch w
      frzs := fun b o u z => kd b _ z fun ψ w => nomatch w
      tbls := fun b ps z => ⟨#[], by rw [kd b _ z fun ψ w => nomatch w]; simp⟩ }
  refine I.un U fun b u z => ?_
  by_cases wa : b = a
  · rw [wa, upd_same] at z
    rw [wa, ← Option.some.inj z]; exact na
  · rw [upd_ne wa] at z
    by_cases wd : b = dx
    · rw [wd, upd_same] at z
      rw [wd, ← Option.some.inj z]; exact nd
    · rw [upd_ne wd] at z
      refine (I.hok b u z).stay (fun c o hc y => k c o (fun w => ?_) y) (fun c y => kd c _ y fun ψ w => nomatch w) (fun c xs y => kd c _ y fun ψ w => nomatch w)
      rcases hc with hc | hc
      · exact wa (hc.symm.trans w)
      · rw [w, e] at hc; exact nomatch hc
end
/-! ### a class without an __init__ of its own: X() -/
theorem pe_exc0 {X : Cx} {C : Addr} {bmB : List Value} {B newId initId : String} {x : Str} {p pos : Pos} (F : ExcBaseFacts B newId initId bmB) (q : PySem.W.excIn X.K C bmB newId = true) (gC : X.mg x = some (.ref C)) (kC : PySem.W.keepIn X.K (.ref C) = true) (hg : Gl X x)
    (hdb : (x == ("__debug__" : Str)) = false := by decide) : PE X (.Call (.Name x p) [] [] pos) (fun σ H Q => ∀ a, H a = none → Q (.ref a) (upd H a (exo a C none))) := by
  refine ⟨fun pins s σ H Q I h => wpAny_Call_Name_kw (ld_glob I hg gC (PySem.W.callWith_K0 I.kIn kC ?_) hdb)⟩
  obtain ⟨bm, N, nm, qn, bs, hd, sn, sub, ab, col, dd, k0, k1, k2, k3, k5, mN, hC, hN, hni, T⟩ := exc_obj I.kIn q
  refine wpAny_call_exc_subT (rest := []) F T hC hN hni (fun h' a M => ?_) (show 0 ≤ sizeLine by decide)
  obtain ⟨t, ht, _⟩ := M.there
  have hn : H a = none := I.hok.gone M.new
  exact ⟨.ref a, upd H a (exo a C none), I.laidN M.keeps M.new hn (exo_ok ht), rfl, h a hn⟩
/-! ### a class with an __init__ of its own: X(e, ..) -/
def tMkV (C : Addr) (sp : Sp) (ta : TA) : TE := fun σ H Q => ta σ H fun vs H1 => vs.length ≤ 1000 ∧ ∀ a, H1 a = none → sp (.ref a :: vs) (upd H1 a (exo a C none)) (fun v H2 => v = .non ∧ Q (.ref a) H2) E0
structure MkX (K : PySem.W.Frag) (C fI : Addr) (bmB : List Value) (newId : String) : Prop where
  cls : PySem.W.excInitIn K C bmB newId = true
  ini : PySem.W.findIn K (.ref C) "__init__" = some (some (.ref fI))
  fn : PySem.W.typeIn K (.ref fI) = some (.type "function")
  kp : PySem.W.keepIn K (.ref C) = true
theorem pe_mkV {X : Cx} {C fI : Addr} {bmB : List Value} {B newId initId : String} {x : Str} {p pos : Pos} {e : Expr} {es : List Expr} {ta : TA} {k : Nat} {fd : FuncData} {ps : List Str} {sp : Sp} (FB : ExcBaseFacts B newId initId bmB) (M : MkX X.K C fI bmB newId)
    (G : FnOk X.prog X.w X.K X.mg X.base CX0 k fI fd ps sp) (hr : Room (k + 1) X.A) (hb : Binds X.K fd ps []) (hg : Gl X x) (gC : X.mg x = some (.ref C)) (ha : PA X (e :: es) ta)
    (hdb : (x == ("__debug__" : Str)) = false := by decide) (he : starEach (e :: es) X.env = (false, eval e X.env) :: starEach es X.env := by rfl) (hpl : (backTo pos (starEach es X.env)).any (·.1) = false := by rfl) :
    PE X (.Call (.Name x p) (e :: es) [] pos) (tMkV C sp ta) := by
  refine ⟨fun pins s σ H Q I h => wpAny_Call_Name_kw (ld_glob I hg gC (PySem.W.callWith_K (h₀ := X.base) I.ok.mod.kin M.kp (thn (ha.run pos pins s σ H _ I h) fun us s1 ⟨vs, H1, I1, rv, hz, q1⟩ => ⟨I1.kIn, ?_⟩) he hpl) hdb)⟩
  obtain ⟨nm, N, qn, bs, bm, hd, sn, sub, ab, col, dd, k0, k1, k2, k3, k5, hC, hT⟩ := PySem.W.excInit_of I1.kIn M.cls
  obtain ⟨hp, g, dr, tk, os⟩ := s1
  have big : hp.objs.size ≤ hp.objs.size + 1 := Nat.le_succ _
  have spq := q1 (hp.objs.size + 1) (I1.hok.fresh big)
  have old : ∀ b o, hp.get? b = some o → ((hp.push (PySem.W.kdv_tup us)).push (PySem.HandSPX.excO C hp.objs.size)).get? b = some o := fun b o z => Heap.get?_push_of_some _ (Heap.get?_push_of_some _ z)
  have new : ((hp.push (PySem.W.kdv_tup us)).push (PySem.HandSPX.excO C hp.objs.size)).get? (hp.objs.size + 1) = some (PySem.HandSPX.excO C hp.objs.size) := by heap_get
  have J : Inv X pins σ (upd H1 (hp.objs.size + 1) (exo (hp.objs.size + 1) C none)) ⟨(hp.push (PySem.W.kdv_tup us)).push (PySem.HandSPX.excO C hp.objs.size), g, dr, tk, os⟩ :=
    I1.laid (t' := tk) (o := exo (hp.objs.size + 1) C none) old big (exo_ok new)
  have rv2 : Vals (V.ref (hp.objs.size + 1) :: vs) (Value.ref (hp.objs.size + 1) :: us) := .cons rfl rv
  have hlen : (Value.ref (hp.objs.size + 1) :: us).length = ps.length := (Vals.length rv2).symm.trans (G.len _ _ _ _ spq)
  have bi := hb ⟨(hp.push (PySem.W.kdv_tup us)).push (PySem.HandSPX.excO C hp.objs.size), g, dr, tk, os⟩ (Value.ref (hp.objs.size + 1) :: us) J.kIn (by rw [List.append_nil]; exact hlen)
  rw [List.append_nil] at bi
  have small : us.length ≤ sizeLine := by rw [← Paired.length rv, sizeLine_eq]; omega
  refine wpAny_call (PySem.HandSPX.call_own FB hT hC (PySem.W.looks_findIn I1.kIn M.ini) (fun self => PySem.W.bind_fn I1.kIn self M.fn) small
    (codeAny_mono (G.run _ X.stack _ _ ⟨Value.ref (hp.objs.size + 1) :: us, []⟩ _ _ _ E0 (hr.make C us []) (J.env0.make C us []) bi rv2 spq) fun r s' z => ?_))
  match r, z with
  | .error _, z => exact z.elim
  | .ok .next, z => exact z.elim
  | .ok .brk, z => exact z.elim
  | .ok .cont, z => exact z.elim
  | .ok (.ret u), z =>
    obtain ⟨v, H2, J2, ru, ev, q2⟩ := J.after z
    rw [ev] at ru
    exact ⟨ru, ⟨V.ref (hp.objs.size + 1), H2, J2, rfl, q2⟩⟩
/-! ### self.f = y of an exception that has no field yet, over any base -/
structure StX (K : PySem.W.Frag) (C : Addr) (bmB : List Value) : Prop where
  ov : PySem.W.excOver K C bmB = true
  hd : PySem.W.hasDictIn K C = true
  sa : PySem.W.findIn K (.ref C) "__setattr__" = some (some (.builtin "object.__setattr__"))
theorem stx_new {X : Cx} {pins : List (Addr × Obj)} {σ : L2.St} {H : Hp} {s : Shared} {a C : Addr} {bmB : List Value} {B : String} {f : Str} {y : V} {u : Value} {Q : Unit → Shared → Prop} {E : Value → Shared → Prop} {A : Around}
    (SF : StoreFacts B bmB "object.__setattr__" "object") (T : StX X.K C bmB) (I : Inv X pins σ H s) (e : H a = some (exo a C none)) (ht : PySem.W.takerIn X.K C f = some none) (ry : RelV y u)
    (h : ∀ dx s', H dx = none → dx ≠ a → Inv X pins σ (upd (upd H dx (exd dx [(f, y)])) a (exo a C (some dx))) s' → Q () s') : wpAny (model X.prog X.w) A (setAttr (.ref a) f u) Q E s := by
  obtain ⟨t1, ho⟩ := exo_at I.hok e
  obtain ⟨cd, hc, hd'⟩ := PySem.W.any_some T.hd
  obtain ⟨hp, g, d, t, os⟩ := s
  have K1 := I.kIn
  have hxs : a ≠ hp.objs.size := Nat.ne_of_lt (Heap.lt_size ho)
  refine PySem.W.set_plain K1 (od := none) ⟨ho, rfl, rfl, trivial⟩ T.sa (PySem.W.osa_openX (s := ⟨hp, g, d, t + 1, os⟩) (od := none) SF K1 ⟨ho, rfl, rfl, trivial⟩ T.ov ht fun b => ?_)
  refine wpAny_bind (wpAny_pure (wpAny_bind (PySem.W.instanceDict_exc (c2 := .none) ho (PySem.W.looks_clsIn K1 hc) hd' ?_)))
  have hx1 : (hp.push (PySem.W.dictOf [] 0)).get? a = _ := Heap.get?_push_of_some _ ho
  refine PySem.HandSPX.store_in_new (hp := (hp.push (PySem.W.dictOf [] 0)).update a fun o => { o with dict := some hp.objs.size }) (dx := hp.objs.size) ⟨_, #[], 0, (Heap.get?_update_ne _ _ _ _ hxs.symm).trans (Heap.get?_push_at rfl rfl), rfl, fun en he => absurd he (by simp), fun _ => rfl⟩ fun h' tk' hn hs => ?_
  have hx : h'.get? a = some { cls := .ref C, dict := some hp.objs.size, data := .fields #[.ref t1, .none, .none, .none, .bool false, .none] } := (hs.2 a hxs).trans (Heap.get?_update_self _ hx1 rfl)
  refine h hp.objs.size _ (I.hok.fresh (Nat.le_refl _)) hxs.symm (inv_two (I.tok (t + 1)) e (fun b o hb z => ?_) (Nat.le_refl _) ⟨_, hx⟩ (exo_ok hx) (exd_ok hn (relO_put (fs := []) ry fun _ => True.intro)))
  exact (hs.2 b (Nat.ne_of_lt (Heap.lt_size z))).trans ((Heap.get?_update_ne _ _ _ _ hb).trans (Heap.get?_push_of_some _ z))
/-- self.f = e, the first field -/
def tStx (K : PySem.W.Frag) (bmB : List Value) (f : Str) (to te : TE) : TS := fun D σ H => te σ H fun y H1 => to σ H1 fun x H2 => ∃ a C : Addr, x = .ref a ∧ StX K C bmB ∧ PySem.W.takerIn K C f = some none ∧ H2 a = some (exo a C none) ∧
  ∀ dx, H2 dx = none → dx ≠ a → D.nx σ (upd (upd H2 dx (exd dx [(f, y)])) a (exo a C (some dx)))
theorem ps_stx {X : Cx} {o e : Expr} {to te : TE} {f : Str} {p' pos : Pos} {bmB : List Value} {B : String} (SF : StoreFacts B bmB "object.__setattr__" "object") (ho : PE X o to) (he : PE X e te) (hs : swapsWith e (some (.Attribute o f p')) pos.line X.env = pure false := by rfl) :
    PS X (.Assign [.Attribute o f p'] e pos) (tStx X.K bmB f to te) := by
  refine ⟨fun pins s σ H D I h => plainObj_wpAny_Assign_Attribute (thn (he.run pins s σ H _ I h) fun v s1 ⟨y, H1, I1, r1, q1⟩ => thn (ho.run pins s1 σ H1 _ I1 q1) fun u s2 ⟨x, H2, I2, r2, a, C, ex, T, ht, ea, q⟩ => ?_) hs⟩
  subst ex
  cases r2
  exact stx_new SF T I2 ea ht r1 fun dx s' n ne J => ⟨σ, _, J, q dx n ne⟩
/-! ### a further field -/
theorem stx_old {X : Cx} {pins : List (Addr × Obj)} {σ : L2.St} {H : Hp} {s : Shared} {a C dx : Addr} {bmB : List Value} {B : String} {f : Str} {y : V} {u : Value} {fs : List (Str × V)} {Q : Unit → Shared → Prop} {E : Value → Shared → Prop} {A : Around}
    (SF : StoreFacts B bmB "object.__setattr__" "object") (T : StX X.K C bmB) (I : Inv X pins σ H s) (e : H a = some (exo a C (some dx))) (ed : H dx = some (exd dx fs)) (hl : fs.length ≤ 900) (ht : PySem.W.takerIn X.K C f = some none) (ry : RelV y u)
    (h : ∀ s', Inv X pins σ (upd H dx (exd dx ((f, y) :: fs))) s' → Q () s') : wpAny (model X.prog X.w) A (setAttr (.ref a) f u) Q E s := by
  obtain ⟨t1, ho⟩ := exo_at I.hok e
  obtain ⟨mA, hns, rel⟩ := exd_at I.hok ed
  obtain ⟨cd, hc, hd'⟩ := PySem.W.any_some T.hd
  obtain ⟨hp, g, d, t, os⟩ := s
  have K1 := I.kIn
  have hw := within_of rel
  obtain ⟨oD, _, _, hoD, _⟩ := id hns
  refine PySem.W.set_plain K1 (od := some oD) ⟨ho, rfl, rfl, hoD⟩ T.sa (PySem.W.osa_openX (s := ⟨hp, g, d, t + 1, os⟩) (od := some oD) SF K1 ⟨ho, rfl, rfl, hoD⟩ T.ov ht fun b => ?_)
  refine wpAny_bind (wpAny_pure (wpAny_bind (wpAny_bind (wpAny_loadPart ho (wpAny_bind ((PySem.W.looks_clsIn K1 hc).at ?_))))))
  rw [hd']
  refine wpAny_pure (a := some dx) (PySem.OEX.store_in_old hns hw (by rw [List.length_map]; omega) fun h' tk' hn hs => ?_)
  have th : ∃ o, h'.get? dx = some o := by
    obtain ⟨o, _, _, z, _⟩ := hn
    exact ⟨o, z⟩
  exact h _ ((I.tok (t + 1)).write (t' := tk') (x := dx) (e := dx) (o := exd dx ((f, y) :: fs)) (by rw [ed]; exact True.intro) (.inl rfl) (fun b o hb z => (hs.2 b hb).trans z) th (exd_ok hn (relO_put ry rel)))
def tStx2 (K : PySem.W.Frag) (bmB : List Value) (f : Str) (to te : TE) : TS := fun D σ H => te σ H fun y H1 => to σ H1 fun x H2 => ∃ (a C dx : Addr) (fs : List (Str × V)), x = .ref a ∧ StX K C bmB ∧ PySem.W.takerIn K C f = some none ∧ H2 a = some (exo a C (some dx)) ∧ H2 dx = some (exd dx fs) ∧ fs.length ≤ 900 ∧
  D.nx σ (upd H2 dx (exd dx ((f, y) :: fs)))
theorem ps_stx2 {X : Cx} {o e : Expr} {to te : TE} {f : Str} {p' pos : Pos} {bmB : List Value} {B : String} (SF : StoreFacts B bmB "object.__setattr__" "object") (ho : PE X o to) (he : PE X e te) (hs : swapsWith e (some (.Attribute o f p')) pos.line X.env = pure false := by rfl) :
    PS X (.Assign [.Attribute o f p'] e pos) (tStx2 X.K bmB f to te) := by
  refine ⟨fun pins s σ H D I h => plainObj_wpAny_Assign_Attribute (thn (he.run pins s σ H _ I h) fun v s1 ⟨y, H1, I1, r1, q1⟩ => thn (ho.run pins s1 σ H1 _ I1 q1) fun u s2 ⟨x, H2, I2, r2, a, C, dx, fs, ex, T, ht, ea, ed, hl, q⟩ => ?_) hs⟩
  subst ex
  cases r2
  exact stx_old SF T I2 ea ed hl ht r1 fun s' J => ⟨σ, _, J, q⟩
/-! ### what stands there -/
/-- an exception of the class C at a; its fields -/
def Exv (H : Hp) (a C : Addr) (fs : List (Str × V)) : Prop := (fs = [] ∧ H a = some (exo a C none)) ∨ ∃ d, H a = some (exo a C (some d)) ∧ H d = some (exd d fs)
theorem Exv.same {H H' : Hp} {a C : Addr} {fs : List (Str × V)} (h : Exv H a C fs) (s : Same H H') : Exv H' a C fs := by
  rcases h with ⟨e, h⟩ | ⟨d, h1, h2⟩
  · exact .inl ⟨e, s _ _ h⟩
  · exact .inr ⟨d, s _ _ h1, s _ _ h2⟩
section
variable {X : Cx} {pins : List (Addr × Obj)} {σ : L2.St} {H : Hp} {s : Shared}
theorem Exv.inst {a C : Addr} {fs : List (Str × V)} (h : Exv H a C fs) (I : Inv X pins σ H s) : ∃ ox od, PySem.W.InstAt s.heap a ox C od := by
  rcases h with ⟨_, h⟩ | ⟨d, h1, h2⟩
  · obtain ⟨t1, ho⟩ := exo_at I.hok h
    exact ⟨_, none, ⟨ho, rfl, rfl, trivial⟩⟩
  · obtain ⟨t1, ho⟩ := exo_at I.hok h1
    obtain ⟨mA, ⟨od, es, ep, hd, _⟩, _⟩ := exd_at I.hok h2
    exact ⟨_, some od, ⟨ho, rfl, rfl, hd⟩⟩
/-- isinstance(e, c) -/
def rIsX (K : PySem.W.Frag) : List V → Hp → VK → Prop := fun xs H Q => ∃ (a C : Addr) (fs : List (Str × V)) (c : V) (u : Value) (b : Bool), xs = [.ref a, c] ∧ Exv H a C fs ∧ ExcC K C ∧ ClsV c u ∧ PySem.W.kitOne K (.ref C) u = some b ∧ Q (.bl b) H
theorem call_isX : CallR X (.builtin "isinstance") (rIsX X.K) := by
  intro pins s σ H xs us Q I r h
  obtain ⟨a, C, fs, c, u, b, rfl, hx, T, k, e, q⟩ := h
  obtain ⟨u1, u2, rfl, r1, r2⟩ := vals2 r
  cases r1
  rw [k.eq r2]
  obtain ⟨ox, od, J⟩ := hx.inst I
  obtain ⟨cd, hc, _⟩ := PySem.W.any_some T.hd
  exact PySem.W.kia_one (PySem.W.kitx_exc (by rw [hc]; rfl) T.hg T.hk T.hs T.ha T.hn T.ht T.hm) I.kIn J e (fun z => nomatch z) fun tk => ⟨.bl b, H, I.tok tk, rfl, q⟩
/-- isinstance(e, (c, ..)) -/
def rIsXT (K : PySem.W.Frag) : List V → Hp → VK → Prop := fun xs H Q => ∃ (a C tp : Addr) (fs : List (Str × V)) (cs : List V) (ws : List Value) (b : Bool), xs = [.ref a, .ref tp] ∧ Exv H a C fs ∧ ExcC K C ∧ H tp = some (.tup cs) ∧ Paired ClsV cs ws ∧ PySem.W.kitAny K (.ref C) ws = some b ∧ Q (.bl b) H
theorem call_isXT : CallR X (.builtin "isinstance") (rIsXT X.K) := by
  intro pins s σ H xs us Q I r h
  obtain ⟨a, C, tp, fs, cs, ws, b, rfl, hx, T, hT, k, e, q⟩ := h
  obtain ⟨u1, u2, rfl, r1, r2⟩ := vals2 r
  cases r1
  cases r2
  obtain ⟨ox, od, J⟩ := hx.inst I
  obtain ⟨cd, hc, _⟩ := PySem.W.any_some T.hd
  obtain ⟨_, its, rv, o, g1, g2, n, g3⟩ := (show ObjOk X.prog X.w H s.heap tp (.tup cs) from I.hok tp _ hT)
  rw [ClsV.all k rv] at g3
  obtain ⟨oc, odd, dt, sl⟩ := o
  have g2' : oc = .type "tuple" := g2
  have g3' : dt = .seq ws.toArray n := g3
  subst g2' g3'
  exact PySem.W.kia_tup (PySem.W.kitx_exc (by rw [hc]; rfl) T.hg T.hk T.hs T.ha T.hn T.ht T.hm) I.kIn J g1 e (fun z => nomatch z) fun tk => ⟨.bl b, H, I.tok tk, rfl, q⟩
/-- e.f -/
def tFx (K : PySem.W.Frag) (f : Str) (te : TE) : TE := fun σ H Q => te σ H fun x H1 => ∃ (a C : Addr) (fs : List (Str × V)) (v : V), x = .ref a ∧ Exv H1 a C fs ∧ ExcC K C ∧ PySem.W.findIn K (.ref C) f = some none ∧ fs.lookup f = some v ∧ Q v H1
theorem pe_fx {e : Expr} {te : TE} {pos : Pos} {f : Str} (he : PE X e te) (hb : attributeBase e f X.env (eval e X.env) = eval e X.env := by rfl) : PE X (.Attribute e f pos) (tFx X.K f te) := by
  refine ⟨fun pins s σ H Q I h => attr_of hb (thn (he.run pins s σ H _ I h) fun u s1 ⟨x, H1, I1, rx, a, C, fs, v, ex, hx, T, hno, hl, q⟩ => ?_)⟩
  subst ex
  cases rx
  rcases hx with ⟨z, _⟩ | ⟨d, h1, h2⟩
  · rw [z] at hl; exact nomatch hl
  · obtain ⟨t1, ho⟩ := exo_at I1.hok h1
    obtain ⟨mA, hns, rel⟩ := exd_at I1.hok h2
    obtain ⟨od, hd, hlk⟩ := lookIn_ns hns
    obtain ⟨u2, hu, ru⟩ := RelO.some_of (v := v) (o := mA f) (by rw [← hl]; exact rel f)
    exact HandSPX.exc_get I1.kIn (od := some od) ⟨ho, rfl, rfl, hd⟩ T.hg T.hk T.hs (PySem.W.findObj_own T.hd hno rfl (by rw [hlk, hu])) (handed_of ru) ⟨v, H1, I1.tok _, ru, q⟩
end
end Kx

set_option Elab.async false
set_option linter.all false
set_option maxRecDepth 100000
set_option maxHeartbeats 4000000
namespace Kc
open PySem PySem.Spec PyProof.Rows L2 Kg Kd
/-! ### the text -/
def topS (i : Nat) : Stmt := PySem.Challenge.pw_kindstocome_k01_errors_and_limits.main.body.getD i (.Pass ⟨0, 0, 0, 0⟩)
abbrev sDeck : Stmt := topS 24
abbrev sNext : Stmt := topS 25
abbrev nDeck : List Str := ["_law_script", "_law_cells", "_law_number"]
theorem scDeck : FnScope nDeck ["_law_script"] (defScope sDeck) := ⟨rfl, rfl, rfl, by decide +kernel, rfl, by decide +kernel, by decide +kernel⟩
theorem scNext : FnScope ["_law_deck_here", "_law_many", "_law_rest", "_law_turn", "_law_number", "_law_mixed"] ["_law_deck_here", "_law_many"] (defScope sNext) := ⟨rfl, rfl, rfl, by decide +kernel, rfl, by decide +kernel, by decide +kernel⟩
/-! ### heaps -/
/-- what a draw changes -/
def dk (d la : Addr) : Addr → Prop := fun a => a = d ∨ a = la
/-- a deck at d: its two lists at la and lb, its turn; b more draws may be made -/
structure DeckAt (H : Hp) (d la lb : Addr) (b : Nat) : Prop where
  ex : ∃ (xs ys : List Int) (t : Int), H d = some (.lst [.ref la, .ref lb, .int t]) ∧ H la = some (.lst (xs.map V.int)) ∧ H lb = some (.lst (ys.map V.int)) ∧ ys ≠ [] ∧ ys.length ≤ 100 ∧ 0 ≤ t ∧ t + b ≤ 1152921504606846976
  n1 : d ≠ la
  n2 : d ≠ lb
  n3 : la ≠ lb
theorem DeckAt.less {H : Hp} {d la lb : Addr} {b c : Nat} (D : DeckAt H d la lb b) (h : c ≤ b) : DeckAt H d la lb c := by
  obtain ⟨⟨xs, ys, t, h1, h2, h3, h4, h5, h6, h7⟩, n1, n2, n3⟩ := D
  exact ⟨⟨xs, ys, t, h1, h2, h3, h4, h5, h6, by omega⟩, n1, n2, n3⟩
theorem DeckAt.same {H H' : Hp} {d la lb : Addr} {b : Nat} (D : DeckAt H d la lb b) (h : Same H H') : DeckAt H' d la lb b := by
  obtain ⟨⟨xs, ys, t, h1, h2, h3, h4⟩, n1, n2, n3⟩ := D
  exact ⟨⟨xs, ys, t, h _ _ h1, h _ _ h2, h _ _ h3, h4⟩, n1, n2, n3⟩
theorem DeckAt.tracked {H : Hp} {d la lb : Addr} {b : Nat} (D : DeckAt H d la lb b) : H d ≠ none ∧ H la ≠ none ∧ H lb ≠ none := by
  obtain ⟨⟨xs, ys, t, h1, h2, h3, h4⟩, n1, n2, n3⟩ := D
  exact ⟨by rw [h1]; simp, by rw [h2]; simp, by rw [h3]; simp⟩
/-! ### promises -/
def spDeck (K : PySem.W.Frag) : Sp := fun vs H Q _ => ∃ (a : Addr) (ns : List Int), vs = [.ref a] ∧ SqL K H a (ns.map V.int) ∧ ns.length ≤ 63 ∧
  ∀ H' d la lb, Same H H' → H d = none → H la = none → H lb = none → DeckAt H' d la lb 1152921504606846976 → Q (.ref d) H'
def spNext : Sp := fun vs H Q _ => ∃ (d la lb : Addr) (m : Int) (b : Nat), vs = [.ref d, .int m] ∧ 0 < m ∧ m < 1073741824 ∧ DeckAt H d la lb (b + 1) ∧
  ∀ (v : Int) H', 0 ≤ v → v < m → DeckAt H' d la lb b → Keep (dk d la) H H' → Q (.int v) H'
theorem tk_map {α β : Type} {f : α → β} {l : List α} {i : Nat} {x : α} (h : l[i]? = some x) : (l.take (i + 1)).map f = (l.take i).map f ++ [f x] := by
  rw [List.take_add_one, h, List.map_append]; rfl
theorem map_get {α β : Type} {f : α → β} {l : List α} {i : Nat} {y : β} (h : (l.map f)[i]? = some y) : ∃ x, l[i]? = some x ∧ y = f x := by
  rw [List.getElem?_map] at h
  cases e : l[i]? with
  | none => rw [e] at h; cases h
  | some x => rw [e] at h; exact ⟨x, rfl, (Option.some.inj h).symm⟩
theorem ab_of (n : Int) : 0 ≤ (if n < 0 then -n else n) := by split <;> omega
section
variable {P : Program} {w : World} {K : PySem.W.Frag} {mg : Str → Option Value} {base : Heap}
theorem ok_deck {f : Addr} {fd : FuncData} {k : Nat} (F : Fun K "_law_deck" "_law_deck" sDeck f fd) (ma : mg "abs" = none) (ml : mg "len" = none) : FnOk P w K mg base CX0 (k + 1) f fd ["_law_script"] (spDeck K) := by
  refine F.ok scDeck (fun vs H Q E h => ?_) (fun cdv A outer s H vs Q E hr h => ?_)
  · obtain ⟨a, ns, rfl, _⟩ := h
    rfl
  · obtain ⟨a, ns, rfl, hS, hlen, q⟩ := h
    refine ⟨_, pss_cons (ps_setLc (i := 1) (own := [("_law_number", 2)]) (g := gName 2) rfl scDeck.nd rfl rfl (sw_true rfl rfl rfl (by decide +kernel)) (pi_list (pv 0))
        (blkOk_by (N := nDeck) (sc := defScope sDeck) (by decide +kernel)) (fun _ _ _ _ _ => pg_name (i := 2) scDeck.nd rfl (Or.inl rfl)) (fun _ _ _ _ _ => pts_nil)
        (fun _ _ _ _ _ => pe_callB call_abs (by rfl) ma boot_abs (pa_cons (pv 2) pa_nil)))
      (pss_one (ps_ret (pe_lst (pa_cons (pe_lc (own := [("_law_number", 2)]) (g := gName 2) rfl scDeck.nd (pi_list (pv 1)) (blkOk_by (N := nDeck) (sc := defScope sDeck) (by decide +kernel))
          (fun _ _ _ _ _ => pg_name (i := 2) scDeck.nd rfl (Or.inl rfl)) (fun _ _ _ _ _ => pts_one (pt_cmpR op_ge (pv 2) (pe_op op_pow pe_int pe_int) (nomark _))) (fun _ _ _ _ _ => pv 2))
        (pa_cons (pe_op op_cat (pv 1) (pe_lst (pa_cons (pe_op op_add (pe_callB call_len_seq (by rfl) ml PySem.boot_len (pa_cons (pv 1) pa_nil)) pe_int) pa_nil)))
        (pa_cons pe_int pa_nil)))))), ?_⟩
    -- the cells
    refine ⟨.ref a, rfl, a, rfl, ⟨_, hS⟩, fun D nD => ?_⟩
    refine lc_list (K := K) (a := a) (xs := ns.map V.int) (fun i H1 => Same H H1 ∧ H1 D = some (.lst ((ns.take i).map fun n => V.int (if n < 0 then -n else n)))) ⟨same_new nD, upd_same⟩ (fun i H1 _ p => p.1.seq hS) (fun i x H1 hx p => ?_) (fun H1 p => ?_)
    · obtain ⟨n, hn, rfl⟩ := map_get hx
      refine ⟨rfl, _, rfl, n, rfl, _, p.2, ?_, ?_, ?_⟩
      · rw [List.length_map, List.length_take]
        exact Nat.lt_of_le_of_lt (Nat.min_le_right _ _) (small1000 (by omega))
      · exact fun b o e => by rw [upd_ne (ne_of_none e nD)]; exact p.1 b o e
      · rw [upd_same, tk_map hn]
    · obtain ⟨s1, hD⟩ := p
      rw [List.length_map, List.take_length] at hD
      have hD' : H1 D = some (.lst ((ns.map fun n => if n < 0 then -n else n).map V.int)) := by rw [hD, List.map_map]; rfl
      generalize hc : (ns.map fun n : Int => if n < 0 then -n else n) = cs at hD'
      have hcl : cs.length = ns.length := by rw [← hc, List.length_map]
      -- the great ones
      refine ⟨.ref D, rfl, D, rfl, ⟨_, SqL.of hD'⟩, fun G nG => ?_⟩
      refine lc_list (K := K) (a := D) (xs := cs.map V.int) (fun i H2 => ∃ gs : List Int, gs.length ≤ i ∧ Same H1 H2 ∧ H2 G = some (.lst (gs.map V.int))) ⟨[], Nat.le_refl _, same_new nG, upd_same⟩ (fun i H2 _ p => by obtain ⟨_, _, p, _⟩ := p; exact p.seq (SqL.of hD')) (fun i x H2 hx p => ?_) (fun H2 p => ?_)
      · obtain ⟨gs, hg, s2, hG⟩ := p
        obtain ⟨n, hn, rfl⟩ := map_get hx
        have hi : i < cs.length := (List.getElem?_eq_some_iff.mp hn).1
        refine ⟨rfl, _, rfl, 10, 18, rfl, rfl, ⟨by decide, by decide, by decide⟩, n, _, rfl, rfl, _, rfl, ite2 (fun _ => ?_) (fun _ => ?_)⟩
        · refine ⟨_, rfl, _, hG, ?_, gs ++ [n], ?_, ?_, ?_⟩
          · rw [List.length_map]
            exact small1000 (by omega)
          · rw [List.length_append, List.length_singleton]; omega
          · exact fun b o e => by rw [upd_ne (ne_of_none e nG)]; exact s2 b o e
          · rw [upd_same, List.map_append]; rfl
        · exact ⟨gs, by omega, s2, hG⟩
      · obtain ⟨gs, hg, s2, hG⟩ := p
        rw [List.length_map] at hg
        have hD2 := s2 _ _ hD'
        -- the cells and one more
        refine ⟨.ref D, rfl, .ref D, rfl, D, _, rfl, .inl (SqL.of hD2), _, 5, rfl, rfl, ?_, fun l nl => ?_⟩
        · exact (show 1 ≤ sizeLine by decide)
        · have s3 : Same H2 (upd H2 l (.lst [.int (((cs.map V.int).length : Nat) + 5)])) := same_new nl
          refine ⟨D, l, _, _, rfl, rfl, s3 _ _ hD2, upd_same, ?_, fun c nc => ?_⟩
          · rw [List.length_map, List.length_singleton]
            exact Nat.le_of_lt (small1000 (by omega))
          · have s4 := same_new (o := HO.lst (cs.map V.int ++ [V.int (((cs.map V.int).length : Nat) + 5)])) nc
            refine ⟨(show 3 ≤ sizeLine by decide), fun d nd => ?_⟩
            have s5 := same_new (o := HO.lst [V.ref G, V.ref c, V.int 0]) nd
            have hG4 := s4 _ _ (s3 _ _ hG)
            refine q _ d G c (s1.trans (s2.trans (s3.trans (s4.trans s5)))) ?_ ?_ ?_ ⟨⟨gs, cs ++ [(cs.length : Int) + 5], 0, upd_same, ?_, ?_, ?_, ?_, ?_, ?_⟩, ?_, ?_, ?_⟩
            · exact (s1.trans (s2.trans (s3.trans s4))).free nd
            · exact s1.free nG
            · exact (s1.trans (s2.trans s3)).free nc
            · exact s5 _ _ hG4
            · rw [s5 _ _ upd_same, List.map_append, List.length_map]; rfl
            · intro z
              have := congrArg List.length z
              rw [List.length_append] at this
              simp at this
            · rw [List.length_append, List.length_singleton]; omega
            · exact Int.le_refl 0
            · show (0 : Int) + ((1152921504606846976 : Nat) : Int) ≤ 1152921504606846976
              decide
            · exact fun z => by rw [z, hG4] at nd; cases nd
            · exact fun z => by rw [z, upd_same] at nd; cases nd
            · exact fun z => by rw [← z, s3 _ _ hG] at nc; cases nc
end
end Kc

set_option Elab.async false
set_option linter.all false
set_option maxRecDepth 100000
set_option maxHeartbeats 4000000
namespace Kc
open PySem PySem.Spec PyProof.Rows L2 Kg Kd
section
variable {P : Program} {w : World} {K : PySem.W.Frag} {mg : Str → Option Value} {base : Heap}
theorem dp_ints {K : PySem.W.Frag} {H : Hp} : ∀ xs : List Int, DpAll K H (xs.map V.int) (xs.map PyData.int)
  | [] => .nil
  | x :: r => .cons (.int x) (dp_ints r)
theorem lay_ints : ∀ xs : List Int, PyData.canLayAll0 (xs.map PyData.int) = true
  | [] => rfl
  | x :: r => by
    show (PyData.canLay0 (.int x) && PyData.canLayAll0 (r.map PyData.int)) = true
    rw [lay_ints r]; rfl
theorem dep_ints : ∀ xs : List Int, PyData.depthAll (xs.map PyData.int) = 0
  | [] => rfl
  | x :: r => by
    show max (PyData.depth (.int x)) (PyData.depthAll (r.map PyData.int)) = 0
    rw [dep_ints r]; rfl
theorem shaped_ints (xs : List Int) : SeqAt.shaped (.list (xs.map PyData.int)) = true := by
  unfold SeqAt.shaped
  rw [Bool.and_eq_true]
  refine ⟨?_, decide_eq_true ?_⟩
  · show PyData.canLayAll0 (xs.map PyData.int) = true
    exact lay_ints xs
  · show PyData.depthAll (xs.map PyData.int) + 1 ≤ 64
    rw [dep_ints]; decide
theorem eqv_nil (xs : List Int) : PyData.eqv (.list (xs.map PyData.int)) (.list []) = xs.isEmpty := by
  cases xs with
  | nil => simp [PyData.eqv, PyData.eqvAll]
  | cons x r => simp [PyData.eqv, PyData.eqvAll]
theorem ok_next {f : Addr} {fd : FuncData} {k : Nat} (F : Fun K "_law_next" "_law_next" sNext f fd) (mi : mg "int" = none) (ml : mg "len" = none) : FnOk P w K mg base CX0 (k + 1) f fd ["_law_deck_here", "_law_many"] spNext := by
  refine F.ok scNext (fun vs H Q E h => ?_) (fun cdv A outer s H vs Q E hr h => ?_)
  · obtain ⟨d, la, lb, m, b, rfl, _⟩ := h
    rfl
  · obtain ⟨d, la, lb, m, b, rfl, hm0, hm1, D, q⟩ := h
    refine ⟨_, pss_cons (ps_while PassesOwn.never (pt_cmpR (op_neD hr.units) (pe_ix ix_list (pv 0) pe_int (fun _ _ => rfl)) (pe_lst pa_nil) (nomark _))
        (pss_cons (ps_set (i := 2) scNext.nd rfl (.inl rfl) (pe_ix ix_list (pe_ix ix_list (pv 0) pe_int (fun _ _ => rfl)) pe_int (fun _ _ => rfl)))
        (pss_cons (ps_if (pt_cmpR op_gt (pv 2) pe_int (nomark _))
            (pss_cons (ps_asg (pe_op op_fdivN (pv 2) (pv 1)) (pg_sub (pe_ix ix_list (pv 0) pe_int (fun _ _ => rfl)) pe_int set_list))
            (pss_one (ps_ret (pe_op op_mod (pe_callTy call_int1 (by rfl) mi PyProof.Rows.boot_int (pa_cons (pv 2) pa_nil)) (pv 1))))) pss_nil)
        (pss_one (ps_expr (pe_bm PySem.F.plainAttrs_list PySem.F.slot_list_pop PySem.F.type_list_pop mt_popAt (pe_ix ix_list (pv 0) pe_int (fun _ _ => rfl)) (pa_cons pe_int pa_nil)))))))
      (pss_cons (ps_asg (pe_op op_add (pe_ix ix_list (pv 0) pe_int (fun _ _ => rfl)) pe_int) (pg_sub (pv 0) pe_int set_list))
      (pss_cons (ps_set (i := 3) scNext.nd rfl (.inl rfl) (pe_ix ix_list (pv 0) pe_int (fun _ _ => rfl)))
      (pss_cons (ps_set (i := 4) scNext.nd rfl (.inl rfl) (pe_op op_mod (pe_callTy call_int1 (by rfl) mi PyProof.Rows.boot_int
          (pa_cons (pe_ix ix_list (pe_ix ix_list (pv 0) pe_int (fun _ _ => rfl)) (pe_op op_mod (pe_callTy call_int1 (by rfl) mi PyProof.Rows.boot_int (pa_cons (pv 3) pa_nil))
            (pe_callB call_len_seq (by rfl) ml PySem.boot_len (pa_cons (pe_ix ix_list (pv 0) pe_int (fun _ _ => rfl)) pa_nil))) (fun _ _ => rfl)) pa_nil)) pe_int))
      (pss_cons (ps_set (i := 5) scNext.nd rfl (.inl rfl) (pe_op op_mod (pe_callTy call_int1 (by rfl) mi PyProof.Rows.boot_int
          (pa_cons (pe_op op_add (pe_op op_add (pe_op op_mul (pv 4) (pe_op op_add pe_int (pe_op op_mul pe_int (pv 3)))) (pe_op op_mul (pe_op op_mul pe_int (pv 3)) (pv 3))) pe_int) pa_nil)) pe_int))
      (pss_one (ps_ret (pe_op op_mod (pe_op op_fdiv (pe_op op_mod (pe_callTy call_int1 (by rfl) mi PyProof.Rows.boot_int (pa_cons (pe_op op_mul (pv 5) (pv 5)) pa_nil)) pe_int) pe_int) (pv 1)))))))), ?_⟩
    obtain ⟨⟨xs, ys, t, h1, h2, h3, hy, hyl, ht0, ht⟩, n1, n2, n3⟩ := D
    refine ⟨fun n σ H1 => ∃ (xs : List Int) (y2 : Option V), n = xs.length ∧ σ = [some (.ref d), some (.int m), y2, none, none, none] ∧ H1 d = some (.lst [.ref la, .ref lb, .int t]) ∧ H1 la = some (.lst (xs.map V.int)) ∧ H1 lb = some (.lst (ys.map V.int)) ∧ Keep (dk d la) H H1,
      ⟨_, xs, none, rfl, rfl, h1, h2, h3, Keep.refl _ _⟩, ?_⟩
    rintro n σ H1 ⟨xs, y2, rfl, rfl, g1, g2, g3, kp⟩
    -- the test
    refine ⟨_, rfl, d, _, 0, .ref la, rfl, rfl, SqL.of g1, atI_nat (j := 0) rfl, (show 0 ≤ sizeLine by decide), fun e ne => ?_⟩
    have s1 : Same H1 (upd H1 e (.lst [])) := same_new ne
    have g1' := s1 _ _ g1
    have g2' := s1 _ _ g2
    have g3' := s1 _ _ g3
    refine ⟨.list (xs.map PyData.int), .list [], .lst (SqL.of g2') (dp_ints xs), .lst (SqL.of upd_same) .nil, shaped_ints xs, by decide +kernel, _, rfl, ?_⟩
    rw [eqv_nil]
    have kp' : Keep (dk d la) H (upd H1 e (.lst [])) := kp.trans (Keep.of_same s1)
    generalize (upd H1 e (.lst [])) = H2 at g1' g2' g3' kp'
    cases xs with
    | cons x r =>
      refine iteT ⟨fun σ' H' => ∃ (y2 : Option V), σ' = [some (.ref d), some (.int m), y2, none, none, none] ∧ H' d = some (.lst [.ref la, .ref lb, .int t]) ∧ H' la = some (.lst (r.map V.int)) ∧ H' lb = some (.lst (ys.map V.int)) ∧ Keep (dk d la) H H',
        fun σ' H' ⟨y2, e1, e2, e3, e4, e5⟩ => ⟨r.length, Nat.lt_succ_self _, r, y2, rfl, e1, e2, e3, e4, e5⟩, ?_⟩
      -- rest
      refine ⟨_, rfl, d, _, 0, .ref la, rfl, rfl, SqL.of g1', atI_nat (j := 0) rfl, la, _, 0, .int x, rfl, rfl, SqL.of g2', atI_nat (j := 0) rfl, ?_⟩
      refine ⟨_, rfl, x, 0, rfl, rfl, _, rfl, ite2 (fun hx => ?_) (fun hx => ?_)⟩
      · have hx' : 0 < x := of_decide_eq_true hx
        refine ⟨_, rfl, _, rfl, x, m, rfl, rfl, ⟨by omega, by omega⟩, _, rfl, d, _, 0, .ref la, rfl, rfl, SqL.of g1', atI_nat (j := 0) rfl, la, _, 0, 0, rfl, rfl, g2', by simp [ixN], ?_⟩
        refine ⟨_, rfl, .inl ⟨x, rfl, _, rfl, x, m, rfl, rfl, hm0, ?_⟩⟩
        refine q _ _ (Int.emod_nonneg _ (by omega)) (Int.emod_lt_of_pos _ hm0) ⟨⟨x.fdiv m :: r, ys, t, ?_, ?_, ?_, hy, hyl, ht0, by omega⟩, n1, n2, n3⟩ (kp'.trans (Keep.put (by simp [dk])))
        · rw [upd_ne n1]; exact g1'
        · rw [upd_same]; rfl
        · rw [upd_ne n3.symm]; exact g3'
      · refine ⟨_, rfl, d, _, 0, .ref la, rfl, rfl, SqL.of g1', atI_nat (j := 0) rfl, .inl ⟨rfl, _, SqL.of g2'⟩, la, _, 0, 0, .int x, rfl, rfl, g2', by decide, by decide, by simp [seqIndex?], rfl, ?_⟩
        refine ⟨_, rfl, ?_, ?_, ?_, kp'.trans (Keep.put (by simp [dk]))⟩
        · rw [upd_ne n1]; exact g1'
        · rw [upd_same]; rfl
        · rw [upd_ne n3.symm]; exact g3'
    | nil =>
      refine iteF ?_
      -- the turn goes on
      refine ⟨_, rfl, d, _, 2, .int t, rfl, rfl, SqL.of g1', atI_nat (j := 2) rfl, t, 1, rfl, rfl, _, rfl, d, _, 2, 2, rfl, rfl, g1', by simp [ixN], ?_⟩
      have kp3 : Keep (dk d la) H (upd H2 d (.lst [.ref la, .ref lb, .int (t + 1)])) := kp'.trans (Keep.put (by simp [dk]))
      have e1 : (upd H2 d (.lst [.ref la, .ref lb, .int (t + 1)])) d = some (.lst [.ref la, .ref lb, .int (t + 1)]) := upd_same
      have e2 : (upd H2 d (.lst [.ref la, .ref lb, .int (t + 1)])) la = some (.lst (([] : List Int).map V.int)) := by rw [upd_ne n1.symm]; exact g2'
      have e3 : (upd H2 d (.lst [.ref la, .ref lb, .int (t + 1)])) lb = some (.lst (ys.map V.int)) := by rw [upd_ne n2.symm]; exact g3'
      generalize hH : (upd H2 d (.lst [.ref la, .ref lb, .int (t + 1)])) = H3 at kp3 e1 e2 e3
      have hH' : (upd H2 d (.lst (([.ref la, .ref lb, .int t] : List V).set 2 (.int (t + 1))))) = H3 := hH
      rw [hH']
      refine ⟨_, rfl, d, _, 2, .int (t + 1), rfl, rfl, SqL.of e1, atI_nat (j := 2) rfl, ?_⟩
      have hpos : 0 < ys.length := by
        cases ys with
        | nil => exact absurd rfl hy
        | cons y r => simp
      have hj : ((t + 1) % (ys.length : Int)).toNat < ys.length := by
        have z1 := Int.emod_lt_of_pos (t + 1) (show (0 : Int) < ys.length by omega)
        have z2 := Int.emod_nonneg (t + 1) (show (ys.length : Int) ≠ 0 by omega)
        omega
      refine ⟨_, rfl, d, _, 1, .ref lb, rfl, rfl, SqL.of e1, atI_nat (j := 1) rfl, _, rfl, .inl ⟨t + 1, rfl, _, rfl, d, _, 1, .ref lb, rfl, rfl, SqL.of e1, atI_nat (j := 1) rfl, lb, _, rfl, .inl (SqL.of e3), t + 1, _, rfl, rfl, ?_,
        lb, _, _, .int ys[((t + 1) % (ys.length : Int)).toNat], rfl, rfl, SqL.of e3, ?_, .inl ⟨_, rfl, _, 2147483629, rfl, rfl, (by show (0 : Int) < 2147483629; decide), ?_⟩⟩⟩
      · rw [List.length_map]; omega
      · have z2 := Int.emod_nonneg (t + 1) (show (ys.length : Int) ≠ 0 by omega)
        rw [List.length_map]
        exact at_of (j := ((t + 1) % (ys.length : Int)).toNat) (by omega) (by rw [List.getElem?_map, List.getElem?_eq_getElem hj]; rfl)
      generalize ys[((t + 1) % (ys.length : Int)).toNat] = y0
      have b1 := Int.emod_nonneg y0 (show (2147483629 : Int) ≠ 0 by decide)
      have b2 := Int.emod_lt_of_pos y0 (show (0 : Int) < 2147483629 by decide)
      obtain ⟨nu, enu, b1, b2⟩ : ∃ nu : Int, (fun i j : Int => V.int (i % j)) y0 2147483629 = V.int nu ∧ 0 ≤ nu ∧ nu < 2147483629 := ⟨_, rfl, b1, b2⟩
      rw [enu]
      refine ⟨_, rfl, _, rfl, 68111, t + 1, rfl, rfl, .inl ⟨by decide, by decide⟩, 50331, _, rfl, rfl, nu, _, rfl, rfl, .inl ⟨by omega, by omega⟩, _, rfl, 41287, t + 1, rfl, rfl, .inl ⟨by decide, by decide⟩, _, rfl, _, t + 1, rfl, rfl, .inr ⟨by omega, by omega⟩, _, _, rfl, rfl, _, 19, rfl, rfl, .inl ⟨_, rfl, _, 2147483587, rfl, rfl, (by show (0 : Int) < 2147483587; decide), ?_⟩⟩
      generalize nu * (50331 + 68111 * (t + 1)) + 41287 * (t + 1) * (t + 1) + 19 = big
      have c1 := Int.emod_nonneg big (show (2147483587 : Int) ≠ 0 by decide)
      have c2 := Int.emod_lt_of_pos big (show (0 : Int) < 2147483587 by decide)
      obtain ⟨mi', emi, c1, c2⟩ : ∃ nu : Int, (fun i j : Int => V.int (i % j)) big 2147483587 = V.int nu ∧ 0 ≤ nu ∧ nu < 2147483587 := ⟨_, rfl, c1, c2⟩
      rw [emi]
      refine ⟨_, rfl, _, rfl, mi', mi', rfl, rfl, .inl ⟨by omega, by omega⟩, .inl ⟨_, rfl, _, 2147483579, rfl, rfl, (by show (0 : Int) < 2147483579; decide), _, 16, rfl, rfl, ⟨by decide, by decide⟩, _, rfl, _, m, rfl, rfl, hm0, ?_⟩⟩
      exact q _ _ (Int.emod_nonneg _ (by omega)) (Int.emod_lt_of_pos _ hm0) ⟨⟨[], ys, t + 1, e1, e2, e3, hy, hyl, by omega, by omega⟩, n1, n2, n3⟩ kp3
end
end Kc

set_option Elab.async false
set_option linter.all false
set_option maxRecDepth 100000
set_option maxHeartbeats 4000000
namespace Kc
open PySem PySem.Spec PyProof.Rows L2 Kg Kd
abbrev sSame : Stmt := topS 26
abbrev nSame : List Str := ["_law_found", "_law_due", "_law_one", "_law_other"]
theorem scSame : FnScope nSame ["_law_found", "_law_due"] (defScope sSame) := ⟨rfl, rfl, rfl, by decide +kernel, rfl, by decide +kernel, by decide +kernel⟩
/-- the built-in names that the laws use are the built-ins -/
structure Bl (mg : Str → Option Value) : Prop where
  abs : mg "abs" = none
  len : mg "len" = none
  int : mg "int" = none
  isi : mg "isinstance" = none
  tuple : mg "tuple" = none
  list : mg "list" = none
  str : mg "str" = none
  bool : mg "bool" = none
  dict : mg "dict" = none
  zip : mg "zip" = none
  all : mg "all" = none
  repr : mg "repr" = none
  range : mg "range" = none
def spSame (n : Nat) : Sp := fun vs H Q _ => ∃ (x y : V) (d e : PyData), vs = [x, y] ∧ Da Kd.nil H x d ∧ Da Kd.nil H y e ∧ e.depth < n ∧ ∀ H', Same H H' → Q (.bl (sameD d e)) H'
theorem dep_mem : ∀ {es : List PyData} {i : Nat} {e : PyData}, es[i]? = some e → e.depth ≤ PyData.depthAll es
  | [], i, e, h => by simp at h
  | a :: es, 0, e, h => by
    simp at h
    rw [← h]
    show a.depth ≤ max a.depth (PyData.depthAll es)
    omega
  | a :: es, i + 1, e, h => by
    have z := dep_mem (es := es) (i := i) (e := e) (by simpa using h)
    show e.depth ≤ max a.depth (PyData.depthAll es)
    omega
section
variable {P : Program} {w : World} {K : PySem.W.Frag} {mg : Str → Option Value} {base : Heap}
theorem ok_same1 {f : Addr} {fd : FuncData} {n : Nat} (F : Fun K "_law_same" "_law_same" sSame f fd) (B : Bl mg) (bS : Binds K fd ["_law_found", "_law_due"] []) (gS : mg "_law_same" = some (.ref f))
    (G : FnG P w K mg base n f fd ["_law_found", "_law_due"] (spSame n)) : FnG P w K mg base (n + 1) f fd ["_law_found", "_law_due"] (spSame (n + 1)) := by
  refine okG F scSame (fun vs H Q E h => ?_) (fun cdv A out s H vs Q hgu hr h => ?_)
  · obtain ⟨x, y, d, e, rfl, _⟩ := h
    rfl
  · obtain ⟨x, y, d, e, rfl, hx, hy, hn, q⟩ := h
    refine ⟨_, pss_cons (ps_if (pt_val (pe_callB call_isiT (by rfl) B.isi boot_isinstance (pa_cons (pv 1) (pa_cons (pe_tup (pa_cons (pe_bltn (v := .ty "tuple") (by rfl) B.tuple PyProof.Rows.boot_tuple rfl) (pa_cons (pe_bltn (v := .ty "list") (by rfl) B.list PyProof.Rows.boot_list rfl) pa_nil))) pa_nil))))
        (pss_cons (ps_if (PW.pt (pw_or (pt_cmpR op_ne (pe_callB call_isi (by rfl) B.isi boot_isinstance (pa_cons (pv 1) (pa_cons (pe_bltn (v := .ty "tuple") (by rfl) B.tuple PyProof.Rows.boot_tuple rfl) pa_nil))) (pe_callB call_isi (by rfl) B.isi boot_isinstance (pa_cons (pv 0) (pa_cons (pe_bltn (v := .ty "tuple") (by rfl) B.tuple PyProof.Rows.boot_tuple rfl) pa_nil))) (nomark _))
            (pw_or1 (pt_cmpR op_ne (pe_callB call_isi (by rfl) B.isi boot_isinstance (pa_cons (pv 1) (pa_cons (pe_bltn (v := .ty "list") (by rfl) B.list PyProof.Rows.boot_list rfl) pa_nil))) (pe_callB call_isi (by rfl) B.isi boot_isinstance (pa_cons (pv 0) (pa_cons (pe_bltn (v := .ty "list") (by rfl) B.list PyProof.Rows.boot_list rfl) pa_nil))) (nomark _)))))
          (pss_one (ps_ret pe_bl)) pss_nil)
        (pss_one (ps_ret (pe_and (pe_cmpR op_eq (pe_callB call_len_seq (by rfl) B.len PySem.boot_len (pa_cons (pv 0) pa_nil)) (pe_callB call_len_seq (by rfl) B.len PySem.boot_len (pa_cons (pv 1) pa_nil)) (nomark _))
          (pe_one (pe_callB (cr_all rfl) (by rfl) B.all boot_all (pa_cons (pe_lc (own := [("_law_one", 2), ("_law_other", 3)]) (g := gTup K 2 (gCons (gName 2) (gCons (gName 3) gNil))) rfl scSame.nd (RZ.pi_zipA (by rfl) B.zip (pa_cons (pv 0) (pa_cons (pv 1) pa_nil))) (blkOk_by (N := nSame) (sc := defScope sSame) (by decide +kernel))
            (fun _ _ _ _ _ => pg_tup rfl (pgs_cons (pg_name (i := 2) scSame.nd rfl (.inl rfl)) (pgs_cons (pg_name (i := 3) scSame.nd rfl (.inl rfl)) pgs_nil))) (fun _ _ _ _ _ => pts_nil)
            (fun _ _ _ _ _ => pe_callG G hgu hr (by rfl) gS F.kp bS (pa_cons (pv 2) (pa_cons (pv 3) pa_nil)))) pa_nil)))))))
        pss_nil)
      (pss_cons (ps_if (pt_cmpR op_isN (pv 1) pe_non (nomark _)) (pss_one (ps_ret (pe_cmpR op_isN (pv 0) pe_non (nomark _)))) pss_nil)
      (pss_cons (ps_if (pt_val (pe_callB call_isi (by rfl) B.isi boot_isinstance (pa_cons (pv 1) (pa_cons (pe_bltn (v := .ty "str") (by rfl) B.str PyProof.Rows.boot_str rfl) pa_nil))))
        (pss_one (ps_ret (pe_and (pe_callB call_isi (by rfl) B.isi boot_isinstance (pa_cons (pv 0) (pa_cons (pe_bltn (v := .ty "str") (by rfl) B.str PyProof.Rows.boot_str rfl) pa_nil))) (pe_one (pe_cmpR op_eq (pv 0) (pv 1) (nomark _)))))) pss_nil)
      (pss_cons (ps_if (PW.pt (pw_or (pt_val (pe_callB call_isi (by rfl) B.isi boot_isinstance (pa_cons (pv 1) (pa_cons (pe_bltn (v := .ty "bool") (by rfl) B.bool PyProof.Rows.boot_bool rfl) pa_nil)))) (pw_or1 (pt_val (pe_callB call_isi (by rfl) B.isi boot_isinstance (pa_cons (pv 0) (pa_cons (pe_bltn (v := .ty "bool") (by rfl) B.bool PyProof.Rows.boot_bool rfl) pa_nil)))))))
        (pss_one (ps_ret (pe_and (pe_callB call_isi (by rfl) B.isi boot_isinstance (pa_cons (pv 0) (pa_cons (pe_bltn (v := .ty "bool") (by rfl) B.bool PyProof.Rows.boot_bool rfl) pa_nil))) (pe_and (pe_callB call_isi (by rfl) B.isi boot_isinstance (pa_cons (pv 1) (pa_cons (pe_bltn (v := .ty "bool") (by rfl) B.bool PyProof.Rows.boot_bool rfl) pa_nil))) (pe_one (pe_cmpR op_eq (pv 0) (pv 1) (nomark _))))))) pss_nil)
      (pss_cons (ps_if (pt_val (pe_callB call_isi (by rfl) B.isi boot_isinstance (pa_cons (pv 1) (pa_cons (pe_bltn (v := .ty "int") (by rfl) B.int PyProof.Rows.boot_int rfl) pa_nil))))
        (pss_one (ps_ret (pe_and (pe_callB call_isi (by rfl) B.isi boot_isinstance (pa_cons (pv 0) (pa_cons (pe_bltn (v := .ty "int") (by rfl) B.int PyProof.Rows.boot_int rfl) pa_nil))) (pe_one (pe_cmpR op_eq (pv 0) (pv 1) (nomark _)))))) pss_nil)
      (pss_one (ps_ret (pe_and (pe_callB call_isi (by rfl) B.isi boot_isinstance (pa_cons (pv 1) (pa_cons (pe_bltn (v := .ty "dict") (by rfl) B.dict PyProof.Rows.boot_dict rfl) pa_nil))) (pe_and (pe_callB call_isi (by rfl) B.isi boot_isinstance (pa_cons (pv 0) (pa_cons (pe_bltn (v := .ty "dict") (by rfl) B.dict PyProof.Rows.boot_dict rfl) pa_nil)))
        (pe_one (pe_cmpR op_eq (pe_callB (call_reprD hgu hr.units) (by rfl) B.repr PyProof.Rows.boot_repr (pa_cons (pv 0) pa_nil)) (pe_callB (call_reprD hgu hr.units) (by rfl) B.repr PyProof.Rows.boot_repr (pa_cons (pv 1) pa_nil)) (nomark _))))))))))), ?_⟩
    refine ⟨y, rfl, (show 2 ≤ sizeLine by decide), fun tp ntp => ?_⟩
    have s1 : Same H (upd H tp (.tup [.ty "tuple", .ty "list"])) := same_new ntp
    have hx1 := hx.same s1
    have hy1 := hy.same s1
    refine ⟨y, tp, _, _, _, isSeq e, rfl, upd_same, .cons (.ty _) (.cons (.ty _) .nil), hy1.ty, kt_seq e, _, rfl, ?_⟩
    generalize upd H tp (.tup [.ty "tuple", .ty "list"]) = H1 at s1 hx1 hy1 ⊢
    have q1 : ∀ H', Same H1 H' → Q (.bl (sameD d e)) H' := fun H' z => q H' (s1.trans z)
    clear q hx hy s1
    have r1 := Same.refl H1
    cases e with
    | none =>
      refine iteF ⟨_, rfl, rfl, _, rfl, ?_⟩
      rw [hy1.non_iff]
      refine iteT ⟨_, rfl, rfl, ?_⟩
      rw [hx1.non_iff]
      cases d <;> exact q1 _ r1
    | str z =>
      refine iteF ⟨_, rfl, rfl, _, rfl, ?_⟩
      rw [hy1.non_iff]
      refine iteF ⟨_, rfl, _, _, _, _, true, rfl, .ty _, hy1.ty, kit_ty (kt_str _), _, rfl, iteT ?_⟩
      refine ⟨_, rfl, _, _, _, _, isStr d, rfl, .ty _, hx1.ty, kit_ty (kt_str _), _, rfl, ?_⟩
      cases hx1 with
      | str z2 =>
        cases hy1
        refine iteT ⟨_, rfl, _, rfl, rfl, ?_⟩
        have e1 : decide (V.str z2 = V.str z) = decide (z2 = z) := by
          by_cases h : z2 = z
          · rw [h]; simp
          · rw [decide_eq_false h, decide_eq_false (fun c => h (V.str.inj c))]
        rw [e1]
        exact q1 _ r1
      | _ => exact iteF (q1 _ r1)
    | bool z =>
      refine iteF ⟨_, rfl, rfl, _, rfl, ?_⟩
      rw [hy1.non_iff]
      refine iteF ⟨_, rfl, _, _, _, _, false, rfl, .ty _, hy1.ty, kit_ty (kt_str _), _, rfl, iteF ?_⟩
      refine ⟨_, rfl, _, _, _, _, true, rfl, .ty _, hy1.ty, kit_ty (kt_bool _), _, rfl, iteT (iteT ?_)⟩
      refine ⟨_, rfl, _, _, _, _, isBool d, rfl, .ty _, hx1.ty, kit_ty (kt_bool _), _, rfl, ?_⟩
      cases hx1 with
      | bl z2 =>
        refine iteT ⟨_, rfl, _, _, _, _, true, rfl, .ty _, hy1.ty, kit_ty (kt_bool _), _, rfl, iteT ?_⟩
        cases hy1
        refine ⟨_, rfl, _, rfl, rfl, ?_⟩
        have e1 : decide (V.bl z2 = V.bl z) = decide (z2 = z) := by
          by_cases h : z2 = z
          · rw [h]; simp
          · rw [decide_eq_false h, decide_eq_false (fun c => h (V.bl.inj c))]
        rw [e1]
        exact q1 _ r1
      | _ => exact iteF (q1 _ r1)
    | int z =>
      refine iteF ⟨_, rfl, rfl, _, rfl, ?_⟩
      rw [hy1.non_iff]
      refine iteF ⟨_, rfl, _, _, _, _, false, rfl, .ty _, hy1.ty, kit_ty (kt_str _), _, rfl, iteF ?_⟩
      refine ⟨_, rfl, _, _, _, _, false, rfl, .ty _, hy1.ty, kit_ty (kt_bool _), _, rfl, iteF ?_⟩
      refine ⟨_, rfl, _, _, _, _, isBool d, rfl, .ty _, hx1.ty, kit_ty (kt_bool _), _, rfl, ?_⟩
      cases hx1 with
      | bl z2 =>
        refine iteT ⟨_, rfl, _, _, _, _, true, rfl, .ty _, Da.ty (Da.bl (av := Kd.nil) z2), kit_ty (kt_bool (.bool z2)), _, rfl, iteT ?_⟩
        exact ⟨_, rfl, _, _, _, _, false, rfl, .ty _, hy1.ty, kit_ty (kt_bool _), _, rfl, iteF (q1 _ r1)⟩
      | int z2 =>
        refine iteF ⟨_, rfl, _, _, _, _, true, rfl, .ty _, hy1.ty, kit_ty (kt_int _), _, rfl, iteT ?_⟩
        refine ⟨_, rfl, _, _, _, _, true, rfl, .ty _, Da.ty (Da.int (av := Kd.nil) z2), kit_ty (kt_int (.int z2)), _, rfl, iteT ?_⟩
        cases hy1
        refine ⟨_, rfl, _, rfl, rfl, ?_⟩
        have e1 : decide (V.int z2 = V.int z) = decide (z2 = z) := by
          by_cases h : z2 = z
          · rw [h]; simp
          · rw [decide_eq_false h, decide_eq_false (fun c => h (V.int.inj c))]
        rw [e1]
        exact q1 _ r1
      | non => exact iteF ⟨_, rfl, _, _, _, _, true, rfl, .ty _, hy1.ty, kit_ty (kt_int _), _, rfl, iteT ⟨_, rfl, _, _, _, _, false, rfl, .ty _, Da.ty (Da.non (av := Kd.nil)), kit_ty (kt_int .none), _, rfl, iteF (q1 _ r1)⟩⟩
      | str z2 => exact iteF ⟨_, rfl, _, _, _, _, true, rfl, .ty _, hy1.ty, kit_ty (kt_int _), _, rfl, iteT ⟨_, rfl, _, _, _, _, false, rfl, .ty _, Da.ty (Da.str (av := Kd.nil) z2), kit_ty (kt_int (.str z2)), _, rfl, iteF (q1 _ r1)⟩⟩
      | lst a1 a2 a3 a4 => exact iteF ⟨_, rfl, _, _, _, _, true, rfl, .ty _, hy1.ty, kit_ty (kt_int _), _, rfl, iteT ⟨_, rfl, _, _, _, _, false, rfl, .ty _, Da.ty (Da.lst a1 a2 a3 a4), kit_ty (kt_int (.list _)), _, rfl, iteF (q1 _ r1)⟩⟩
      | tup a1 a2 a3 a4 => exact iteF ⟨_, rfl, _, _, _, _, true, rfl, .ty _, hy1.ty, kit_ty (kt_int _), _, rfl, iteT ⟨_, rfl, _, _, _, _, false, rfl, .ty _, Da.ty (Da.tup a1 a2 a3 a4), kit_ty (kt_int (.tuple _)), _, rfl, iteF (q1 _ r1)⟩⟩
      | dc0 a1 a2 => exact iteF ⟨_, rfl, _, _, _, _, true, rfl, .ty _, hy1.ty, kit_ty (kt_int _), _, rfl, iteT ⟨_, rfl, _, _, _, _, false, rfl, .ty _, Da.ty (Da.dc0 a1 a2), kit_ty (kt_int (.dict _)), _, rfl, iteF (q1 _ r1)⟩⟩
      | dc1 a1 a2 => exact iteF ⟨_, rfl, _, _, _, _, true, rfl, .ty _, hy1.ty, kit_ty (kt_int _), _, rfl, iteT ⟨_, rfl, _, _, _, _, false, rfl, .ty _, Da.ty (Da.dc1 a1 a2), kit_ty (kt_int (.dict _)), _, rfl, iteF (q1 _ r1)⟩⟩
    | dict z =>
      refine iteF ⟨_, rfl, rfl, _, rfl, ?_⟩
      rw [hy1.non_iff]
      refine iteF ⟨_, rfl, _, _, _, _, false, rfl, .ty _, hy1.ty, kit_ty (kt_str _), _, rfl, iteF ?_⟩
      refine ⟨_, rfl, _, _, _, _, false, rfl, .ty _, hy1.ty, kit_ty (kt_bool _), _, rfl, iteF ?_⟩
      refine ⟨_, rfl, _, _, _, _, isBool d, rfl, .ty _, hx1.ty, kit_ty (kt_bool _), _, rfl, ?_⟩
      by_cases hb : isBool d = true
      · cases d with
        | bool z2 => exact iteT ⟨_, rfl, _, _, _, _, true, rfl, .ty _, hx1.ty, kit_ty (kt_bool (.bool z2)), _, rfl, iteT ⟨_, rfl, _, _, _, _, false, rfl, .ty _, hy1.ty, kit_ty (kt_bool _), _, rfl, iteF (q1 _ r1)⟩⟩
        | _ => exact nomatch hb
      · rw [Bool.not_eq_true] at hb
        rw [hb]
        refine iteF ⟨_, rfl, _, _, _, _, false, rfl, .ty _, hy1.ty, kit_ty (kt_int _), _, rfl, iteF ?_⟩
        refine ⟨_, rfl, _, _, _, _, true, rfl, .ty _, hy1.ty, kit_ty (kt_dct _), _, rfl, iteT ?_⟩
        refine ⟨_, rfl, _, _, _, _, isDct d, rfl, .ty _, hx1.ty, kit_ty (kt_dct _), _, rfl, ?_⟩
        cases d with
        | dict z2 =>
          refine iteT ⟨_, rfl, Kd.nil, _, _, rfl, hx1, _, rfl, Kd.nil, _, _, rfl, hy1, rfl, ?_⟩
          have e1 : decide (V.str (PyData.dict z2).shown = V.str (PyData.dict z).shown) = sameD (.dict z2) (.dict z) := by
            show _ = decide ((PyData.dict z2).shown = (PyData.dict z).shown)
            by_cases h : (PyData.dict z2).shown = (PyData.dict z).shown
            · rw [h]; simp
            · rw [decide_eq_false h, decide_eq_false (fun c => h (V.str.inj c))]
          rw [e1]
          exact q1 _ r1
        | _ => exact iteF (q1 _ r1)
    | tuple es =>
      refine iteT ⟨_, rfl, _, _, _, _, true, rfl, .ty _, hy1.ty, kit_ty (kt_tup _), _, rfl, _, _, _, _, isTup d, rfl, .ty _, hx1.ty, kit_ty (kt_tup _), rfl, _, rfl, ?_⟩
      by_cases hb : isTup d = true
      · cases d with
        | tuple ds =>
          refine iteF ⟨_, rfl, _, _, _, _, false, rfl, .ty _, hy1.ty, kit_ty (kt_lst (.tuple es)), _, rfl, _, _, _, _, false, rfl, .ty _, hx1.ty, kit_ty (kt_lst (.tuple ds)), rfl, _, rfl, iteF ?_⟩
          cases hx1 with
          | @tup a xs _ na ha hal hA =>
            cases hy1 with
            | @tup b ys _ nb hb2 hbl hB =>
              refine ⟨_, rfl, a, xs, rfl, .inr (SqT.of ha), _, rfl, b, ys, rfl, .inr (SqT.of hb2), rfl, _, rfl, ?_⟩
              have l1 := hA.length
              have l2 := hB.length
              refine ite2 (fun c => ?_) (fun c => ?_)
              · have c' : xs.length = ys.length := by
                  have := V.int.inj (of_decide_eq_true c)
                  omega
                refine ⟨_, rfl, _, rfl, a, b, xs, ys, rfl, .inr ⟨SqT.of ha, SqT.of hb2, fun D nD => ?_⟩⟩
                refine lc_it (walk_zipT (n := xs.length) (by omega)) (fun i H2 => Same H1 H2 ∧ H2 D = some (.lst (((sameL ds es).take i).map V.bl))) ⟨same_new nD, upd_same⟩ (fun i H2 _ p => ⟨SqT.of (p.1 _ _ ha), SqT.of (p.1 _ _ hb2)⟩) (fun i v H2 H3 hi p yy => ?_) (fun H2 p => ?_)
                · obtain ⟨T, v1, v2, rfl, nT, rfl, f1, f2⟩ := yy
                  obtain ⟨d1, g1, k1⟩ := hA.get f1
                  obtain ⟨e1, g2, k2⟩ := hB.get f2
                  have s3 : Same H1 (upd H2 T (.tup [v1, v2])) := p.1.trans (same_new nT)
                  refine ⟨T, _, rfl, SqT.of upd_same, rfl, v1, _, rfl, v2, _, rfl, rfl, rfl, ?_⟩
                  refine ⟨_, rfl, _, rfl, v1, v2, d1, e1, rfl, k1.same s3, k2.same s3, ?_, fun H4 s4 => ⟨((sameL ds es).take i).map V.bl, ?_, ?_, ?_, ?_⟩⟩
                  · have z := dep_mem g2
                    have z2 : PyData.depthAll es + 1 < n + 1 := hn
                    omega
                  · exact s4 _ _ (same_new nT _ _ p.2)
                  · rw [List.length_map, List.length_take]
                    exact Nat.lt_of_le_of_lt (Nat.min_le_left _ _) (small1000 (by omega))
                  · exact fun bb o z => by rw [upd_ne (ne_of_none z nD)]; exact s4 _ _ (s3 _ _ z)
                  · rw [upd_same, tk_map (sameL_get ds es i d1 e1 g1 g2)]
                · have e3 : (sameL ds es).take xs.length = sameL ds es := List.take_of_length_le (by rw [sameL_len]; omega)
                  rw [e3] at p
                  refine ⟨D, _, rfl, SqL.of p.2, ?_⟩
                  have e4 : sameD (.tuple ds) (.tuple es) = (sameL ds es).all id := by
                    show sameA ds es = _
                    rw [sameA_eq, decide_eq_true (show ds.length = es.length by omega)]
                    exact Bool.true_and _
                  rw [← e4]
                  exact q1 _ p.1
              · have c' : ds.length ≠ es.length := fun z => c (decide_eq_true (congrArg V.int (by omega)))
                have e4 : sameD (.tuple ds) (.tuple es) = false := by
                  show sameA ds es = _
                  rw [sameA_eq, decide_eq_false c']
                  exact Bool.false_and _
                rw [← e4]
                exact q1 _ r1
        | _ => exact nomatch hb
      · rw [Bool.not_eq_true] at hb
        rw [hb]
        refine iteT (iteT ?_)
        have e4 : sameD d (.tuple es) = false := by
          cases d with
          | tuple ds => exact nomatch hb
          | _ => rfl
        rw [← e4]
        exact q1 _ r1
    | list es =>
      refine iteT ⟨_, rfl, _, _, _, _, false, rfl, .ty _, hy1.ty, kit_ty (kt_tup _), _, rfl, _, _, _, _, isTup d, rfl, .ty _, hx1.ty, kit_ty (kt_tup _), rfl, _, rfl, ?_⟩
      by_cases hb : isLst d = true
      · cases d with
        | list ds =>
          refine iteF ⟨_, rfl, _, _, _, _, true, rfl, .ty _, hy1.ty, kit_ty (kt_lst (.list es)), _, rfl, _, _, _, _, true, rfl, .ty _, hx1.ty, kit_ty (kt_lst (.list ds)), rfl, _, rfl, iteF ?_⟩
          cases hx1 with
          | @lst a xs _ na ha hal hA =>
            cases hy1 with
            | @lst b ys _ nb hb2 hbl hB =>
              refine ⟨_, rfl, a, xs, rfl, .inl (SqL.of ha), _, rfl, b, ys, rfl, .inl (SqL.of hb2), rfl, _, rfl, ?_⟩
              have l1 := hA.length
              have l2 := hB.length
              refine ite2 (fun c => ?_) (fun c => ?_)
              · have c' : xs.length = ys.length := by
                  have := V.int.inj (of_decide_eq_true c)
                  omega
                refine ⟨_, rfl, _, rfl, a, b, xs, ys, rfl, .inl ⟨SqL.of ha, SqL.of hb2, fun D nD => ?_⟩⟩
                refine lc_it (walk_zip (n := xs.length) (xs := xs) (ys := ys) (by omega)) (fun i H2 => Same H1 H2 ∧ H2 D = some (.lst (((sameL ds es).take i).map V.bl))) ⟨same_new nD, upd_same⟩ (fun i H2 _ p => ⟨SqL.of (p.1 _ _ ha), SqL.of (p.1 _ _ hb2)⟩) (fun i v H2 H3 hi p yy => ?_) (fun H2 p => ?_)
                · obtain ⟨T, v1, v2, rfl, nT, rfl, f1, f2⟩ := yy
                  obtain ⟨d1, g1, k1⟩ := hA.get f1
                  obtain ⟨e1, g2, k2⟩ := hB.get f2
                  have s3 : Same H1 (upd H2 T (.tup [v1, v2])) := p.1.trans (same_new nT)
                  refine ⟨T, _, rfl, SqT.of upd_same, rfl, v1, _, rfl, v2, _, rfl, rfl, rfl, ?_⟩
                  refine ⟨_, rfl, _, rfl, v1, v2, d1, e1, rfl, k1.same s3, k2.same s3, ?_, fun H4 s4 => ⟨((sameL ds es).take i).map V.bl, ?_, ?_, ?_, ?_⟩⟩
                  · have z := dep_mem g2
                    have z2 : PyData.depthAll es + 1 < n + 1 := hn
                    omega
                  · exact s4 _ _ (same_new nT _ _ p.2)
                  · rw [List.length_map, List.length_take]
                    exact Nat.lt_of_le_of_lt (Nat.min_le_left _ _) (small1000 (by omega))
                  · exact fun bb o z => by rw [upd_ne (ne_of_none z nD)]; exact s4 _ _ (s3 _ _ z)
                  · rw [upd_same, tk_map (sameL_get ds es i d1 e1 g1 g2)]
                · have e3 : (sameL ds es).take xs.length = sameL ds es := List.take_of_length_le (by rw [sameL_len]; omega)
                  rw [e3] at p
                  refine ⟨D, _, rfl, SqL.of p.2, ?_⟩
                  have e4 : sameD (.list ds) (.list es) = (sameL ds es).all id := by
                    show sameA ds es = _
                    rw [sameA_eq, decide_eq_true (show ds.length = es.length by omega)]
                    exact Bool.true_and _
                  rw [← e4]
                  exact q1 _ p.1
              · have c' : ds.length ≠ es.length := fun z => c (decide_eq_true (congrArg V.int (by omega)))
                have e4 : sameD (.list ds) (.list es) = false := by
                  show sameA ds es = _
                  rw [sameA_eq, decide_eq_false c']
                  exact Bool.false_and _
                rw [← e4]
                exact q1 _ r1
        | _ => exact nomatch hb
      · rw [Bool.not_eq_true] at hb
        have e4 : sameD d (.list es) = false := by
          cases d with
          | list ds => exact nomatch hb
          | _ => rfl
        rw [e4] at q1
        by_cases ht : isTup d = true
        · rw [ht]
          exact iteT (iteT (q1 _ r1))
        · rw [Bool.not_eq_true] at ht
          rw [ht]
          refine iteF ⟨_, rfl, _, _, _, _, true, rfl, .ty _, hy1.ty, kit_ty (kt_lst (.list es)), _, rfl, _, _, _, _, isLst d, rfl, .ty _, hx1.ty, kit_ty (kt_lst _), rfl, _, rfl, ?_⟩
          rw [hb]
          exact iteT (q1 _ r1)
theorem ok_same {f : Addr} {fd : FuncData} (F : Fun K "_law_same" "_law_same" sSame f fd) (B : Bl mg) (bS : Binds K fd ["_law_found", "_law_due"] []) (gS : mg "_law_same" = some (.ref f)) :
    ∀ n : Nat, FnG P w K mg base n f fd ["_law_found", "_law_due"] (spSame n)
  | 0 => ⟨fun vs H Q E h => by obtain ⟨x, y, d, e, _, _, _, z, _⟩ := h; exact absurd z (Nat.not_lt_zero _), fun A out s H ar us vs Q _ _ _ _ _ h => by obtain ⟨x, y, d, e, _, _, _, z, _⟩ := h; exact absurd z (Nat.not_lt_zero _)⟩
  | n + 1 => ok_same1 F B bS gS (ok_same F B bS gS n)
end
end Kc

set_option Elab.async false
set_option linter.all false
set_option maxRecDepth 100000
set_option maxHeartbeats 4000000
namespace Kc
open PySem PySem.Spec PyProof.Rows L2 Kg Kd
abbrev sOdd : Stmt := topS 27
abbrev nOdd : List Str := ["_law_deck_here", "_law_some"]
theorem scOdd : FnScope nOdd ["_law_deck_here"] (defScope sOdd) := ⟨rfl, rfl, rfl, by decide +kernel, rfl, by decide +kernel, by decide +kernel⟩
def odd1 : List PyData := [.none, .bool true, .bool false, .int 0, .int 1, .int 2, .int 5, .int 6, .int 9, .int 10, .int (-1), .int (10 ^ (Int.toNat 30)), .str "", .str "0", .str "add", .tuple [], .list [], .dict [], .tuple [.int 0], .tuple [.int 1], .tuple [.int 0, .int 1]]
def odd2 : List PyData := [.list [.int 0], .tuple [.bool true], .tuple [.none], .tuple [.tuple []], .tuple [.tuple [.int 0]], .tuple [.int 0, .int 0], .tuple [.int 1, .int 0], .tuple [.tuple [.int 0, .bool true], .int 1], .tuple [.int 1, .int 0, .int 1], .str "several"]
def odd3 : List PyData := [.tuple [.tuple [.int 0, .bool true]], .tuple [.tuple [.tuple [.int 0, .bool true]], .int 1], .tuple [.int 0, .bool true], .tuple [.int 0, .int 1, .int 2], .dict [(.int 0, .int 1)], .tuple [.str "full", .tuple []], .tuple [.str "0"], .tuple [.int 0, .list [.int 1]]]
def odd4 : List PyData := [.tuple [.list []], .tuple [.dict []]]
def oddA : List PyData := odd1 ++ odd2 ++ odd3 ++ odd4
theorem odd_len : oddA.length = 41 := rfl
theorem odd_depth : (oddA.all fun d => decide (d.depth ≤ 4)) = true := by decide +kernel
section
variable {X : Cx}
end
def spOdd : Sp := fun vs H Q _ => ∃ (d la lb : Addr) (b : Nat), vs = [.ref d] ∧ DeckAt H d la lb (b + 1) ∧
  ∀ (x : V) (D : PyData) H', DeckAt H' d la lb b → Keep (dk d la) H H' → Da (trk H) H' x D → D.depth ≤ 4 → Q x H'
theorem DaAll.app {av : Addr → Prop} {H : Hp} : ∀ {xs ys : List V} {ds es : List PyData}, DaAll av H xs ds → DaAll av H ys es → DaAll av H (xs ++ ys) (ds ++ es)
  | _, _, _, _, .nil, r => r
  | _, _, _, _, .cons h t, r => .cons h (DaAll.app t r)
section
variable {P : Program} {w : World} {K : PySem.W.Frag} {mg : Str → Option Value} {base : Heap}
theorem ok_odd {f fN : Addr} {fd fdN : FuncData} {k : Nat} (F : Fun K "_law_odd" "_law_odd" sOdd f fd) (B : Bl mg) (FN : Fun K "_law_next" "_law_next" sNext fN fdN) (bN : Binds K fdN ["_law_deck_here", "_law_many"] []) (gN : mg "_law_next" = some (.ref fN)) : FnOk P w K mg base CX0 (k + 2) f fd ["_law_deck_here"] spOdd := by
  have GN : FnOk P w K mg base CX0 (k + 1) fN fdN ["_law_deck_here", "_law_many"] spNext := ok_next FN B.int B.len
  refine F.ok scOdd (fun vs H Q E h => ?_) (fun cdv A outer s H vs Q E hr h => ?_)
  · obtain ⟨d, la, lb, b, rfl, _⟩ := h
    rfl
  · obtain ⟨d, la, lb, b, rfl, D, q⟩ := h
    have hr1 : Room (k + 1) _ := hr
    refine ⟨_, pss_cons (ps_set (i := 1) scOdd.nd rfl (.inl rfl) (pd_lst (ds := odd1) (hl := show 21 ≤ 1000 by decide) (pds_cons pd_non (pds_cons pd_bl (pds_cons pd_bl (pds_cons pd_int (pds_cons pd_int (pds_cons pd_int (pds_cons pd_int (pds_cons pd_int (pds_cons pd_int (pds_cons pd_int (pds_cons pd_neg (pds_cons (pd_pow ⟨by decide, by decide, by decide⟩) (pds_cons pd_str (pds_cons pd_str (pds_cons pd_str (pds_cons (pd_tup pds_nil) (pds_cons (pd_lst pds_nil) (pds_cons pd_d0 (pds_cons (pd_tup (pds_cons pd_int pds_nil)) (pds_cons (pd_tup (pds_cons pd_int pds_nil)) (pds_cons (pd_tup (pds_cons pd_int (pds_cons pd_int pds_nil))) pds_nil)))))))))))))))))))))))
      (pss_cons (ps_set (i := 1) scOdd.nd rfl (.inl rfl) (pe_op op_cat (pv 1) (pd_lst (ds := odd2) (hl := show 10 ≤ 1000 by decide) (pds_cons (pd_lst (pds_cons pd_int pds_nil)) (pds_cons (pd_tup (pds_cons pd_bl pds_nil)) (pds_cons (pd_tup (pds_cons pd_non pds_nil)) (pds_cons (pd_tup (pds_cons (pd_tup pds_nil) pds_nil)) (pds_cons (pd_tup (pds_cons (pd_tup (pds_cons pd_int pds_nil)) pds_nil)) (pds_cons (pd_tup (pds_cons pd_int (pds_cons pd_int pds_nil))) (pds_cons (pd_tup (pds_cons pd_int (pds_cons pd_int pds_nil))) (pds_cons (pd_tup (pds_cons (pd_tup (pds_cons pd_int (pds_cons pd_bl pds_nil))) (pds_cons pd_int pds_nil))) (pds_cons (pd_tup (pds_cons pd_int (pds_cons pd_int (pds_cons pd_int pds_nil)))) (pds_cons pd_str pds_nil)))))))))))))
      (pss_cons (ps_set (i := 1) scOdd.nd rfl (.inl rfl) (pe_op op_cat (pv 1) (pd_lst (ds := odd3) (hl := show 8 ≤ 1000 by decide) (pds_cons (pd_tup (pds_cons (pd_tup (pds_cons pd_int (pds_cons pd_bl pds_nil))) pds_nil)) (pds_cons (pd_tup (pds_cons (pd_tup (pds_cons (pd_tup (pds_cons pd_int (pds_cons pd_bl pds_nil))) pds_nil)) (pds_cons pd_int pds_nil))) (pds_cons (pd_tup (pds_cons pd_int (pds_cons pd_bl pds_nil))) (pds_cons (pd_tup (pds_cons pd_int (pds_cons pd_int (pds_cons pd_int pds_nil)))) (pds_cons pd_d1 (pds_cons (pd_tup (pds_cons pd_str (pds_cons (pd_tup pds_nil) pds_nil))) (pds_cons (pd_tup (pds_cons pd_str pds_nil)) (pds_cons (pd_tup (pds_cons pd_int (pds_cons (pd_lst (pds_cons pd_int pds_nil)) pds_nil))) pds_nil)))))))))))
      (pss_cons (ps_set (i := 1) scOdd.nd rfl (.inl rfl) (pe_op op_cat (pv 1) (pd_lst (ds := odd4) (hl := show 2 ≤ 1000 by decide) (pds_cons (pd_tup (pds_cons (pd_lst pds_nil) pds_nil)) (pds_cons (pd_tup (pds_cons pd_d0 pds_nil)) pds_nil)))))
      (pss_one (ps_ret (pe_ix ix_list (pv 1) (pe_call GN hr1 (by rfl) gN FN.kp bN .nil pass0 (pa_cons (pv 0) (pa_cons (pe_callB call_len_seq (by rfl) B.len PySem.boot_len (pa_cons (pv 1) pa_nil)) pa_nil))) (fun _ _ => rfl))))))), ?_⟩
    -- one after another
    intro v1 H1 s1 h1
    cases h1 with
    | @lst l1 xs1 _ n1 e1 z1 a1 =>
      refine ⟨_, rfl, fun v2 H2 s2 h2 => ?_⟩
      cases h2 with
      | @lst l2 xs2 _ n2 e2 z2 a2 =>
        refine ⟨l1, l2, xs1, xs2, rfl, rfl, s2 _ _ e1, e2, Nat.le_of_lt (small1000 ?_), fun p np => ?_⟩
        · rw [a1.length, a2.length]; decide
        have s3 := same_new (o := HO.lst (xs1 ++ xs2)) np
        have b1 : DaAll (trk H) _ (xs1 ++ xs2) (odd1 ++ odd2) := DaAll.app (a1.keep (.of_same (s2.trans s3))) ((a2.keep (.of_same s3)).sub (trk_mono s1))
        have t1 := s1.trans (s2.trans s3)
        have f1 : (upd H2 p (HO.lst (xs1 ++ xs2))) p = some (.lst (xs1 ++ xs2)) := upd_same
        clear s3
        generalize upd H2 p (HO.lst (xs1 ++ xs2)) = H3 at b1 t1 f1 ⊢
        refine ⟨_, rfl, fun v2 H4 s4 h4 => ?_⟩
        cases h4 with
        | @lst l4 xs4 _ n4 e4 z4 a4 =>
          refine ⟨p, l4, _, xs4, rfl, rfl, s4 _ _ f1, e4, Nat.le_of_lt (small1000 ?_), fun p5 np5 => ?_⟩
          · rw [b1.length, a4.length]; decide
          have s5 := same_new (o := HO.lst (xs1 ++ xs2 ++ xs4)) np5
          have b5 : DaAll (trk H) _ (xs1 ++ xs2 ++ xs4) (odd1 ++ odd2 ++ odd3) := DaAll.app (b1.keep (.of_same (s4.trans s5))) ((a4.keep (.of_same s5)).sub (trk_mono t1))
          have t5 := t1.trans (s4.trans s5)
          have f5 : (upd H4 p5 (HO.lst (xs1 ++ xs2 ++ xs4))) p5 = some (.lst (xs1 ++ xs2 ++ xs4)) := upd_same
          clear s5
          generalize upd H4 p5 (HO.lst (xs1 ++ xs2 ++ xs4)) = H5 at b5 t5 f5 ⊢
          refine ⟨_, rfl, fun v6 H6 s6 h6 => ?_⟩
          cases h6 with
          | @lst l6 xs6 _ n6 e6 z6 a6 =>
            refine ⟨p5, l6, _, xs6, rfl, rfl, s6 _ _ f5, e6, Nat.le_of_lt (small1000 ?_), fun p7 np7 => ?_⟩
            · rw [b5.length, a6.length]; decide
            have s7 := same_new (o := HO.lst (xs1 ++ xs2 ++ xs4 ++ xs6)) np7
            have b7 : DaAll (trk H) _ (xs1 ++ xs2 ++ xs4 ++ xs6) oddA := DaAll.app (b5.keep (.of_same (s6.trans s7))) ((a6.keep (.of_same s7)).sub (trk_mono t5))
            have t7 := t5.trans (s6.trans s7)
            have f7 : (upd H6 p7 (HO.lst (xs1 ++ xs2 ++ xs4 ++ xs6))) p7 = some (.lst (xs1 ++ xs2 ++ xs4 ++ xs6)) := upd_same
            have nH7 : H p7 = none := (t5.trans s6).free np7
            clear s7
            generalize xs1 ++ xs2 ++ xs4 ++ xs6 = ys at b7 f7 t7 ⊢
            generalize upd H6 p7 (HO.lst ys) = H7 at b7 t7 f7 ⊢
            have hl : ys.length = 41 := b7.length.trans odd_len
            -- the draw
            refine ⟨_, rfl, _, rfl, _, rfl, p7, ys, rfl, .inl (SqL.of f7), ?_⟩
            refine ⟨d, la, lb, _, b, rfl, by rw [hl]; decide, by rw [hl]; decide, D.same t7, fun v H8 hv0 hv1 D8 k8 => ?_⟩
            have np : ¬ dk d la p7 := by
              intro z
              have tr := D.tracked
              rcases z with z | z
              · rw [z] at nH7; exact tr.1 nH7
              · rw [z] at nH7; exact tr.2.1 nH7
            have hvn : v.toNat < ys.length := by omega
            have b8 : DaAll (trk H) H8 ys oddA := b7.keep (fun c o hc nc => k8 c o hc (fun z => nc (by
              have tr := D.tracked
              rcases z with z | z
              · rw [z]; exact tr.1
              · rw [z]; exact tr.2.1)))
            obtain ⟨dd, g1, g2⟩ := b8.get (List.getElem?_eq_getElem hvn)
            refine ⟨p7, ys, v, ys[v.toNat], rfl, rfl, SqL.of (k8 _ _ f7 np), at_of (j := v.toNat) (by omega) (List.getElem?_eq_getElem hvn), ?_⟩
            refine q _ dd H8 D8 (fun c o hc nc => k8 c o (t7 _ _ hc) nc) g2 ?_
            have z := List.all_eq_true.mp odd_depth dd (List.mem_of_getElem? g1)
            exact of_decide_eq_true z
end
end Kc

set_option Elab.async false
set_option linter.all false
set_option maxRecDepth 100000
set_option maxHeartbeats 4000000
namespace Kc
open PySem PySem.Spec PyProof.Rows L2 Kg Kd Kx
abbrev sKinds : Stmt := topS 28
abbrev nKinds : List Str := ["_law_error", "_law_found", "_law_name", "_law_hit"]
theorem scKinds : FnScope nKinds ["_law_error"] (defScope sKinds) := ⟨rfl, rfl, rfl, by decide +kernel, rfl, by decide +kernel, by decide +kernel⟩
def hitN : List Str := ["Against", "BadChoice", "BadEdits", "BadKinds", "BadText", "BadTree", "BadWishes", "Full", "Idle", "NoKind", "NothingToUndo", "Rejected", "TooMany"]
/-- the names that hit -/
def pick : List Str → List Bool → List Str
  | n :: ns, b :: bs => (if b then [n] else []) ++ pick ns bs
  | _, _ => []
def hitL : List Str → List Bool → List PyData
  | n :: ns, b :: bs => .tuple [.str n, .bool b] :: hitL ns bs
  | _, _ => []
theorem hit_at : ∀ {ns : List Str} {bs : List Bool} {i : Nat} {d : PyData}, (hitL ns bs)[i]? = some d → ∃ n b, ns[i]? = some n ∧ bs[i]? = some b ∧ d = .tuple [.str n, .bool b]
  | [], _, _, _, h => by simp [hitL] at h
  | _ :: _, [], _, _, h => by simp [hitL] at h
  | n :: ns, b :: bs, 0, d, h => ⟨n, b, rfl, rfl, by simp [hitL] at h; exact h.symm⟩
  | n :: ns, b :: bs, i + 1, d, h => by
    obtain ⟨n', b', h1, h2, h3⟩ := hit_at (ns := ns) (bs := bs) (i := i) (d := d) (by simpa [hitL] using h)
    exact ⟨n', b', by simpa using h1, by simpa using h2, h3⟩
theorem pick_len : ∀ (ns : List Str) (bs : List Bool), (pick ns bs).length ≤ ns.length
  | [], _ => by simp [pick]
  | _ :: _, [] => by simp [pick]
  | n :: ns, b :: bs => by
    have z := pick_len ns bs
    cases b <;> simp [pick] <;> omega
theorem pick_succ : ∀ {ns : List Str} {bs : List Bool} {i : Nat} {n : Str} {b : Bool}, ns[i]? = some n → bs[i]? = some b → pick (ns.take (i + 1)) bs = pick (ns.take i) bs ++ (if b then [n] else [])
  | [], _, _, _, _, h, _ => by simp at h
  | _ :: _, [], _, _, _, _, h => by simp at h
  | n :: ns, b :: bs, 0, n', b', h, h2 => by
    simp at h h2
    simp [pick, h, h2]
  | n :: ns, b :: bs, i + 1, n', b', h, h2 => by
    have z := pick_succ (ns := ns) (bs := bs) (i := i) (n := n') (b := b') (by simpa using h) (by simpa using h2)
    simp only [List.take_succ_cons, pick, z, List.append_assoc]
/-- what isinstance answers of the thirteen -/
abbrev Kits (K : PySem.W.Frag) (C : Addr) (cs : List Addr) (bs : List Bool) : Prop := Paired (fun c b => PySem.W.kitOne K (.ref C) (.ref c) = some b) cs bs
def spKinds (K : PySem.W.Frag) (cs : List Addr) : Sp := fun vs H Q _ => ∃ (a C : Addr) (fs : List (Str × V)) (bs : List Bool), vs = [.ref a] ∧ Exv H a C fs ∧ ExcC K C ∧ Kits K C cs bs ∧
  ∀ H' l, Same H H' → H l = none → H' l = some (.lst ((pick hitN bs).map V.str)) → Q (.ref l) H'
theorem isd {K : PySem.W.Frag} {a C c : Addr} {fs : List (Str × V)} {b : Bool} (T : ExcC K C) (k : PySem.W.kitOne K (.ref C) (.ref c) = some b) (σ : L2.St) (H : Hp) (Q : VK) (z : tDatP (fun σ H => σ[0]? = some (some (.ref a)) ∧ Exv H a C fs) (.bool b) σ H Q) :
    tCB (rIsX K) (tCons (tVar 0) (tCons (tC (.ref c)) tNil)) σ H Q := ⟨.ref a, z.1.1, a, C, fs, .ref c, .ref c, b, rfl, z.1.2, T, .own c, k, z.2 _ H (Same.refl H) (.bl b)⟩
theorem st_exv {a C : Addr} {fs : List (Str × V)} : Stays (fun σ H => σ[0]? = some (some (.ref a)) ∧ Exv H a C fs) := fun _ _ _ s h => ⟨h.1, h.2.same s⟩
theorem kits_cons {K : PySem.W.Frag} {C c : Addr} {cs : List Addr} {b : Bool} {bs : List Bool} (h : Kits K C (c :: cs) (b :: bs)) : PySem.W.kitOne K (.ref C) (.ref c) = some b ∧ Kits K C cs bs := by
  cases h with
  | cons x r => exact ⟨x, r⟩
section
variable {P : Program} {w : World} {K : PySem.W.Frag} {mg : Str → Option Value} {base : Heap}
theorem ok_kinds {f : Addr} {fd : FuncData} {k : Nat} {c0 c1 c2 c3 c4 c5 c6 c7 c8 c9 c10 c11 c12 : Addr} (F : Fun K "_law_kinds" "_law_kinds" sKinds f fd) (B : Bl mg)
    (g0 : mg "Against" = some (.ref c0))
    (g1 : mg "BadChoice" = some (.ref c1))
    (g2 : mg "BadEdits" = some (.ref c2))
    (g3 : mg "BadKinds" = some (.ref c3))
    (g4 : mg "BadText" = some (.ref c4))
    (g5 : mg "BadTree" = some (.ref c5))
    (g6 : mg "BadWishes" = some (.ref c6))
    (g7 : mg "Full" = some (.ref c7))
    (g8 : mg "Idle" = some (.ref c8))
    (g9 : mg "NoKind" = some (.ref c9))
    (g10 : mg "NothingToUndo" = some (.ref c10))
    (g11 : mg "Rejected" = some (.ref c11))
    (g12 : mg "TooMany" = some (.ref c12)) : FnOk P w K mg base CX0 (k + 1) f fd ["_law_error"] (spKinds K [c0, c1, c2, c3, c4, c5, c6, c7, c8, c9, c10, c11, c12]) := by
  refine F.ok scKinds (fun vs H Q E h => ?_) (fun cdv A outer s H vs Q E hr h => ?_)
  · obtain ⟨a, C, fs, bs, rfl, _⟩ := h
    rfl
  · obtain ⟨a, C, fs, bs, rfl, hx, T, kt, q⟩ := h
    obtain ⟨b0, b1, b2, b3, b4, b5, b6, b7, b8, b9, b10, b11, b12, rfl⟩ : ∃ b0 b1 b2 b3 b4 b5 b6 b7 b8 b9 b10 b11 b12, bs = [b0, b1, b2, b3, b4, b5, b6, b7, b8, b9, b10, b11, b12] := by
      have hl : bs.length = 13 := (Paired.length kt).symm
      match bs, hl with
      | [b0, b1, b2, b3, b4, b5, b6, b7, b8, b9, b10, b11, b12], _ => exact ⟨b0, b1, b2, b3, b4, b5, b6, b7, b8, b9, b10, b11, b12, rfl⟩
    obtain ⟨k0, kt⟩ := kits_cons kt
    obtain ⟨k1, kt⟩ := kits_cons kt
    obtain ⟨k2, kt⟩ := kits_cons kt
    obtain ⟨k3, kt⟩ := kits_cons kt
    obtain ⟨k4, kt⟩ := kits_cons kt
    obtain ⟨k5, kt⟩ := kits_cons kt
    obtain ⟨k6, kt⟩ := kits_cons kt
    obtain ⟨k7, kt⟩ := kits_cons kt
    obtain ⟨k8, kt⟩ := kits_cons kt
    obtain ⟨k9, kt⟩ := kits_cons kt
    obtain ⟨k10, kt⟩ := kits_cons kt
    obtain ⟨k11, kt⟩ := kits_cons kt
    obtain ⟨k12, kt⟩ := kits_cons kt
    have st := st_exv (a := a) (C := C) (fs := fs)
    refine ⟨_, pss_cons (ps_set (i := 1) scKinds.nd rfl (.inl rfl) (pdp_lst (pdps_cons st (pdp_tup (pdps_cons st (pdp_of pd_str) (pdps_cons st (pe_imp (pe_callB call_isX (by rfl) B.isi boot_isinstance (pa_cons (pv 0) (pa_cons (pe_glob (v := .ref c0) (by rfl) g0 rfl) pa_nil))) (isd T k0)) pdps_nil))) (pdps_cons st (pdp_tup (pdps_cons st (pdp_of pd_str) (pdps_cons st (pe_imp (pe_callB call_isX (by rfl) B.isi boot_isinstance (pa_cons (pv 0) (pa_cons (pe_glob (v := .ref c1) (by rfl) g1 rfl) pa_nil))) (isd T k1)) pdps_nil))) pdps_nil))))
      (pss_cons (ps_set (i := 1) scKinds.nd rfl (.inl rfl) (pe_op op_cat (pv 1) (pdp_lst (pdps_cons st (pdp_tup (pdps_cons st (pdp_of pd_str) (pdps_cons st (pe_imp (pe_callB call_isX (by rfl) B.isi boot_isinstance (pa_cons (pv 0) (pa_cons (pe_glob (v := .ref c2) (by rfl) g2 rfl) pa_nil))) (isd T k2)) pdps_nil))) (pdps_cons st (pdp_tup (pdps_cons st (pdp_of pd_str) (pdps_cons st (pe_imp (pe_callB call_isX (by rfl) B.isi boot_isinstance (pa_cons (pv 0) (pa_cons (pe_glob (v := .ref c3) (by rfl) g3 rfl) pa_nil))) (isd T k3)) pdps_nil))) pdps_nil)))))
      (pss_cons (ps_set (i := 1) scKinds.nd rfl (.inl rfl) (pe_op op_cat (pv 1) (pdp_lst (pdps_cons st (pdp_tup (pdps_cons st (pdp_of pd_str) (pdps_cons st (pe_imp (pe_callB call_isX (by rfl) B.isi boot_isinstance (pa_cons (pv 0) (pa_cons (pe_glob (v := .ref c4) (by rfl) g4 rfl) pa_nil))) (isd T k4)) pdps_nil))) (pdps_cons st (pdp_tup (pdps_cons st (pdp_of pd_str) (pdps_cons st (pe_imp (pe_callB call_isX (by rfl) B.isi boot_isinstance (pa_cons (pv 0) (pa_cons (pe_glob (v := .ref c5) (by rfl) g5 rfl) pa_nil))) (isd T k5)) pdps_nil))) pdps_nil)))))
      (pss_cons (ps_set (i := 1) scKinds.nd rfl (.inl rfl) (pe_op op_cat (pv 1) (pdp_lst (pdps_cons st (pdp_tup (pdps_cons st (pdp_of pd_str) (pdps_cons st (pe_imp (pe_callB call_isX (by rfl) B.isi boot_isinstance (pa_cons (pv 0) (pa_cons (pe_glob (v := .ref c6) (by rfl) g6 rfl) pa_nil))) (isd T k6)) pdps_nil))) (pdps_cons st (pdp_tup (pdps_cons st (pdp_of pd_str) (pdps_cons st (pe_imp (pe_callB call_isX (by rfl) B.isi boot_isinstance (pa_cons (pv 0) (pa_cons (pe_glob (v := .ref c7) (by rfl) g7 rfl) pa_nil))) (isd T k7)) pdps_nil))) pdps_nil)))))
      (pss_cons (ps_set (i := 1) scKinds.nd rfl (.inl rfl) (pe_op op_cat (pv 1) (pdp_lst (pdps_cons st (pdp_tup (pdps_cons st (pdp_of pd_str) (pdps_cons st (pe_imp (pe_callB call_isX (by rfl) B.isi boot_isinstance (pa_cons (pv 0) (pa_cons (pe_glob (v := .ref c8) (by rfl) g8 rfl) pa_nil))) (isd T k8)) pdps_nil))) (pdps_cons st (pdp_tup (pdps_cons st (pdp_of pd_str) (pdps_cons st (pe_imp (pe_callB call_isX (by rfl) B.isi boot_isinstance (pa_cons (pv 0) (pa_cons (pe_glob (v := .ref c9) (by rfl) g9 rfl) pa_nil))) (isd T k9)) pdps_nil))) pdps_nil)))))
      (pss_cons (ps_set (i := 1) scKinds.nd rfl (.inl rfl) (pe_op op_cat (pv 1) (pdp_lst (pdps_cons st (pdp_tup (pdps_cons st (pdp_of pd_str) (pdps_cons st (pe_imp (pe_callB call_isX (by rfl) B.isi boot_isinstance (pa_cons (pv 0) (pa_cons (pe_glob (v := .ref c10) (by rfl) g10 rfl) pa_nil))) (isd T k10)) pdps_nil))) (pdps_cons st (pdp_tup (pdps_cons st (pdp_of pd_str) (pdps_cons st (pe_imp (pe_callB call_isX (by rfl) B.isi boot_isinstance (pa_cons (pv 0) (pa_cons (pe_glob (v := .ref c11) (by rfl) g11 rfl) pa_nil))) (isd T k11)) pdps_nil))) pdps_nil)))))
      (pss_cons (ps_set (i := 1) scKinds.nd rfl (.inl rfl) (pe_op op_cat (pv 1) (pdp_lst (pdps_cons st (pdp_tup (pdps_cons st (pdp_of pd_str) (pdps_cons st (pe_imp (pe_callB call_isX (by rfl) B.isi boot_isinstance (pa_cons (pv 0) (pa_cons (pe_glob (v := .ref c12) (by rfl) g12 rfl) pa_nil))) (isd T k12)) pdps_nil))) pdps_nil))))
      (pss_one (ps_ret (pe_lc (own := [("_law_name", 2), ("_law_hit", 3)]) (g := gTup K 2 (gCons (gName 2) (gCons (gName 3) gNil))) rfl scKinds.nd (pi_list (pv 1)) (blkOk_by (N := nKinds) (sc := defScope sKinds) (by decide +kernel))
          (fun _ _ _ _ _ => pg_tup rfl (pgs_cons (pg_name (i := 2) scKinds.nd rfl (.inl rfl)) (pgs_cons (pg_name (i := 3) scKinds.nd rfl (.inl rfl)) pgs_nil))) (fun _ _ _ _ _ => pts_one (pt_val (pv 3))) (fun _ _ _ _ _ => pv 2)))))))))), ?_⟩
    refine ⟨⟨rfl, hx⟩, fun v0 H1 s1 h1 => ?_⟩
    cases h1 with
    | @lst l0 xs0 _ n0 e0 z0 a0 =>
      refine ⟨_, rfl, ⟨rfl, hx.same s1⟩, fun v1 G1 t1 h1 => ?_⟩
      cases h1 with
      | @lst m1 ys1 _ n1 e1 z1 a1 =>
      refine ⟨l0, m1, xs0, ys1, rfl, rfl, t1 _ _ e0, e1, Nat.le_of_lt (small1000 (by rw [a0.length, a1.length]; simp)), fun l1 p1 => ?_⟩
      have u1 := same_new (o := HO.lst (xs0 ++ ys1)) p1
      have A1 : DaAll (trk H) _ (xs0 ++ ys1) ([.tuple [.str "Against", .bool b0], .tuple [.str "BadChoice", .bool b1]] ++ [.tuple [.str "BadEdits", .bool b2], .tuple [.str "BadKinds", .bool b3]]) := DaAll.app (a0.keep (.of_same (t1.trans u1))) ((a1.keep (.of_same u1)).sub (trk_mono s1))
      have S1 := s1.trans (t1.trans u1)
      have E1 : (upd G1 l1 (HO.lst (xs0 ++ ys1))) l1 = some (.lst (xs0 ++ ys1)) := upd_same
      have L1 : H l1 = none := (s1.trans t1).free p1
      clear u1
      generalize xs0 ++ ys1 = X1 at A1 E1 S1 ⊢
      generalize upd G1 l1 (HO.lst X1) = K1 at A1 E1 S1 ⊢
      refine ⟨_, rfl, ⟨rfl, hx.same S1⟩, fun v2 G2 t2 h2 => ?_⟩
      cases h2 with
      | @lst m2 ys2 _ n2 e2 z2 a2 =>
      refine ⟨l1, m2, X1, ys2, rfl, rfl, t2 _ _ E1, e2, Nat.le_of_lt (small1000 (by rw [A1.length, a2.length]; simp)), fun l2 p2 => ?_⟩
      have u2 := same_new (o := HO.lst (X1 ++ ys2)) p2
      have A2 : DaAll (trk H) _ (X1 ++ ys2) ([.tuple [.str "Against", .bool b0], .tuple [.str "BadChoice", .bool b1], .tuple [.str "BadEdits", .bool b2], .tuple [.str "BadKinds", .bool b3]] ++ [.tuple [.str "BadText", .bool b4], .tuple [.str "BadTree", .bool b5]]) := DaAll.app (A1.keep (.of_same (t2.trans u2))) ((a2.keep (.of_same u2)).sub (trk_mono S1))
      have S2 := S1.trans (t2.trans u2)
      have E2 : (upd G2 l2 (HO.lst (X1 ++ ys2))) l2 = some (.lst (X1 ++ ys2)) := upd_same
      have L2 : H l2 = none := (S1.trans t2).free p2
      clear u2
      generalize X1 ++ ys2 = X2 at A2 E2 S2 ⊢
      generalize upd G2 l2 (HO.lst X2) = K2 at A2 E2 S2 ⊢
      refine ⟨_, rfl, ⟨rfl, hx.same S2⟩, fun v3 G3 t3 h3 => ?_⟩
      cases h3 with
      | @lst m3 ys3 _ n3 e3 z3 a3 =>
      refine ⟨l2, m3, X2, ys3, rfl, rfl, t3 _ _ E2, e3, Nat.le_of_lt (small1000 (by rw [A2.length, a3.length]; simp)), fun l3 p3 => ?_⟩
      have u3 := same_new (o := HO.lst (X2 ++ ys3)) p3
      have A3 : DaAll (trk H) _ (X2 ++ ys3) ([.tuple [.str "Against", .bool b0], .tuple [.str "BadChoice", .bool b1], .tuple [.str "BadEdits", .bool b2], .tuple [.str "BadKinds", .bool b3], .tuple [.str "BadText", .bool b4], .tuple [.str "BadTree", .bool b5]] ++ [.tuple [.str "BadWishes", .bool b6], .tuple [.str "Full", .bool b7]]) := DaAll.app (A2.keep (.of_same (t3.trans u3))) ((a3.keep (.of_same u3)).sub (trk_mono S2))
      have S3 := S2.trans (t3.trans u3)
      have E3 : (upd G3 l3 (HO.lst (X2 ++ ys3))) l3 = some (.lst (X2 ++ ys3)) := upd_same
      have L3 : H l3 = none := (S2.trans t3).free p3
      clear u3
      generalize X2 ++ ys3 = X3 at A3 E3 S3 ⊢
      generalize upd G3 l3 (HO.lst X3) = K3 at A3 E3 S3 ⊢
      refine ⟨_, rfl, ⟨rfl, hx.same S3⟩, fun v4 G4 t4 h4 => ?_⟩
      cases h4 with
      | @lst m4 ys4 _ n4 e4 z4 a4 =>
      refine ⟨l3, m4, X3, ys4, rfl, rfl, t4 _ _ E3, e4, Nat.le_of_lt (small1000 (by rw [A3.length, a4.length]; simp)), fun l4 p4 => ?_⟩
      have u4 := same_new (o := HO.lst (X3 ++ ys4)) p4
      have A4 : DaAll (trk H) _ (X3 ++ ys4) ([.tuple [.str "Against", .bool b0], .tuple [.str "BadChoice", .bool b1], .tuple [.str "BadEdits", .bool b2], .tuple [.str "BadKinds", .bool b3], .tuple [.str "BadText", .bool b4], .tuple [.str "BadTree", .bool b5], .tuple [.str "BadWishes", .bool b6], .tuple [.str "Full", .bool b7]] ++ [.tuple [.str "Idle", .bool b8], .tuple [.str "NoKind", .bool b9]]) := DaAll.app (A3.keep (.of_same (t4.trans u4))) ((a4.keep (.of_same u4)).sub (trk_mono S3))
      have S4 := S3.trans (t4.trans u4)
      have E4 : (upd G4 l4 (HO.lst (X3 ++ ys4))) l4 = some (.lst (X3 ++ ys4)) := upd_same
      have L4 : H l4 = none := (S3.trans t4).free p4
      clear u4
      generalize X3 ++ ys4 = X4 at A4 E4 S4 ⊢
      generalize upd G4 l4 (HO.lst X4) = K4 at A4 E4 S4 ⊢
      refine ⟨_, rfl, ⟨rfl, hx.same S4⟩, fun v5 G5 t5 h5 => ?_⟩
      cases h5 with
      | @lst m5 ys5 _ n5 e5 z5 a5 =>
      refine ⟨l4, m5, X4, ys5, rfl, rfl, t5 _ _ E4, e5, Nat.le_of_lt (small1000 (by rw [A4.length, a5.length]; simp)), fun l5 p5 => ?_⟩
      have u5 := same_new (o := HO.lst (X4 ++ ys5)) p5
      have A5 : DaAll (trk H) _ (X4 ++ ys5) ([.tuple [.str "Against", .bool b0], .tuple [.str "BadChoice", .bool b1], .tuple [.str "BadEdits", .bool b2], .tuple [.str "BadKinds", .bool b3], .tuple [.str "BadText", .bool b4], .tuple [.str "BadTree", .bool b5], .tuple [.str "BadWishes", .bool b6], .tuple [.str "Full", .bool b7], .tuple [.str "Idle", .bool b8], .tuple [.str "NoKind", .bool b9]] ++ [.tuple [.str "NothingToUndo", .bool b10], .tuple [.str "Rejected", .bool b11]]) := DaAll.app (A4.keep (.of_same (t5.trans u5))) ((a5.keep (.of_same u5)).sub (trk_mono S4))
      have S5 := S4.trans (t5.trans u5)
      have E5 : (upd G5 l5 (HO.lst (X4 ++ ys5))) l5 = some (.lst (X4 ++ ys5)) := upd_same
      have L5 : H l5 = none := (S4.trans t5).free p5
      clear u5
      generalize X4 ++ ys5 = X5 at A5 E5 S5 ⊢
      generalize upd G5 l5 (HO.lst X5) = K5 at A5 E5 S5 ⊢
      refine ⟨_, rfl, ⟨rfl, hx.same S5⟩, fun v6 G6 t6 h6 => ?_⟩
      cases h6 with
      | @lst m6 ys6 _ n6 e6 z6 a6 =>
      refine ⟨l5, m6, X5, ys6, rfl, rfl, t6 _ _ E5, e6, Nat.le_of_lt (small1000 (by rw [A5.length, a6.length]; simp)), fun l6 p6 => ?_⟩
      have u6 := same_new (o := HO.lst (X5 ++ ys6)) p6
      have A6 : DaAll (trk H) _ (X5 ++ ys6) ([.tuple [.str "Against", .bool b0], .tuple [.str "BadChoice", .bool b1], .tuple [.str "BadEdits", .bool b2], .tuple [.str "BadKinds", .bool b3], .tuple [.str "BadText", .bool b4], .tuple [.str "BadTree", .bool b5], .tuple [.str "BadWishes", .bool b6], .tuple [.str "Full", .bool b7], .tuple [.str "Idle", .bool b8], .tuple [.str "NoKind", .bool b9], .tuple [.str "NothingToUndo", .bool b10], .tuple [.str "Rejected", .bool b11]] ++ [.tuple [.str "TooMany", .bool b12]]) := DaAll.app (A5.keep (.of_same (t6.trans u6))) ((a6.keep (.of_same u6)).sub (trk_mono S5))
      have S6 := S5.trans (t6.trans u6)
      have E6 : (upd G6 l6 (HO.lst (X5 ++ ys6))) l6 = some (.lst (X5 ++ ys6)) := upd_same
      have L6 : H l6 = none := (S5.trans t6).free p6
      clear u6
      generalize X5 ++ ys6 = X6 at A6 E6 S6 ⊢
      generalize upd G6 l6 (HO.lst X6) = K6 at A6 E6 S6 ⊢
      have A : DaAll (trk H) K6 X6 (hitL hitN [b0, b1, b2, b3, b4, b5, b6, b7, b8, b9, b10, b11, b12]) := A6
      refine ⟨_, rfl, l6, rfl, ⟨_, SqL.of E6⟩, fun D nD => ?_⟩
      have hl : X6.length = 13 := A.length
      refine lc_list (K := K) (a := l6) (xs := X6) (fun i H2 => Same K6 H2 ∧ H2 D = some (.lst ((pick (hitN.take i) [b0, b1, b2, b3, b4, b5, b6, b7, b8, b9, b10, b11, b12]).map V.str))) ⟨same_new nD, upd_same⟩ (fun i H2 _ p => p.1.seq (SqL.of E6)) (fun i x H2 hi p => ?_) (fun H2 p => ?_)
      · obtain ⟨dd, g1, g2⟩ := A.get hi
        obtain ⟨nm, b, hn, hb, rfl⟩ := hit_at g1
        cases g2 with
        | @tup T vs _ _ eT _ aT =>
        obtain ⟨v1, r1, rfl⟩ : ∃ v1 r1, vs = v1 :: r1 := by cases aT; exact ⟨_, _, rfl⟩
        obtain ⟨v2, rfl⟩ : ∃ v2, r1 = [v2] := by cases aT with | cons _ t => cases t with | cons _ t2 => cases t2; exact ⟨_, rfl⟩
        have q1 : v1 = .str nm := by cases aT with | cons z _ => cases z; rfl
        have q2 : v2 = .bl b := by cases aT with | cons _ t => cases t with | cons z _ => cases z; rfl
        subst q1 q2
        refine ⟨T, _, rfl, SqT.of (p.1 _ _ eT), rfl, .str nm, _, rfl, .bl b, _, rfl, rfl, rfl, _, rfl, b, rfl, ?_⟩
        have pk := pick_succ hn hb
        cases b with
        | true =>
          refine iteT ⟨_, rfl, _, p.2, ?_, ?_, ?_⟩
          · rw [List.length_map]
            exact Nat.lt_of_le_of_lt (pick_len _ _) (small1000 (Nat.le_trans (by rw [List.length_take]; exact Nat.min_le_right _ _) (show hitN.length ≤ 1000 by decide)))
          · exact fun bb o z => by rw [upd_ne (ne_of_none z nD)]; exact p.1 _ _ z
          · rw [upd_same, pk, List.map_append]; rfl
        | false =>
          refine iteF ⟨p.1, ?_⟩
          rw [pk, if_neg Bool.false_ne_true, List.append_nil]; exact p.2
      · refine q H2 D (S6.trans p.1) (S6.free nD) ?_
        rw [hl] at p
        exact p.2
end
end Kc

set_option Elab.async false
set_option linter.all false
set_option maxRecDepth 100000
set_option maxHeartbeats 4000000
namespace Kc
open PySem PySem.Spec PyProof.Rows L2 Kg Kd Kx
abbrev veT : List Value := [.type "ValueError", .type "Exception", .type "BaseException", .type "object"]
abbrev leT : List Value := [.type "LookupError", .type "Exception", .type "BaseException", .type "object"]
/-! ### the errors' own __init__ -/
def spI1 (f : Str) (C : Addr) : Sp := fun vs H Q _ => ∃ (a : Addr) (v : V), vs = [.ref a, v] ∧ H a = some (exo a C none) ∧ ∀ dx, H dx = none → dx ≠ a → Q .non (upd (upd H dx (exd dx [(f, v)])) a (exo a C (some dx)))
def spI2 (f g : Str) (C : Addr) : Sp := fun vs H Q _ => ∃ (a : Addr) (v u : V), vs = [.ref a, v, u] ∧ H a = some (exo a C none) ∧ ∀ dx, H dx = none → dx ≠ a → Q .non (upd (upd (upd H dx (exd dx [(f, v)])) a (exo a C (some dx))) dx (exd dx [(g, u), (f, v)]))
abbrev sAg : Stmt := inClass (topS 2) 0
abbrev sBE : Stmt := inClass (topS 4) 0
abbrev sBK : Stmt := inClass (topS 5) 0
abbrev sBT : Stmt := inClass (topS 6) 0
abbrev sBR : Stmt := inClass (topS 7) 0
abbrev sRe : Stmt := inClass (topS 12) 0
abbrev sTM : Stmt := inClass (topS 13) 0
abbrev sNK : Stmt := inClass (topS 14) 0
theorem scAg : FnScope ["self", "index", "lot"] ["self", "index", "lot"] (defScope sAg) := ⟨rfl, rfl, rfl, by decide +kernel, rfl, by decide +kernel, by decide +kernel⟩
theorem scBE : FnScope ["self", "index"] ["self", "index"] (defScope sBE) := ⟨rfl, rfl, rfl, by decide +kernel, rfl, by decide +kernel, by decide +kernel⟩
theorem scBK : FnScope ["self", "place"] ["self", "place"] (defScope sBK) := ⟨rfl, rfl, rfl, by decide +kernel, rfl, by decide +kernel, by decide +kernel⟩
theorem scBT : FnScope ["self", "line", "code"] ["self", "line", "code"] (defScope sBT) := ⟨rfl, rfl, rfl, by decide +kernel, rfl, by decide +kernel, by decide +kernel⟩
theorem scBR : FnScope ["self", "place"] ["self", "place"] (defScope sBR) := ⟨rfl, rfl, rfl, by decide +kernel, rfl, by decide +kernel, by decide +kernel⟩
theorem scRe : FnScope ["self", "index", "error"] ["self", "index", "error"] (defScope sRe) := ⟨rfl, rfl, rfl, by decide +kernel, rfl, by decide +kernel, by decide +kernel⟩
theorem scTM : FnScope ["self", "limit"] ["self", "limit"] (defScope sTM) := ⟨rfl, rfl, rfl, by decide +kernel, rfl, by decide +kernel, by decide +kernel⟩
theorem scNK : FnScope ["self", "kind"] ["self", "kind"] (defScope sNK) := ⟨rfl, rfl, rfl, by decide +kernel, rfl, by decide +kernel, by decide +kernel⟩
section
variable {P : Program} {w : World} {K : PySem.W.Frag} {mg : Str → Option Value} {base : Heap} {f : Addr} {fd : FuncData} {C : Addr} {k : Nat}
theorem ok_iBE (F : Fun K "__init__" "BadEdits.__init__" sBE f fd) (T : StX K C veT) (h1 : PySem.W.takerIn K C "index" = some none) : FnOk P w K mg base CX0 (k + 1) f fd ["self", "index"] (spI1 "index" C) := by
  refine F.ok scBE (fun vs H Q E h => ?_) (fun cdv A outer s H vs Q E hr h => ?_)
  · obtain ⟨a, v, rfl, _⟩ := h
    rfl
  · obtain ⟨a, v, rfl, ha, q⟩ := h
    exact ⟨_, pss_one (ps_stx (bmB := veT) PySem.F.store_ValueError (pv 0) (pv 1)), ⟨v, rfl, .ref a, rfl, a, C, rfl, T, h1, ha, q⟩⟩
theorem ok_iBK (F : Fun K "__init__" "BadKinds.__init__" sBK f fd) (T : StX K C veT) (h1 : PySem.W.takerIn K C "place" = some none) : FnOk P w K mg base CX0 (k + 1) f fd ["self", "place"] (spI1 "place" C) := by
  refine F.ok scBK (fun vs H Q E h => ?_) (fun cdv A outer s H vs Q E hr h => ?_)
  · obtain ⟨a, v, rfl, _⟩ := h
    rfl
  · obtain ⟨a, v, rfl, ha, q⟩ := h
    exact ⟨_, pss_one (ps_stx (bmB := veT) PySem.F.store_ValueError (pv 0) (pv 1)), ⟨v, rfl, .ref a, rfl, a, C, rfl, T, h1, ha, q⟩⟩
theorem ok_iBR (F : Fun K "__init__" "BadTree.__init__" sBR f fd) (T : StX K C veT) (h1 : PySem.W.takerIn K C "place" = some none) : FnOk P w K mg base CX0 (k + 1) f fd ["self", "place"] (spI1 "place" C) := by
  refine F.ok scBR (fun vs H Q E h => ?_) (fun cdv A outer s H vs Q E hr h => ?_)
  · obtain ⟨a, v, rfl, _⟩ := h
    rfl
  · obtain ⟨a, v, rfl, ha, q⟩ := h
    exact ⟨_, pss_one (ps_stx (bmB := veT) PySem.F.store_ValueError (pv 0) (pv 1)), ⟨v, rfl, .ref a, rfl, a, C, rfl, T, h1, ha, q⟩⟩
theorem ok_iTM (F : Fun K "__init__" "TooMany.__init__" sTM f fd) (T : StX K C veT) (h1 : PySem.W.takerIn K C "limit" = some none) : FnOk P w K mg base CX0 (k + 1) f fd ["self", "limit"] (spI1 "limit" C) := by
  refine F.ok scTM (fun vs H Q E h => ?_) (fun cdv A outer s H vs Q E hr h => ?_)
  · obtain ⟨a, v, rfl, _⟩ := h
    rfl
  · obtain ⟨a, v, rfl, ha, q⟩ := h
    exact ⟨_, pss_one (ps_stx (bmB := veT) PySem.F.store_ValueError (pv 0) (pv 1)), ⟨v, rfl, .ref a, rfl, a, C, rfl, T, h1, ha, q⟩⟩
theorem ok_iNK (F : Fun K "__init__" "NoKind.__init__" sNK f fd) (T : StX K C leT) (h1 : PySem.W.takerIn K C "kind" = some none) : FnOk P w K mg base CX0 (k + 1) f fd ["self", "kind"] (spI1 "kind" C) := by
  refine F.ok scNK (fun vs H Q E h => ?_) (fun cdv A outer s H vs Q E hr h => ?_)
  · obtain ⟨a, v, rfl, _⟩ := h
    rfl
  · obtain ⟨a, v, rfl, ha, q⟩ := h
    exact ⟨_, pss_one (ps_stx (bmB := leT) PySem.F.store_LookupError (pv 0) (pv 1)), ⟨v, rfl, .ref a, rfl, a, C, rfl, T, h1, ha, q⟩⟩
theorem ok_iAg (F : Fun K "__init__" "Against.__init__" sAg f fd) (T : StX K C veT) (h1 : PySem.W.takerIn K C "index" = some none) (h2 : PySem.W.takerIn K C "lot" = some none) : FnOk P w K mg base CX0 (k + 1) f fd ["self", "index", "lot"] (spI2 "index" "lot" C) := by
  refine F.ok scAg (fun vs H Q E h => ?_) (fun cdv A outer s H vs Q E hr h => ?_)
  · obtain ⟨a, v, u, rfl, _⟩ := h
    rfl
  · obtain ⟨a, v, u, rfl, ha, q⟩ := h
    exact ⟨_, pss_cons (ps_stx (bmB := veT) PySem.F.store_ValueError (pv 0) (pv 1)) (pss_one (ps_stx2 (bmB := veT) PySem.F.store_ValueError (pv 0) (pv 2))), ⟨v, rfl, .ref a, rfl, a, C, rfl, T, h1, ha, fun dx n ne => ⟨u, rfl, .ref a, rfl, a, C, dx, _, rfl, T, h2, upd_same, (by rw [upd_ne ne, upd_same]), by simp, q dx n ne⟩⟩⟩
theorem ok_iBT (F : Fun K "__init__" "BadText.__init__" sBT f fd) (T : StX K C veT) (h1 : PySem.W.takerIn K C "line" = some none) (h2 : PySem.W.takerIn K C "code" = some none) : FnOk P w K mg base CX0 (k + 1) f fd ["self", "line", "code"] (spI2 "line" "code" C) := by
  refine F.ok scBT (fun vs H Q E h => ?_) (fun cdv A outer s H vs Q E hr h => ?_)
  · obtain ⟨a, v, u, rfl, _⟩ := h
    rfl
  · obtain ⟨a, v, u, rfl, ha, q⟩ := h
    exact ⟨_, pss_cons (ps_stx (bmB := veT) PySem.F.store_ValueError (pv 0) (pv 1)) (pss_one (ps_stx2 (bmB := veT) PySem.F.store_ValueError (pv 0) (pv 2))), ⟨v, rfl, .ref a, rfl, a, C, rfl, T, h1, ha, fun dx n ne => ⟨u, rfl, .ref a, rfl, a, C, dx, _, rfl, T, h2, upd_same, (by rw [upd_ne ne, upd_same]), by simp, q dx n ne⟩⟩⟩
theorem ok_iRe (F : Fun K "__init__" "Rejected.__init__" sRe f fd) (T : StX K C veT) (h1 : PySem.W.takerIn K C "index" = some none) (h2 : PySem.W.takerIn K C "error" = some none) : FnOk P w K mg base CX0 (k + 1) f fd ["self", "index", "error"] (spI2 "index" "error" C) := by
  refine F.ok scRe (fun vs H Q E h => ?_) (fun cdv A outer s H vs Q E hr h => ?_)
  · obtain ⟨a, v, u, rfl, _⟩ := h
    rfl
  · obtain ⟨a, v, u, rfl, ha, q⟩ := h
    exact ⟨_, pss_cons (ps_stx (bmB := veT) PySem.F.store_ValueError (pv 0) (pv 1)) (pss_one (ps_stx2 (bmB := veT) PySem.F.store_ValueError (pv 0) (pv 2))), ⟨v, rfl, .ref a, rfl, a, C, rfl, T, h1, ha, fun dx n ne => ⟨u, rfl, .ref a, rfl, a, C, dx, _, rfl, T, h2, upd_same, (by rw [upd_ne ne, upd_same]), by simp, q dx n ne⟩⟩⟩
end
/-! ### what stands behind C(..) -/
theorem made1 {H : Hp} {a dx C : Addr} {f : Str} {v : V} (na : H a = none) (nd : (upd H a (exo a C none)) dx = none) (ne : dx ≠ a) :
    Same H (upd (upd (upd H a (exo a C none)) dx (exd dx [(f, v)])) a (exo a C (some dx))) ∧ H dx = none ∧ (upd (upd (upd H a (exo a C none)) dx (exd dx [(f, v)])) a (exo a C (some dx))) a = some (exo a C (some dx)) ∧ (upd (upd (upd H a (exo a C none)) dx (exd dx [(f, v)])) a (exo a C (some dx))) dx = some (exd dx [(f, v)]) := by
  have nd' : H dx = none := by rw [upd_ne ne] at nd; exact nd
  refine ⟨fun b o z => ?_, nd', upd_same, by rw [upd_ne ne, upd_same]⟩
  rw [upd_ne (ne_of_none z na), upd_ne (ne_of_none z nd'), upd_ne (ne_of_none z na)]; exact z
theorem made2 {H : Hp} {a dx C : Addr} {f g : Str} {v u : V} (na : H a = none) (nd : (upd H a (exo a C none)) dx = none) (ne : dx ≠ a) :
    Same H (upd (upd (upd (upd H a (exo a C none)) dx (exd dx [(f, v)])) a (exo a C (some dx))) dx (exd dx [(g, u), (f, v)])) ∧ H dx = none ∧ (upd (upd (upd (upd H a (exo a C none)) dx (exd dx [(f, v)])) a (exo a C (some dx))) dx (exd dx [(g, u), (f, v)])) a = some (exo a C (some dx)) ∧
      (upd (upd (upd (upd H a (exo a C none)) dx (exd dx [(f, v)])) a (exo a C (some dx))) dx (exd dx [(g, u), (f, v)])) dx = some (exd dx [(g, u), (f, v)]) := by
  obtain ⟨s1, nd', e1, e2⟩ := made1 (f := f) (v := v) na nd ne
  refine ⟨fun b o z => ?_, nd', by rw [upd_ne (Ne.symm ne)]; exact e1, upd_same⟩
  rw [upd_ne (ne_of_none z nd')]; exact s1 b o z
theorem no_of {H : Hp} {a : Addr} {o : HO} (h : H a = none) (g : H a = some o) : False := nomatch h.symm.trans g
/-! ### an error and what is said of it -/
structure ErrC (K : PySem.W.Frag) (cs : List Addr) (KE C : Addr) (nm : Str) : Prop where
  xc : ExcC K C
  kits : ∃ bs, Kits K C cs bs ∧ pick hitN bs = [nm]
  lk : PySem.W.kitOne K (.ref C) (.type "LookupError") = some false
  ke : PySem.W.kitOne K (.ref C) (.ref KE) = some true
  ve : PySem.W.kitOne K (.ref C) (.type "ValueError") = some true
  ok : SeqAt.shaped (.list [.str nm]) = true
def ExvN (av : Addr → Prop) (H : Hp) (a C : Addr) (fs : List (Str × V)) : Prop := ¬ av a ∧ ((fs = [] ∧ H a = some (exo a C none)) ∨ ∃ d, ¬ av d ∧ H a = some (exo a C (some d)) ∧ H d = some (exd d fs))
theorem ExvN.exv {av : Addr → Prop} {H : Hp} {a C : Addr} {fs : List (Str × V)} (h : ExvN av H a C fs) : Exv H a C fs := by
  rcases h with ⟨_, h | ⟨d, _, h⟩⟩
  · exact .inl h
  · exact .inr ⟨d, h⟩
theorem ExvN.keep {av : Addr → Prop} {H H' : Hp} {a C : Addr} {fs : List (Str × V)} (h : ExvN av H a C fs) (k : Keep av H H') : ExvN av H' a C fs := by
  rcases h with ⟨n, ⟨z, h⟩ | ⟨d, nd, h1, h2⟩⟩
  · exact ⟨n, .inl ⟨z, k _ _ h n⟩⟩
  · exact ⟨n, .inr ⟨d, nd, k _ _ h1 n, k _ _ h2 nd⟩⟩
theorem ExvN.apart {av bv : Addr → Prop} {H : Hp} {a C : Addr} {fs : List (Str × V)} (h : ExvN av H a C fs) (k : ∀ a, bv a → H a = none) : ExvN bv H a C fs := by
  rcases h with ⟨n, ⟨z, h⟩ | ⟨d, nd, h1, h2⟩⟩
  · exact ⟨fun w => no_of (k _ w) h, .inl ⟨z, h⟩⟩
  · exact ⟨fun w => no_of (k _ w) h1, .inr ⟨d, fun w => no_of (k _ w) h2, h1, h2⟩⟩
def It (K : PySem.W.Frag) (cs : List Addr) (KE : Addr) (av : Addr → Prop) (H : Hp) (x : V) : Prop := ∃ (T e C f g : Addr) (nm : Str) (fs : List (Str × V)) (vs us : List V) (ds : List PyData), x = .ref T ∧ ¬ av T ∧ H T = some (.tup [.ref e, .str nm, .ref f, .ref g]) ∧
  ExvN av H e C fs ∧ ErrC K cs KE C nm ∧ ¬ av f ∧ H f = some (.lst vs) ∧ ¬ av g ∧ H g = some (.lst us) ∧ DaAll av H vs ds ∧ DaAll av H us ds ∧ ds.length ≤ 2 ∧ PyData.depthAll ds ≤ 4
theorem It.keep {K : PySem.W.Frag} {cs : List Addr} {KE : Addr} {av : Addr → Prop} {H H' : Hp} {x : V} (h : It K cs KE av H x) (k : Keep av H H') : It K cs KE av H' x := by
  obtain ⟨T, e, C, f, g, nm, fs, vs, us, ds, rfl, nT, hT, he, E, nf, hf, ng, hg, a1, a2, hl, hd⟩ := h
  exact ⟨T, e, C, f, g, nm, fs, vs, us, ds, rfl, nT, k _ _ hT nT, he.keep k, E, nf, k _ _ hf nf, ng, k _ _ hg ng, a1.keep k, a2.keep k, hl, hd⟩
theorem It.apart {K : PySem.W.Frag} {cs : List Addr} {KE : Addr} {av bv : Addr → Prop} {H : Hp} {x : V} (h : It K cs KE av H x) (k : ∀ a, bv a → H a = none) : It K cs KE bv H x := by
  obtain ⟨T, e, C, f, g, nm, fs, vs, us, ds, rfl, nT, hT, he, E, nf, hf, ng, hg, a1, a2, hl, hd⟩ := h
  exact ⟨T, e, C, f, g, nm, fs, vs, us, ds, rfl, fun w => no_of (k _ w) hT, hT, he.apart k, E, fun w => no_of (k _ w) hf, hf, fun w => no_of (k _ w) hg, hg, a1.apart k, a2.apart k, hl, hd⟩
/-- an expression that makes such an item -/
def tIt (K : PySem.W.Frag) (cs : List Addr) (KE : Addr) (av : Addr → Prop) (pre : L2.St → Hp → Prop) : TE := fun σ H Q => (pre σ H ∧ ∀ a, av a → H a ≠ none) ∧ ∀ v H', Same H H' → It K cs KE av H' v → Q v H'
theorem rd_it0 {K : PySem.W.Frag} {cs : List Addr} {KE C : Addr} {av : Addr → Prop} {nm : Str} (E : ErrC K cs KE C nm) (σ : L2.St) (H : Hp) (Q : VK) (z : tIt K cs KE av (fun _ _ => True) σ H Q) :
    tTup (tCons (fun σ H Q => ∀ a, H a = none → Q (.ref a) (upd H a (exo a C none))) (tCons (tC (.str nm)) (tCons (tLst tNil) (tCons (tLst tNil) tNil)))) σ H Q := by
  obtain ⟨⟨_, hav⟩, q⟩ := z
  intro a na
  have s1 := same_new (o := exo a C none) na
  refine ⟨(show 0 ≤ sizeLine by decide), fun f nf => ⟨(show 0 ≤ sizeLine by decide), fun g ng => ⟨(show 4 ≤ sizeLine by decide), fun T nT => ?_⟩⟩⟩
  have s2 := same_new (o := HO.lst []) nf
  have s3 := same_new (o := HO.lst []) ng
  have s4 := same_new (o := HO.tup [.ref a, .str nm, .ref f, .ref g]) nT
  refine q _ _ (s1.trans (s2.trans (s3.trans s4))) ⟨T, a, C, f, g, nm, [], [], [], [], rfl, ?_, upd_same, ⟨?_, .inl ⟨rfl, s4 _ _ (s3 _ _ (s2 _ _ upd_same))⟩⟩, E, ?_, s4 _ _ (s3 _ _ upd_same), ?_, s4 _ _ upd_same, .nil, .nil, by decide, by decide⟩
  · exact fun w => hav _ w ((s1.trans (s2.trans s3)).free nT)
  · exact fun w => hav _ w na
  · exact fun w => hav _ w (s1.free nf)
  · exact fun w => hav _ w ((s1.trans s2).free ng)
theorem rd_it1 {K : PySem.W.Frag} {cs : List Addr} {KE C : Addr} {av : Addr → Prop} {nm f : Str} {i : Nat} {v : V} {d : PyData} {fs : List (Str × V)} {e : Addr} (E : ErrC K cs KE C nm) (hno : PySem.W.findIn K (.ref C) f = some none) (hl : fs.lookup f = some v) (hd : d.depth ≤ 4) (σ : L2.St) (H : Hp) (Q : VK)
    (z : tIt K cs KE av (fun σ H => σ[i]? = some (some (.ref e)) ∧ σ[0]? = some (some v) ∧ ExvN av H e C fs ∧ Da av H v d) σ H Q) :
    tTup (tCons (tVar i) (tCons (tC (.str nm)) (tCons (tLst (tCons (tFx K f (tVar i)) tNil)) (tCons (tLst (tCons (tVar 0) tNil)) tNil)))) σ H Q := by
  obtain ⟨⟨⟨h1, h2, hx, hv⟩, hav⟩, q⟩ := z
  refine ⟨_, h1, _, h1, e, C, fs, v, rfl, hx.exv, E.xc, hno, hl, (show 1 ≤ sizeLine by decide), fun f nf => ⟨_, h2, (show 1 ≤ sizeLine by decide), fun g ng => ⟨(show 4 ≤ sizeLine by decide), fun T nT => ?_⟩⟩⟩
  have s2 := same_new (o := HO.lst [v]) nf
  have s3 := same_new (o := HO.lst [v]) ng
  have s4 := same_new (o := HO.tup [.ref e, .str nm, .ref f, .ref g]) nT
  have ss := s2.trans (s3.trans s4)
  refine q _ _ ss ⟨T, e, C, f, g, nm, fs, [v], [v], [d], rfl, ?_, upd_same, hx.keep (.of_same ss), E, ?_, s4 _ _ (s3 _ _ upd_same), ?_, s4 _ _ upd_same, .cons (hv.same ss) .nil, .cons (hv.same ss) .nil, by simp, ?_⟩
  · exact fun w => hav _ w ((s2.trans s3).free nT)
  · exact fun w => hav _ w nf
  · exact fun w => hav _ w (s2.free ng)
  · show max d.depth 0 ≤ 4
    omega
theorem rd_it2 {K : PySem.W.Frag} {cs : List Addr} {KE C : Addr} {av : Addr → Prop} {nm f g : Str} {i : Nat} {v u : V} {d d2 : PyData} {fs : List (Str × V)} {e : Addr} (E : ErrC K cs KE C nm) (hno : PySem.W.findIn K (.ref C) f = some none) (hno2 : PySem.W.findIn K (.ref C) g = some none) (hl : fs.lookup f = some v) (hl2 : fs.lookup g = some u) (hd : d.depth ≤ 4) (hd2 : d2.depth ≤ 4) (σ : L2.St) (H : Hp) (Q : VK)
    (z : tIt K cs KE av (fun σ H => σ[i]? = some (some (.ref e)) ∧ σ[0]? = some (some v) ∧ σ[1]? = some (some u) ∧ ExvN av H e C fs ∧ Da av H v d ∧ Da av H u d2) σ H Q) :
    tTup (tCons (tVar i) (tCons (tC (.str nm)) (tCons (tLst (tCons (tFx K f (tVar i)) (tCons (tFx K g (tVar i)) tNil))) (tCons (tLst (tCons (tVar 0) (tCons (tVar 1) tNil))) tNil)))) σ H Q := by
  obtain ⟨⟨⟨h1, h2, h3, hx, hv, hu⟩, hav⟩, q⟩ := z
  refine ⟨_, h1, _, h1, e, C, fs, v, rfl, hx.exv, E.xc, hno, hl, _, h1, e, C, fs, u, rfl, hx.exv, E.xc, hno2, hl2, (show 2 ≤ sizeLine by decide), fun f nf => ⟨_, h2, _, h3, (show 2 ≤ sizeLine by decide), fun g ng => ⟨(show 4 ≤ sizeLine by decide), fun T nT => ?_⟩⟩⟩
  have s2 := same_new (o := HO.lst [v, u]) nf
  have s3 := same_new (o := HO.lst [v, u]) ng
  have s4 := same_new (o := HO.tup [.ref e, .str nm, .ref f, .ref g]) nT
  have ss := s2.trans (s3.trans s4)
  refine q _ _ ss ⟨T, e, C, f, g, nm, fs, [v, u], [v, u], [d, d2], rfl, ?_, upd_same, hx.keep (.of_same ss), E, ?_, s4 _ _ (s3 _ _ upd_same), ?_, s4 _ _ upd_same, .cons (hv.same ss) (.cons (hu.same ss) .nil), .cons (hv.same ss) (.cons (hu.same ss) .nil), by simp, ?_⟩
  · exact fun w => hav _ w ((s2.trans s3).free nT)
  · exact fun w => hav _ w nf
  · exact fun w => hav _ w (s2.free ng)
  · show max d.depth (max d2.depth 0) ≤ 4
    omega
/-- the list of errors, so far -/
structure ES (K : PySem.W.Frag) (cs : List Addr) (KE : Addr) (H : Hp) (p : Addr) (xs : List V) (v u : V) (d e : PyData) : Prop where
  at_ : H p = some (.lst xs)
  its : ∀ x ∈ xs, It K cs KE (· = p) H x
  a1 : Da (· = p) H v d
  a2 : Da (· = p) H u e
theorem ES.same {K : PySem.W.Frag} {cs : List Addr} {KE : Addr} {H H' : Hp} {p : Addr} {xs : List V} {v u : V} {d e : PyData} (S : ES K cs KE H p xs v u d e) (s : Same H H') : ES K cs KE H' p xs v u d e :=
  ⟨s _ _ S.at_, fun x hx => (S.its x hx).keep (.of_same s), S.a1.same s, S.a2.same s⟩
theorem ES.app {K : PySem.W.Frag} {cs : List Addr} {KE : Addr} {H : Hp} {p : Addr} {xs : List V} {v u : V} {d e : PyData} {x : V} (S : ES K cs KE H p xs v u d e) (hx : It K cs KE (· = p) H x) : ES K cs KE (upd H p (.lst (xs ++ [x]))) p (xs ++ [x]) v u d e := by
  have k : Keep (· = p) H (upd H p (.lst (xs ++ [x]))) := Keep.put rfl
  refine ⟨upd_same, fun y hy => ?_, S.a1.keep k, S.a2.keep k⟩
  rcases List.mem_append.mp hy with z | z
  · exact (S.its y z).keep k
  · rw [List.mem_singleton.mp z]; exact hx.keep k
theorem ES.av {K : PySem.W.Frag} {cs : List Addr} {KE : Addr} {H : Hp} {p : Addr} {xs : List V} {v u : V} {d e : PyData} (S : ES K cs KE H p xs v u d e) : ∀ a, a = p → H a ≠ none := fun a z w => by
  rw [z, S.at_] at w; exact nomatch w
end Kc

set_option Elab.async false
set_option linter.all false
set_option maxRecDepth 100000
set_option maxHeartbeats 8000000
namespace Kc
open PySem PySem.Spec PyProof.Rows L2 Kg Kd Kx
abbrev sErr : Stmt := topS 29
abbrev nErr : List Str := ["_law_one", "_law_other", "_law_found", "_law_against", "_law_edits", "_law_kinds_here", "_law_text", "_law_tree", "_law_refused", "_law_many"]
theorem scErr : FnScope nErr ["_law_one", "_law_other"] (defScope sErr) := ⟨rfl, rfl, rfl, by decide +kernel, rfl, by decide +kernel, by decide +kernel⟩
theorem It.sub {K : PySem.W.Frag} {cs : List Addr} {KE : Addr} {av : Addr → Prop} {H : Hp} {x : V} (h : It K cs KE av H x) : It K cs KE Kd.nil H x := h.apart fun _ z => z.elim
theorem rd_one {te : TE} {σ : L2.St} {H : Hp} {Q : VK} (h : te σ H (fun x H1 => 1 ≤ sizeLine ∧ ∀ p, H1 p = none → Q (.ref p) (upd H1 p (.lst [x])))) : tLst (tCons te tNil) σ H Q := h
def spErr (K : PySem.W.Frag) (cs : List Addr) (KE : Addr) : Sp := fun vs H Q _ => ∃ (v u : V) (d e : PyData), vs = [v, u] ∧ Da Kd.nil H v d ∧ Da Kd.nil H u e ∧ d.depth ≤ 4 ∧ e.depth ≤ 4 ∧
  ∀ H' l xs, Same H H' → H' l = some (.lst xs) → xs.length = 12 → (∀ x ∈ xs, It K cs KE Kd.nil H' x) → Q (.ref l) H'
section
variable {P : Program} {w : World} {K : PySem.W.Frag} {mg : Str → Option Value} {base : Heap}
theorem ok_err {f : Addr} {fd : FuncData} {cs : List Addr} {KE : Addr} (F : Fun K "_law_errors" "_law_errors" sErr f fd)
    {cBC : Addr} (gBC : mg "BadChoice" = some (.ref cBC)) (qBC : PySem.W.excIn K cBC veT "ValueError.__new__" = true) (kBC : PySem.W.keepIn K (.ref cBC) = true) (EBC : ErrC K cs KE cBC "BadChoice")
    {cBW : Addr} (gBW : mg "BadWishes" = some (.ref cBW)) (qBW : PySem.W.excIn K cBW veT "ValueError.__new__" = true) (kBW : PySem.W.keepIn K (.ref cBW) = true) (EBW : ErrC K cs KE cBW "BadWishes")
    {cFu : Addr} (gFu : mg "Full" = some (.ref cFu)) (qFu : PySem.W.excIn K cFu veT "ValueError.__new__" = true) (kFu : PySem.W.keepIn K (.ref cFu) = true) (EFu : ErrC K cs KE cFu "Full")
    {cId : Addr} (gId : mg "Idle" = some (.ref cId)) (qId : PySem.W.excIn K cId veT "ValueError.__new__" = true) (kId : PySem.W.keepIn K (.ref cId) = true) (EId : ErrC K cs KE cId "Idle")
    {cNU : Addr} (gNU : mg "NothingToUndo" = some (.ref cNU)) (qNU : PySem.W.excIn K cNU veT "ValueError.__new__" = true) (kNU : PySem.W.keepIn K (.ref cNU) = true) (ENU : ErrC K cs KE cNU "NothingToUndo")
    {cAg fAg : Addr} {dAg : FuncData} (gAg : mg "Against" = some (.ref cAg)) (MAg : MkX K cAg fAg veT "ValueError.__new__") (bAg : Binds K dAg ["self", "index", "lot"] []) (GAg : FnOk P w K mg base CX0 1 fAg dAg ["self", "index", "lot"] (spI2 "index" "lot" cAg)) (EAg : ErrC K cs KE cAg "Against") (nAg_index : PySem.W.findIn K (.ref cAg) "index" = some none) (nAg_lot : PySem.W.findIn K (.ref cAg) "lot" = some none)
    {cBE fBE : Addr} {dBE : FuncData} (gBE : mg "BadEdits" = some (.ref cBE)) (MBE : MkX K cBE fBE veT "ValueError.__new__") (bBE : Binds K dBE ["self", "index"] []) (GBE : FnOk P w K mg base CX0 1 fBE dBE ["self", "index"] (spI1 "index" cBE)) (EBE : ErrC K cs KE cBE "BadEdits") (nBE_index : PySem.W.findIn K (.ref cBE) "index" = some none)
    {cBK fBK : Addr} {dBK : FuncData} (gBK : mg "BadKinds" = some (.ref cBK)) (MBK : MkX K cBK fBK veT "ValueError.__new__") (bBK : Binds K dBK ["self", "place"] []) (GBK : FnOk P w K mg base CX0 1 fBK dBK ["self", "place"] (spI1 "place" cBK)) (EBK : ErrC K cs KE cBK "BadKinds") (nBK_place : PySem.W.findIn K (.ref cBK) "place" = some none)
    {cBT fBT : Addr} {dBT : FuncData} (gBT : mg "BadText" = some (.ref cBT)) (MBT : MkX K cBT fBT veT "ValueError.__new__") (bBT : Binds K dBT ["self", "line", "code"] []) (GBT : FnOk P w K mg base CX0 1 fBT dBT ["self", "line", "code"] (spI2 "line" "code" cBT)) (EBT : ErrC K cs KE cBT "BadText") (nBT_line : PySem.W.findIn K (.ref cBT) "line" = some none) (nBT_code : PySem.W.findIn K (.ref cBT) "code" = some none)
    {cBR fBR : Addr} {dBR : FuncData} (gBR : mg "BadTree" = some (.ref cBR)) (MBR : MkX K cBR fBR veT "ValueError.__new__") (bBR : Binds K dBR ["self", "place"] []) (GBR : FnOk P w K mg base CX0 1 fBR dBR ["self", "place"] (spI1 "place" cBR)) (EBR : ErrC K cs KE cBR "BadTree") (nBR_place : PySem.W.findIn K (.ref cBR) "place" = some none)
    {cRe fRe : Addr} {dRe : FuncData} (gRe : mg "Rejected" = some (.ref cRe)) (MRe : MkX K cRe fRe veT "ValueError.__new__") (bRe : Binds K dRe ["self", "index", "error"] []) (GRe : FnOk P w K mg base CX0 1 fRe dRe ["self", "index", "error"] (spI2 "index" "error" cRe)) (ERe : ErrC K cs KE cRe "Rejected") (nRe_index : PySem.W.findIn K (.ref cRe) "index" = some none) (nRe_error : PySem.W.findIn K (.ref cRe) "error" = some none)
    {cTM fTM : Addr} {dTM : FuncData} (gTM : mg "TooMany" = some (.ref cTM)) (MTM : MkX K cTM fTM veT "ValueError.__new__") (bTM : Binds K dTM ["self", "limit"] []) (GTM : FnOk P w K mg base CX0 1 fTM dTM ["self", "limit"] (spI1 "limit" cTM)) (ETM : ErrC K cs KE cTM "TooMany") (nTM_limit : PySem.W.findIn K (.ref cTM) "limit" = some none)
    : FnOk P w K mg base CX0 3 f fd ["_law_one", "_law_other"] (spErr K cs KE) := by
  refine F.ok scErr (fun vs H Q E h => ?_) (fun cdv A outer s H vs Q E hr h => ?_)
  · obtain ⟨v, u, d, e, rfl, _⟩ := h
    rfl
  · obtain ⟨v, u, d, e, rfl, hv, hu, hd, he, q⟩ := h
    refine ⟨_, pss_cons (ps_set (i := 2) scErr.nd rfl (.inl rfl) (pe_lst (pa_cons (pe_imp (pe_tup (pa_cons (pe_exc0 PySem.F.excBase_ValueError qBC gBC kBC (by rfl)) (pa_cons pe_str (pa_cons (pe_lst pa_nil) (pa_cons (pe_lst pa_nil) pa_nil))))) (rd_it0 (av := Kd.nil) EBC)) (pa_cons (pe_imp (pe_tup (pa_cons (pe_exc0 PySem.F.excBase_ValueError qBW gBW kBW (by rfl)) (pa_cons pe_str (pa_cons (pe_lst pa_nil) (pa_cons (pe_lst pa_nil) pa_nil))))) (rd_it0 (av := Kd.nil) EBW)) (pa_cons (pe_imp (pe_tup (pa_cons (pe_exc0 PySem.F.excBase_ValueError qFu gFu kFu (by rfl)) (pa_cons pe_str (pa_cons (pe_lst pa_nil) (pa_cons (pe_lst pa_nil) pa_nil))))) (rd_it0 (av := Kd.nil) EFu)) pa_nil)))))
      (pss_cons (ps_set (i := 2) scErr.nd rfl (.inl rfl) (pe_op op_cat (pv 2) (pe_lst (pa_cons (pe_imp (pe_tup (pa_cons (pe_exc0 PySem.F.excBase_ValueError qId gId kId (by rfl)) (pa_cons pe_str (pa_cons (pe_lst pa_nil) (pa_cons (pe_lst pa_nil) pa_nil))))) (rd_it0 (av := Kd.nil) EId)) (pa_cons (pe_imp (pe_tup (pa_cons (pe_exc0 PySem.F.excBase_ValueError qNU gNU kNU (by rfl)) (pa_cons pe_str (pa_cons (pe_lst pa_nil) (pa_cons (pe_lst pa_nil) pa_nil))))) (rd_it0 (av := Kd.nil) ENU)) pa_nil)))))
      (pss_cons (ps_par (i := 3) (j := 4) (by rfl) scErr.nd rfl rfl (by decide) rfl rfl (pa_cons (pe_mkV PySem.F.excBase_ValueError MAg GAg hr bAg (by rfl) gAg (pa_cons (pv 0) (pa_cons (pv 1) pa_nil))) (pa_cons (pe_mkV PySem.F.excBase_ValueError MBE GBE hr bBE (by rfl) gBE (pa_cons (pv 0) pa_nil)) pa_nil)) (by rfl))
      (pss_cons (ps_expr (pe_bm PySem.F.plainAttrs_list PySem.F.slot_list_append PySem.F.type_list_append mt_append (pv 2) (pa_cons (pe_tup (pa_cons (pv 3) (pa_cons pe_str (pa_cons (pe_lst (pa_cons (pe_fx (pv 3)) (pa_cons (pe_fx (pv 3)) pa_nil))) (pa_cons (pe_lst (pa_cons (pv 0) (pa_cons (pv 1) pa_nil))) pa_nil))))) pa_nil)))
      (pss_cons (ps_expr (pe_bm PySem.F.plainAttrs_list PySem.F.slot_list_append PySem.F.type_list_append mt_append (pv 2) (pa_cons (pe_tup (pa_cons (pv 4) (pa_cons pe_str (pa_cons (pe_lst (pa_cons (pe_fx (pv 4)) pa_nil)) (pa_cons (pe_lst (pa_cons (pv 0) pa_nil)) pa_nil))))) pa_nil)))
      (pss_cons (ps_par (i := 5) (j := 6) (by rfl) scErr.nd rfl rfl (by decide) rfl rfl (pa_cons (pe_mkV PySem.F.excBase_ValueError MBK GBK hr bBK (by rfl) gBK (pa_cons (pv 0) pa_nil)) (pa_cons (pe_mkV PySem.F.excBase_ValueError MBT GBT hr bBT (by rfl) gBT (pa_cons (pv 0) (pa_cons (pv 1) pa_nil))) pa_nil)) (by rfl))
      (pss_cons (ps_expr (pe_bm PySem.F.plainAttrs_list PySem.F.slot_list_append PySem.F.type_list_append mt_append (pv 2) (pa_cons (pe_tup (pa_cons (pv 5) (pa_cons pe_str (pa_cons (pe_lst (pa_cons (pe_fx (pv 5)) pa_nil)) (pa_cons (pe_lst (pa_cons (pv 0) pa_nil)) pa_nil))))) pa_nil)))
      (pss_cons (ps_expr (pe_bm PySem.F.plainAttrs_list PySem.F.slot_list_append PySem.F.type_list_append mt_append (pv 2) (pa_cons (pe_tup (pa_cons (pv 6) (pa_cons pe_str (pa_cons (pe_lst (pa_cons (pe_fx (pv 6)) (pa_cons (pe_fx (pv 6)) pa_nil))) (pa_cons (pe_lst (pa_cons (pv 0) (pa_cons (pv 1) pa_nil))) pa_nil))))) pa_nil)))
      (pss_cons (ps_par (i := 7) (j := 8) (by rfl) scErr.nd rfl rfl (by decide) rfl rfl (pa_cons (pe_mkV PySem.F.excBase_ValueError MBR GBR hr bBR (by rfl) gBR (pa_cons (pv 0) pa_nil)) (pa_cons (pe_mkV PySem.F.excBase_ValueError MRe GRe hr bRe (by rfl) gRe (pa_cons (pv 0) (pa_cons (pv 1) pa_nil))) pa_nil)) (by rfl))
      (pss_cons (ps_expr (pe_bm PySem.F.plainAttrs_list PySem.F.slot_list_append PySem.F.type_list_append mt_append (pv 2) (pa_cons (pe_tup (pa_cons (pv 7) (pa_cons pe_str (pa_cons (pe_lst (pa_cons (pe_fx (pv 7)) pa_nil)) (pa_cons (pe_lst (pa_cons (pv 0) pa_nil)) pa_nil))))) pa_nil)))
      (pss_cons (ps_expr (pe_bm PySem.F.plainAttrs_list PySem.F.slot_list_append PySem.F.type_list_append mt_append (pv 2) (pa_cons (pe_tup (pa_cons (pv 8) (pa_cons pe_str (pa_cons (pe_lst (pa_cons (pe_fx (pv 8)) (pa_cons (pe_fx (pv 8)) pa_nil))) (pa_cons (pe_lst (pa_cons (pv 0) (pa_cons (pv 1) pa_nil))) pa_nil))))) pa_nil)))
      (pss_cons (ps_set (i := 9) scErr.nd rfl (.inl rfl) (pe_mkV PySem.F.excBase_ValueError MTM GTM hr bTM (by rfl) gTM (pa_cons (pv 0) pa_nil)))
      (pss_one (ps_ret (pe_op op_cat (pv 2) (pe_lst (pa_cons (pe_tup (pa_cons (pv 9) (pa_cons pe_str (pa_cons (pe_lst (pa_cons (pe_fx (pv 9)) pa_nil)) (pa_cons (pe_lst (pa_cons (pv 0) pa_nil)) pa_nil))))) pa_nil)))))))))))))))), ?_⟩
    refine ⟨⟨trivial, fun _ z => z.elim⟩, fun w1 H1 s1 i1 => ⟨⟨trivial, fun _ z => z.elim⟩, fun w2 H2 s2 i2 => ⟨⟨trivial, fun _ z => z.elim⟩, fun w3 H3 s3 i3 => ⟨(show 3 ≤ sizeLine by decide), fun l nl => ?_⟩⟩⟩⟩
    have s4 := same_new (o := HO.lst [w1, w2, w3]) nl
    have e4 : (upd H3 l (HO.lst [w1, w2, w3])) l = some (.lst [w1, w2, w3]) := upd_same
    have j1 := i1.keep (.of_same (s2.trans (s3.trans s4)))
    have j2 := i2.keep (.of_same (s3.trans s4))
    have j3 := i3.keep (.of_same s4)
    have t4 := s1.trans (s2.trans (s3.trans s4))
    clear s4
    generalize upd H3 l (HO.lst [w1, w2, w3]) = H4 at e4 j1 j2 j3 t4 ⊢
    refine ⟨_, rfl, ⟨trivial, fun _ z => z.elim⟩, fun w4 H5 s5 i4 => ⟨⟨trivial, fun _ z => z.elim⟩, fun w5 H6 s6 i5 => ⟨(show 2 ≤ sizeLine by decide), fun m nm => ?_⟩⟩⟩
    have s7 := same_new (o := HO.lst [w4, w5]) nm
    have t7 := s5.trans (s6.trans s7)
    refine ⟨l, m, _, _, rfl, rfl, t7 _ _ e4, upd_same, (show 5 ≤ sizeLine by decide), fun p np => ?_⟩
    have fp : ∀ a, a = p → (upd H6 m (HO.lst [w4, w5])) a = none := fun a z => by rw [z]; exact np
    have s8 := same_new (o := HO.lst [w1, w2, w3, w4, w5]) np
    have S0 : ES K cs KE (upd (upd H6 m (HO.lst [w4, w5])) p (.lst [w1, w2, w3, w4, w5])) p [w1, w2, w3, w4, w5] v u d e := by
      refine ⟨upd_same, fun x hx => ?_, ((hv.same (t4.trans t7)).apart fp).same s8, ((hu.same (t4.trans t7)).apart fp).same s8⟩
      have hx' : x = w1 ∨ x = w2 ∨ x = w3 ∨ x = w4 ∨ x = w5 := by simpa using hx
      rcases hx' with z | z | z | z | z
      · rw [z]; exact ((j1.keep (.of_same t7)).apart fp).keep (.of_same s8)
      · rw [z]; exact ((j2.keep (.of_same t7)).apart fp).keep (.of_same s8)
      · rw [z]; exact ((j3.keep (.of_same t7)).apart fp).keep (.of_same s8)
      · rw [z]; exact ((i4.keep (.of_same (s6.trans s7))).apart fp).keep (.of_same s8)
      · rw [z]; exact ((i5.keep (.of_same s7)).apart fp).keep (.of_same s8)
    have k0 : Keep (· = p) H (upd (upd H6 m (HO.lst [w4, w5])) p (.lst [w1, w2, w3, w4, w5])) := .of_same (t4.trans (t7.trans s8))
    have np0 : H p = none := (t4.trans t7).free np
    have eq0 : ([w1, w2, w3] ++ [w4, w5] : List V) = [w1, w2, w3, w4, w5] := rfl
    rw [eq0]
    generalize hX0 : ([w1, w2, w3, w4, w5] : List V) = X0 at S0 k0 ⊢
    have L0 : X0.length = 5 := by rw [← hX0]; rfl
    generalize upd (upd H6 m (HO.lst [w4, w5])) p (.lst X0) = G0 at S0 k0 ⊢
    refine ⟨v, rfl, u, rfl, (show 2 ≤ 1000 by decide), fun aAg naAg => ⟨aAg, v, u, rfl, upd_same, fun xAg nxAg neAg => ⟨rfl, v, rfl, (show 1 ≤ 1000 by decide), fun aBE naBE => ⟨aBE, v, rfl, upd_same, fun xBE nxBE neBE => ⟨rfl, ?_⟩⟩⟩⟩⟩
    obtain ⟨smAg, ndAg, eaAg, edAg⟩ := made2 (f := "index") (g := "lot") (v := v) (u := u) naAg nxAg neAg
    have S1a := S0.same smAg
    have k1a := k0.trans (Keep.of_same smAg)
    have XAg : ExvN (· = p) (upd (upd (upd (upd G0 aAg (exo aAg cAg none)) xAg (exd xAg [("index", v)])) aAg (exo aAg cAg (some xAg))) xAg (exd xAg [("lot", u), ("index", v)])) aAg cAg [("lot", u), ("index", v)] := ⟨fun z => no_of (z ▸ naAg) S0.at_, .inr ⟨xAg, fun z => no_of (z ▸ ndAg) S0.at_, eaAg, edAg⟩⟩
    obtain ⟨smBE, ndBE, eaBE, edBE⟩ := made1 (f := "index") (v := v) naBE nxBE neBE
    have S1b := S1a.same smBE
    have k1b := k1a.trans (Keep.of_same smBE)
    have YAg := XAg.keep (.of_same smBE)
    have YBE : ExvN (· = p) (upd (upd (upd (upd (upd (upd (upd G0 aAg (exo aAg cAg none)) xAg (exd xAg [("index", v)])) aAg (exo aAg cAg (some xAg))) xAg (exd xAg [("lot", u), ("index", v)])) aBE (exo aBE cBE none)) xBE (exd xBE [("index", v)])) aBE (exo aBE cBE (some xBE))) aBE cBE [("index", v)] := ⟨fun z => no_of (z ▸ naBE) S1a.at_, .inr ⟨xBE, fun z => no_of (z ▸ ndBE) S1a.at_, eaBE, edBE⟩⟩
    refine ⟨_, _, rfl, ?_⟩
    clear smBE
    generalize (upd (upd (upd (upd (upd (upd (upd G0 aAg (exo aAg cAg none)) xAg (exd xAg [("index", v)])) aAg (exo aAg cAg (some xAg))) xAg (exd xAg [("lot", u), ("index", v)])) aBE (exo aBE cBE none)) xBE (exd xBE [("index", v)])) aBE (exo aBE cBE (some xBE))) = G1 at S1b k1b YAg YBE ⊢
    refine ⟨_, rfl, .inl ⟨rfl, _, SqL.of S1b.at_⟩, rd_it2 (av := (· = p)) (fs := [("lot", u), ("index", v)]) (d := d) (d2 := e) EAg nAg_index nAg_lot rfl rfl hd he _ _ _ ⟨⟨⟨rfl, rfl, rfl, YAg, S1b.a1, S1b.a2⟩, S1b.av⟩, fun yAg HAg sAg iAg => ?_⟩⟩
    refine ⟨p, X0, yAg, rfl, rfl, sAg _ _ S1b.at_, small1000 (by omega), ?_⟩
    have S1c := (S1b.same sAg).app iAg
    have k1c := (k1b.trans (Keep.of_same sAg)).trans (Keep.put (ds := (· = p)) (o := HO.lst (X0 ++ [yAg])) (H := HAg) rfl)
    have ZBE := (YBE.keep (.of_same sAg)).keep (Keep.put (ds := (· = p)) (o := HO.lst (X0 ++ [yAg])) (H := HAg) rfl)
    have L1c : (X0 ++ [yAg]).length = 6 := by rw [List.length_append, L0]; rfl
    generalize X0 ++ [yAg] = X1c at S1c k1c L1c ZBE ⊢
    generalize upd HAg p (HO.lst X1c) = G1c at S1c k1c ZBE ⊢
    refine ⟨_, rfl, .inl ⟨rfl, _, SqL.of S1c.at_⟩, rd_it1 (av := (· = p)) (fs := [("index", v)]) (d := d) EBE nBE_index rfl hd _ _ _ ⟨⟨⟨rfl, rfl, ZBE, S1c.a1⟩, S1c.av⟩, fun yBE HBE sBE iBE => ?_⟩⟩
    refine ⟨p, X1c, yBE, rfl, rfl, sBE _ _ S1c.at_, small1000 (by omega), ?_⟩
    have S1d := (S1c.same sBE).app iBE
    have k1d := (k1c.trans (Keep.of_same sBE)).trans (Keep.put (ds := (· = p)) (o := HO.lst (X1c ++ [yBE])) (H := HBE) rfl)
    have L1d : (X1c ++ [yBE]).length = 7 := by rw [List.length_append, L1c]; rfl
    generalize X1c ++ [yBE] = X1d at S1d k1d L1d  ⊢
    generalize upd HBE p (HO.lst X1d) = G1d at S1d k1d  ⊢
    refine ⟨v, rfl, (show 1 ≤ 1000 by decide), fun aBK naBK => ⟨aBK, v, rfl, upd_same, fun xBK nxBK neBK => ⟨rfl, v, rfl, u, rfl, (show 2 ≤ 1000 by decide), fun aBT naBT => ⟨aBT, v, u, rfl, upd_same, fun xBT nxBT neBT => ⟨rfl, ?_⟩⟩⟩⟩⟩
    obtain ⟨smBK, ndBK, eaBK, edBK⟩ := made1 (f := "place") (v := v) naBK nxBK neBK
    have S2a := S1d.same smBK
    have k2a := k1d.trans (Keep.of_same smBK)
    have XBK : ExvN (· = p) (upd (upd (upd G1d aBK (exo aBK cBK none)) xBK (exd xBK [("place", v)])) aBK (exo aBK cBK (some xBK))) aBK cBK [("place", v)] := ⟨fun z => no_of (z ▸ naBK) S1d.at_, .inr ⟨xBK, fun z => no_of (z ▸ ndBK) S1d.at_, eaBK, edBK⟩⟩
    obtain ⟨smBT, ndBT, eaBT, edBT⟩ := made2 (f := "line") (g := "code") (v := v) (u := u) naBT nxBT neBT
    have S2b := S2a.same smBT
    have k2b := k2a.trans (Keep.of_same smBT)
    have YBK := XBK.keep (.of_same smBT)
    have YBT : ExvN (· = p) (upd (upd (upd (upd (upd (upd (upd G1d aBK (exo aBK cBK none)) xBK (exd xBK [("place", v)])) aBK (exo aBK cBK (some xBK))) aBT (exo aBT cBT none)) xBT (exd xBT [("line", v)])) aBT (exo aBT cBT (some xBT))) xBT (exd xBT [("code", u), ("line", v)])) aBT cBT [("code", u), ("line", v)] := ⟨fun z => no_of (z ▸ naBT) S2a.at_, .inr ⟨xBT, fun z => no_of (z ▸ ndBT) S2a.at_, eaBT, edBT⟩⟩
    refine ⟨_, _, rfl, ?_⟩
    clear smBT
    generalize (upd (upd (upd (upd (upd (upd (upd G1d aBK (exo aBK cBK none)) xBK (exd xBK [("place", v)])) aBK (exo aBK cBK (some xBK))) aBT (exo aBT cBT none)) xBT (exd xBT [("line", v)])) aBT (exo aBT cBT (some xBT))) xBT (exd xBT [("code", u), ("line", v)])) = G2 at S2b k2b YBK YBT ⊢
    refine ⟨_, rfl, .inl ⟨rfl, _, SqL.of S2b.at_⟩, rd_it1 (av := (· = p)) (fs := [("place", v)]) (d := d) EBK nBK_place rfl hd _ _ _ ⟨⟨⟨rfl, rfl, YBK, S2b.a1⟩, S2b.av⟩, fun yBK HBK sBK iBK => ?_⟩⟩
    refine ⟨p, X1d, yBK, rfl, rfl, sBK _ _ S2b.at_, small1000 (by omega), ?_⟩
    have S2c := (S2b.same sBK).app iBK
    have k2c := (k2b.trans (Keep.of_same sBK)).trans (Keep.put (ds := (· = p)) (o := HO.lst (X1d ++ [yBK])) (H := HBK) rfl)
    have ZBT := (YBT.keep (.of_same sBK)).keep (Keep.put (ds := (· = p)) (o := HO.lst (X1d ++ [yBK])) (H := HBK) rfl)
    have L2c : (X1d ++ [yBK]).length = 8 := by rw [List.length_append, L1d]; rfl
    generalize X1d ++ [yBK] = X2c at S2c k2c L2c ZBT ⊢
    generalize upd HBK p (HO.lst X2c) = G2c at S2c k2c ZBT ⊢
    refine ⟨_, rfl, .inl ⟨rfl, _, SqL.of S2c.at_⟩, rd_it2 (av := (· = p)) (fs := [("code", u), ("line", v)]) (d := d) (d2 := e) EBT nBT_line nBT_code rfl rfl hd he _ _ _ ⟨⟨⟨rfl, rfl, rfl, ZBT, S2c.a1, S2c.a2⟩, S2c.av⟩, fun yBT HBT sBT iBT => ?_⟩⟩
    refine ⟨p, X2c, yBT, rfl, rfl, sBT _ _ S2c.at_, small1000 (by omega), ?_⟩
    have S2d := (S2c.same sBT).app iBT
    have k2d := (k2c.trans (Keep.of_same sBT)).trans (Keep.put (ds := (· = p)) (o := HO.lst (X2c ++ [yBT])) (H := HBT) rfl)
    have L2d : (X2c ++ [yBT]).length = 9 := by rw [List.length_append, L2c]; rfl
    generalize X2c ++ [yBT] = X2d at S2d k2d L2d  ⊢
    generalize upd HBT p (HO.lst X2d) = G2d at S2d k2d  ⊢
    refine ⟨v, rfl, (show 1 ≤ 1000 by decide), fun aBR naBR => ⟨aBR, v, rfl, upd_same, fun xBR nxBR neBR => ⟨rfl, v, rfl, u, rfl, (show 2 ≤ 1000 by decide), fun aRe naRe => ⟨aRe, v, u, rfl, upd_same, fun xRe nxRe neRe => ⟨rfl, ?_⟩⟩⟩⟩⟩
    obtain ⟨smBR, ndBR, eaBR, edBR⟩ := made1 (f := "place") (v := v) naBR nxBR neBR
    have S3a := S2d.same smBR
    have k3a := k2d.trans (Keep.of_same smBR)
    have XBR : ExvN (· = p) (upd (upd (upd G2d aBR (exo aBR cBR none)) xBR (exd xBR [("place", v)])) aBR (exo aBR cBR (some xBR))) aBR cBR [("place", v)] := ⟨fun z => no_of (z ▸ naBR) S2d.at_, .inr ⟨xBR, fun z => no_of (z ▸ ndBR) S2d.at_, eaBR, edBR⟩⟩
    obtain ⟨smRe, ndRe, eaRe, edRe⟩ := made2 (f := "index") (g := "error") (v := v) (u := u) naRe nxRe neRe
    have S3b := S3a.same smRe
    have k3b := k3a.trans (Keep.of_same smRe)
    have YBR := XBR.keep (.of_same smRe)
    have YRe : ExvN (· = p) (upd (upd (upd (upd (upd (upd (upd G2d aBR (exo aBR cBR none)) xBR (exd xBR [("place", v)])) aBR (exo aBR cBR (some xBR))) aRe (exo aRe cRe none)) xRe (exd xRe [("index", v)])) aRe (exo aRe cRe (some xRe))) xRe (exd xRe [("error", u), ("index", v)])) aRe cRe [("error", u), ("index", v)] := ⟨fun z => no_of (z ▸ naRe) S3a.at_, .inr ⟨xRe, fun z => no_of (z ▸ ndRe) S3a.at_, eaRe, edRe⟩⟩
    refine ⟨_, _, rfl, ?_⟩
    clear smRe
    generalize (upd (upd (upd (upd (upd (upd (upd G2d aBR (exo aBR cBR none)) xBR (exd xBR [("place", v)])) aBR (exo aBR cBR (some xBR))) aRe (exo aRe cRe none)) xRe (exd xRe [("index", v)])) aRe (exo aRe cRe (some xRe))) xRe (exd xRe [("error", u), ("index", v)])) = G3 at S3b k3b YBR YRe ⊢
    refine ⟨_, rfl, .inl ⟨rfl, _, SqL.of S3b.at_⟩, rd_it1 (av := (· = p)) (fs := [("place", v)]) (d := d) EBR nBR_place rfl hd _ _ _ ⟨⟨⟨rfl, rfl, YBR, S3b.a1⟩, S3b.av⟩, fun yBR HBR sBR iBR => ?_⟩⟩
    refine ⟨p, X2d, yBR, rfl, rfl, sBR _ _ S3b.at_, small1000 (by omega), ?_⟩
    have S3c := (S3b.same sBR).app iBR
    have k3c := (k3b.trans (Keep.of_same sBR)).trans (Keep.put (ds := (· = p)) (o := HO.lst (X2d ++ [yBR])) (H := HBR) rfl)
    have ZRe := (YRe.keep (.of_same sBR)).keep (Keep.put (ds := (· = p)) (o := HO.lst (X2d ++ [yBR])) (H := HBR) rfl)
    have L3c : (X2d ++ [yBR]).length = 10 := by rw [List.length_append, L2d]; rfl
    generalize X2d ++ [yBR] = X3c at S3c k3c L3c ZRe ⊢
    generalize upd HBR p (HO.lst X3c) = G3c at S3c k3c ZRe ⊢
    refine ⟨_, rfl, .inl ⟨rfl, _, SqL.of S3c.at_⟩, rd_it2 (av := (· = p)) (fs := [("error", u), ("index", v)]) (d := d) (d2 := e) ERe nRe_index nRe_error rfl rfl hd he _ _ _ ⟨⟨⟨rfl, rfl, rfl, ZRe, S3c.a1, S3c.a2⟩, S3c.av⟩, fun yRe HRe sRe iRe => ?_⟩⟩
    refine ⟨p, X3c, yRe, rfl, rfl, sRe _ _ S3c.at_, small1000 (by omega), ?_⟩
    have S3d := (S3c.same sRe).app iRe
    have k3d := (k3c.trans (Keep.of_same sRe)).trans (Keep.put (ds := (· = p)) (o := HO.lst (X3c ++ [yRe])) (H := HRe) rfl)
    have L3d : (X3c ++ [yRe]).length = 11 := by rw [List.length_append, L3c]; rfl
    generalize X3c ++ [yRe] = X3d at S3d k3d L3d  ⊢
    generalize upd HRe p (HO.lst X3d) = G3d at S3d k3d  ⊢
    refine ⟨v, rfl, (show 1 ≤ 1000 by decide), fun aTM naTM => ⟨aTM, v, rfl, upd_same, fun xTM nxTM neTM => ⟨rfl, ?_⟩⟩⟩
    obtain ⟨smTM, ndTM, eaTM, edTM⟩ := made1 (f := "limit") (v := v) naTM nxTM neTM
    have S9 := S3d.same smTM
    have k9 := k3d.trans (Keep.of_same smTM)
    have XTM : ExvN (· = p) (upd (upd (upd G3d aTM (exo aTM cTM none)) xTM (exd xTM [("limit", v)])) aTM (exo aTM cTM (some xTM))) aTM cTM [("limit", v)] := ⟨fun z => no_of (z ▸ naTM) S3d.at_, .inr ⟨xTM, fun z => no_of (z ▸ ndTM) S3d.at_, eaTM, edTM⟩⟩
    clear smTM
    generalize (upd (upd (upd G3d aTM (exo aTM cTM none)) xTM (exd xTM [("limit", v)])) aTM (exo aTM cTM (some xTM))) = G9 at S9 k9 XTM ⊢
    refine ⟨_, rfl, rd_one (rd_it1 (av := (· = p)) (fs := [("limit", v)]) (d := d) ETM nTM_limit rfl hd _ _ _ ⟨⟨⟨rfl, rfl, XTM, S9.a1⟩, S9.av⟩, fun yZ HZ sZ iZ => ⟨(show 1 ≤ sizeLine by decide), fun lz nlz => ?_⟩⟩)⟩
    have sY := same_new (o := HO.lst [yZ]) nlz
    have SZ := (S9.same sZ).same sY
    refine ⟨p, lz, X3d, [yZ], rfl, rfl, SZ.at_, upd_same, Nat.le_of_lt (small1000 (by rw [L3d]; simp)), fun r nr => ?_⟩
    have sR := same_new (o := HO.lst (X3d ++ [yZ])) nr
    refine q _ r (X3d ++ [yZ]) (fun b o hb => ?_) upd_same (by rw [List.length_append, L3d]; rfl) (fun x hx => ?_)
    · have nb : b ≠ p := ne_of_none hb np0
      exact sR _ _ (sY _ _ (sZ _ _ (k9 b o hb nb)))
    · rcases List.mem_append.mp hx with z | z
      · exact ((SZ.its x z).keep (.of_same sR)).sub
      · rw [List.mem_singleton.mp z]; exact ((iZ.keep (.of_same sY)).keep (.of_same sR)).sub
end
end Kc

set_option Elab.async false
set_option linter.all false
set_option maxRecDepth 100000
set_option maxHeartbeats 8000000
namespace Kc
open PySem PySem.Spec PyProof.Rows L2 Kg Kd Kx
abbrev sLaw : Stmt := topS 30
abbrev nLaw : List Str := ["_law_script", "_law_deck_here", "_law_turn", "_law_one", "_law_other", "_law_error", "_law_kind", "_law_fields", "_law_due", "_law_none", "_law_limits"]
theorem scLaw : FnScope nLaw ["_law_script"] (defScope sLaw) := ⟨rfl, rfl, rfl, by decide +kernel, rfl, by decide +kernel, by decide +kernel⟩
/-- what is said of NoKind -/
structure NoC (K : PySem.W.Frag) (cs : List Addr) (KE C : Addr) : Prop where
  xc : ExcC K C
  kits : ∃ bs, Kits K C cs bs ∧ pick hitN bs = [("NoKind" : Str)]
  lk : PySem.W.kitOne K (.ref C) (.type "LookupError") = some true
  no : PySem.W.kitAny K (.ref C) [.ref KE, .type "ValueError", .type "KeyError", .type "IndexError"] = some false
structure Lim (mg : Str → Option Value) : Prop where
  l1 : ∃ t, mg "MAX_ANSWER" = some (.int 9 t)
  l2 : ∃ t, mg "MAX_EDITS" = some (.int 30 t)
  l3 : ∃ t, mg "MAX_KINDS" = some (.int 6 t)
  l4 : ∃ t, mg "MAX_NEEDS" = some (.int 3 t)
  l5 : ∃ t, mg "MAX_NEW" = some (.int 4 t)
  l6 : ∃ t, mg "MAX_ROWS" = some (.int 6 t)
  l7 : ∃ t, mg "MAX_TESTS" = some (.int 12 t)
  l8 : ∃ t, mg "MAX_WISHES" = some (.int 3 t)
structure Bl2 (mg : Str → Option Value) : Prop where
  le : mg "LookupError" = none
  ve : mg "ValueError" = none
  ke : mg "KeyError" = none
  ie : mg "IndexError" = none
def spLaw (K : PySem.W.Frag) : Sp := fun vs H Q _ => ∃ (a : Addr) (ns : List Int), vs = [.ref a] ∧ SqL K H a (ns.map V.int) ∧ ns.length ≤ 63 ∧ ∀ H', Q (.bl true) H'
theorem dp1 {K : PySem.W.Frag} {H : Hp} {a : Addr} {x : Str} (h : H a = some (.lst [.str x])) : Dp K H (.ref a) (.list [.str x]) := .lst (SqL.of h) (.cons (.str x) .nil)
theorem eq1 (x : Str) : PyData.eqv (.list [.str x]) (.list [.str x]) = true := by simp [PyData.eqv, PyData.eqvAll]
section
variable {P : Program} {w : World} {K : PySem.W.Frag} {mg : Str → Option Value} {base : Heap}
theorem ok_law {f fD fO fS fK fE cN fN KE : Addr} {fd dD dO dS dK dE dN : FuncData} {cs : List Addr} (F : Fun K "law" "law" sLaw f fd) (B : Bl mg) (B2 : Bl2 mg) (L : Lim mg)
    (GD : FnOk P w K mg base CX0 1 fD dD ["_law_script"] (spDeck K)) (gD : mg "_law_deck" = some (.ref fD)) (kD : PySem.W.keepIn K (.ref fD) = true) (bD : Binds K dD ["_law_script"] [])
    (GO : FnOk P w K mg base CX0 2 fO dO ["_law_deck_here"] spOdd) (gO : mg "_law_odd" = some (.ref fO)) (kO : PySem.W.keepIn K (.ref fO) = true) (bO : Binds K dO ["_law_deck_here"] [])
    (GS : FnG P w K mg base 7 fS dS ["_law_found", "_law_due"] (spSame 7)) (gS : mg "_law_same" = some (.ref fS)) (kS : PySem.W.keepIn K (.ref fS) = true) (bS : Binds K dS ["_law_found", "_law_due"] [])
    (GK : FnOk P w K mg base CX0 1 fK dK ["_law_error"] (spKinds K cs)) (gK : mg "_law_kinds" = some (.ref fK)) (kK : PySem.W.keepIn K (.ref fK) = true) (bK : Binds K dK ["_law_error"] [])
    (GE : FnOk P w K mg base CX0 3 fE dE ["_law_one", "_law_other"] (spErr K cs KE)) (gE : mg "_law_errors" = some (.ref fE)) (kE : PySem.W.keepIn K (.ref fE) = true) (bE : Binds K dE ["_law_one", "_law_other"] [])
    (gKE : mg "KindError" = some (.ref KE)) (gN : mg "NoKind" = some (.ref cN)) (MN : MkX K cN fN leT "LookupError.__new__") (bN : Binds K dN ["self", "kind"] []) (GN : FnOk P w K mg base CX0 1 fN dN ["self", "kind"] (spI1 "kind" cN)) (CN : NoC K cs KE cN) (nN : PySem.W.findIn K (.ref cN) "kind" = some none) :
    FnG P w K mg base 8 f fd ["_law_script"] (spLaw K) := by
  obtain ⟨t1, l1⟩ := L.l1
  obtain ⟨t2, l2⟩ := L.l2
  obtain ⟨t3, l3⟩ := L.l3
  obtain ⟨t4, l4⟩ := L.l4
  obtain ⟨t5, l5⟩ := L.l5
  obtain ⟨t6, l6⟩ := L.l6
  obtain ⟨t7, l7⟩ := L.l7
  obtain ⟨t8, l8⟩ := L.l8
  refine okG F scLaw (fun vs H Q E h => ?_) (fun cdv A out s H vs Q hgu hr h => ?_)
  · obtain ⟨a, ns, rfl, _⟩ := h
    rfl
  · obtain ⟨a, ns, rfl, hS, hlen, q⟩ := h
    refine ⟨_, pss_cons (ps_set (i := 1) scLaw.nd rfl (.inl rfl) (pe_call GD (hr.mono (by decide)) (by rfl) gD kD bD .nil pass0 (pa_cons (pv 0) pa_nil)))
      (pss_cons (ps_for PassesOwn.never rfl (pi_range1 (by rfl) B.range (pa_cons pe_int pa_nil)) (pg_name (i := 2) scLaw.nd rfl (.inl rfl))
        (pss_cons (ps_par (i := 3) (j := 4) (by rfl) scLaw.nd rfl rfl (by decide) rfl rfl (pa_cons (pe_call GO (hr.mono (by decide)) (by rfl) gO kO bO .nil pass0 (pa_cons (pv 1) pa_nil)) (pa_cons (pe_call GO (hr.mono (by decide)) (by rfl) gO kO bO .nil pass0 (pa_cons (pv 1) pa_nil)) pa_nil)) (by rfl))
        (pss_cons (ps_for PassesOwn.never rfl (pi_list (pe_call GE (hr.mono (by decide)) (by rfl) gE kE bE .nil pass0 (pa_cons (pv 3) (pa_cons (pv 4) pa_nil)))) (pg_tup rfl (pgs_cons (pg_name (i := 5) scLaw.nd rfl (.inl rfl)) (pgs_cons (pg_name (i := 6) scLaw.nd rfl (.inl rfl)) (pgs_cons (pg_name (i := 7) scLaw.nd rfl (.inl rfl)) (pgs_cons (pg_name (i := 8) scLaw.nd rfl (.inl rfl)) pgs_nil)))))
          (pss_cons (ps_if (PW.pt (pw_or (pt_not (pt_val (pe_callG GS hgu hr (by rfl) gS kS bS (pa_cons (pv 7) (pa_cons (pv 8) pa_nil))))) (pw_or1 (pt_cmpR (op_neD hr.units) (pe_call GK (hr.mono (by decide)) (by rfl) gK kK bK .nil pass0 (pa_cons (pv 5) pa_nil)) (pe_lst (pa_cons (pv 6) pa_nil)) (nomark _))))) (pss_one (ps_ret pe_bl)) pss_nil)
          (pss_cons (ps_if (PW.pt (pw_or (pt_val (pe_callB call_isX (by rfl) B.isi boot_isinstance (pa_cons (pv 5) (pa_cons (pe_bltn (v := .ty "LookupError") (by rfl) B2.le (by decide +kernel) rfl) pa_nil)))) (pw_or1 (pt_not (pt_val (pe_callB call_isX (by rfl) B.isi boot_isinstance (pa_cons (pv 5) (pa_cons (pe_glob (v := .ref KE) (by rfl) gKE rfl) pa_nil)))))))) (pss_one (ps_ret pe_bl)) pss_nil)
          (pss_one (ps_if (pt_not (pt_val (pe_callB call_isX (by rfl) B.isi boot_isinstance (pa_cons (pv 5) (pa_cons (pe_bltn (v := .ty "ValueError") (by rfl) B2.ve (by decide +kernel) rfl) pa_nil))))) (pss_one (ps_ret pe_bl)) pss_nil)))))
        (pss_cons (ps_set (i := 9) scLaw.nd rfl (.inl rfl) (pe_mkV PySem.F.excBase_LookupError MN GN (hr.mono (by decide)) bN (by rfl) gN (pa_cons (pv 3) pa_nil)))
        (pss_cons (ps_if (PW.pt (pw_or (pt_not (pt_val (pe_callG GS hgu hr (by rfl) gS kS bS (pa_cons (pe_fx (pv 9)) (pa_cons (pv 3) pa_nil))))) (pw_or (pt_cmpR (op_neD hr.units) (pe_call GK (hr.mono (by decide)) (by rfl) gK kK bK .nil pass0 (pa_cons (pv 9) pa_nil)) (pe_lst (pa_cons pe_str pa_nil)) (nomark _)) (pw_or1 (pt_not (pt_val (pe_callB call_isX (by rfl) B.isi boot_isinstance (pa_cons (pv 9) (pa_cons (pe_bltn (v := .ty "LookupError") (by rfl) B2.le (by decide +kernel) rfl) pa_nil))))))))) (pss_one (ps_ret pe_bl)) pss_nil)
        (pss_one (ps_if (pt_val (pe_callB call_isXT (by rfl) B.isi boot_isinstance (pa_cons (pv 9) (pa_cons (pe_tup (pa_cons (pe_glob (v := .ref KE) (by rfl) gKE rfl) (pa_cons (pe_bltn (v := .ty "ValueError") (by rfl) B2.ve (by decide +kernel) rfl) (pa_cons (pe_bltn (v := .ty "KeyError") (by rfl) B2.ke (by decide +kernel) rfl) (pa_cons (pe_bltn (v := .ty "IndexError") (by rfl) B2.ie (by decide +kernel) rfl) pa_nil))))) pa_nil)))) (pss_one (ps_ret pe_bl)) pss_nil)))))))
      (pss_cons (ps_set (i := 10) scLaw.nd rfl (.inl rfl) (pe_tup (pa_cons (pe_glob (v := .int 9) (by rfl) l1 ⟨t1, rfl⟩) (pa_cons (pe_glob (v := .int 30) (by rfl) l2 ⟨t2, rfl⟩) (pa_cons (pe_glob (v := .int 6) (by rfl) l3 ⟨t3, rfl⟩) (pa_cons (pe_glob (v := .int 3) (by rfl) l4 ⟨t4, rfl⟩) (pa_cons (pe_glob (v := .int 4) (by rfl) l5 ⟨t5, rfl⟩) (pa_cons (pe_glob (v := .int 6) (by rfl) l6 ⟨t6, rfl⟩) (pa_cons (pe_glob (v := .int 12) (by rfl) l7 ⟨t7, rfl⟩) (pa_cons (pe_glob (v := .int 3) (by rfl) l8 ⟨t8, rfl⟩) pa_nil))))))))))
      (pss_one (ps_ret (pe_callG GS hgu hr (by rfl) gS kS bS (pa_cons (pv 10) (pa_cons (pe_tup (pa_cons pe_int (pa_cons pe_int (pa_cons pe_int (pa_cons pe_int (pa_cons pe_int (pa_cons pe_int (pa_cons pe_int (pa_cons pe_int pa_nil))))))))) pa_nil))))))), ?_⟩
    -- the deck
    refine ⟨_, rfl, a, ns, rfl, hS, hlen, fun H1 d la lb s1 nd nla nlb D1 => ?_⟩
    -- two turns
    refine ⟨2, rfl, by decide, by decide, for_range (lo := 0) (n := 2) (fun i σ H2 => ∃ y2 y3 y4 y5 y6 y7 y8 y9, σ = [some (.ref a), some (.ref d), y2, y3, y4, y5, y6, y7, y8, y9, none] ∧ DeckAt H2 d la lb (1152921504606846976 - 2 * i))
      ⟨none, none, none, none, none, none, none, none, rfl, D1⟩ (fun i σ H2 hi hP => ?_) (fun σ H2 hP => ?_)⟩
    · obtain ⟨y2, y3, y4, y5, y6, y7, y8, y9, rfl, D2⟩ := hP
      have D2' : DeckAt H2 d la lb ((1152921504606846974 - 2 * i) + 1 + 1) := D2.less (by omega)
      -- one, other
      refine ⟨_, rfl, d, la, lb, _, rfl, D2', fun v dv H3 D3 k3 hv3 dv4 => ?_⟩
      refine ⟨_, rfl, d, la, lb, _, rfl, D3, fun u du H4 D4 k4 hu4 du4 => ⟨_, _, rfl, ?_⟩⟩
      have tr2 : ∀ b, dk d la b → trk H2 b := fun b z => by
        rcases z with z | z
        · rw [z]; exact D2.tracked.1
        · rw [z]; exact D2.tracked.2.1
      have hv4 : Da Kd.nil H4 v dv := ((hv3.sub tr2).keep k4).nil
      have hu4' : Da Kd.nil H4 u du := hu4.nil
      -- the errors
      refine ⟨_, rfl, _, rfl, v, u, dv, du, rfl, hv4, hu4', dv4, du4, fun H5 l xs s5 e5 l5' it5 => ?_⟩
      refine ⟨l, rfl, ⟨_, SqL.of e5⟩, for_list (K := K) (a := l) (xs := xs) (fun j σ H6 => ∃ z5 z6 z7 z8, σ = [some (.ref a), some (.ref d), some (.int (0 + (i : Nat))), some v, some u, z5, z6, z7, z8, y9, none] ∧ Same H5 H6)
        ⟨y5, y6, y7, y8, rfl, Same.refl _⟩ (fun j σ H6 _ p => by obtain ⟨_, _, _, _, _, p⟩ := p; exact SqL.of (p _ _ e5)) (fun j x σ H6 hx p => ?_) (fun σ H6 p => ?_)⟩
      · obtain ⟨z5, z6, z7, z8, rfl, s6⟩ := p
        obtain ⟨T, e, C, fF, fG, nm, fs, vs, us, ds, rfl, _, hT, he, EC, _, hF, _, hG, a1, a2, hl, hd⟩ := (it5 x (List.mem_of_getElem? hx)).keep (.of_same s6)
        obtain ⟨bs, kt, pk⟩ := EC.kits
        refine ⟨T, _, rfl, SqT.of hT, rfl, .ref e, _, rfl, .str nm, _, rfl, .ref fF, _, rfl, .ref fG, _, rfl, rfl, ?_⟩
        have lv : vs.length ≤ 1000 := by rw [a1.length]; omega
        have lu : us.length ≤ 1000 := by rw [a2.length]; omega
        refine ⟨_, rfl, _, rfl, .ref fF, .ref fG, .list ds, .list ds, rfl, .lst (fun z => z) hF lv a1, .lst (fun z => z) hG lu a2, (by show PyData.depthAll ds + 1 < 7; omega), fun H7 s7 => ⟨_, rfl, ?_⟩⟩
        rw [sameD_refl]
        refine iteF ?_
        refine ⟨_, rfl, e, C, fs, bs, rfl, he.exv.same s7, EC.xc, kt, fun H8 l8 s8 _ e8 => ⟨_, rfl, (show 1 ≤ sizeLine by decide), fun m nm' => ?_⟩⟩
        have s9 := same_new (o := HO.lst [.str nm]) nm'
        rw [pk] at e8
        refine ⟨_, _, dp1 (s9 _ _ e8), dp1 upd_same, EC.ok, EC.ok, _, rfl, ?_⟩
        rw [eq1]
        refine iteF ?_
        have sA := s7.trans (s8.trans s9)
        have hE := he.exv.same sA
        generalize (upd H8 m (HO.lst [.str nm])) = H9 at sA hE ⊢
        refine ⟨_, rfl, e, C, fs, _, _, false, rfl, hE, EC.xc, .ty _, EC.lk, _, rfl, iteF ?_⟩
        refine ⟨_, rfl, e, C, fs, _, _, true, rfl, hE, EC.xc, .own KE, EC.ke, _, rfl, iteF ?_⟩
        refine ⟨_, rfl, e, C, fs, _, _, true, rfl, hE, EC.xc, .ty _, EC.ve, _, rfl, iteF ?_⟩
        exact ⟨_, _, _, _, rfl, s6.trans sA⟩
      · obtain ⟨z5, z6, z7, z8, rfl, s6⟩ := p
        have hv6 := hv4.same (s5.trans s6)
        -- NoKind
        refine ⟨_, rfl, (show 1 ≤ 1000 by decide), fun aN naN => ⟨aN, v, rfl, upd_same, fun xN nxN neN => ⟨rfl, ?_⟩⟩⟩
        obtain ⟨smN, ndN, eaN, edN⟩ := made1 (f := "kind") (v := v) naN nxN neN
        have XN : Exv (upd (upd (upd H6 aN (exo aN cN none)) xN (exd xN [("kind", v)])) aN (exo aN cN (some xN))) aN cN [("kind", v)] := .inr ⟨xN, eaN, edN⟩
        have sN := s5.trans (s6.trans smN)
        have hvN := hv6.same smN
        clear eaN edN
        generalize (upd (upd (upd H6 aN (exo aN cN none)) xN (exd xN [("kind", v)])) aN (exo aN cN (some xN))) = H7 at XN sN hvN smN ⊢
        obtain ⟨bs, kt, pk⟩ := CN.kits
        refine ⟨_, rfl, aN, cN, _, v, rfl, XN, CN.xc, nN, rfl, _, rfl, v, v, dv, dv, rfl, hvN, hvN, by omega, fun H8 s8 => ⟨_, rfl, ?_⟩⟩
        rw [sameD_refl]
        refine iteF ?_
        refine ⟨_, rfl, aN, cN, _, bs, rfl, XN.same s8, CN.xc, kt, fun H9 l9 s9 _ e9 => ⟨(show 1 ≤ sizeLine by decide), fun m nm' => ?_⟩⟩
        have sB := same_new (o := HO.lst [.str "NoKind"]) nm'
        rw [pk] at e9
        refine ⟨_, _, dp1 (sB _ _ e9), dp1 upd_same, by decide +kernel, by decide +kernel, _, rfl, ?_⟩
        rw [eq1]
        refine iteF ?_
        have sC := s8.trans (s9.trans sB)
        have XM := XN.same sC
        generalize (upd H9 m (HO.lst [.str "NoKind"])) = HA at sC XM ⊢
        refine ⟨_, rfl, aN, cN, _, _, _, true, rfl, XM, CN.xc, .ty _, CN.lk, _, rfl, iteF ?_⟩
        refine ⟨_, rfl, (show 4 ≤ sizeLine by decide), fun tp ntp => ?_⟩
        have sD := same_new (o := HO.tup [.ref KE, .ty "ValueError", .ty "KeyError", .ty "IndexError"]) ntp
        refine ⟨aN, cN, tp, _, _, _, false, rfl, XM.same sD, CN.xc, upd_same, .cons (.own KE) (.cons (.ty _) (.cons (.ty _) (.cons (.ty _) .nil))), CN.no, _, rfl, iteF ?_⟩
        exact ⟨_, _, _, _, _, _, _, _, rfl, (D4.same (sN.trans (sC.trans sD))).less (by omega)⟩
    · obtain ⟨y2, y3, y4, y5, y6, y7, y8, y9, rfl, D2⟩ := hP
      -- the limits
      refine ⟨(show 8 ≤ sizeLine by decide), fun p np => ?_⟩
      refine ⟨_, rfl, (show 8 ≤ sizeLine by decide), fun r nr => ?_⟩
      have sR := same_new (o := HO.tup [.int 9, .int 30, .int 6, .int 3, .int 4, .int 6, .int 12, .int 3]) nr
      have lim : ∀ {H : Hp} {b : Addr}, H b = some (.tup [.int 9, .int 30, .int 6, .int 3, .int 4, .int 6, .int 12, .int 3]) → Da Kd.nil H (.ref b) (.tuple [.int 9, .int 30, .int 6, .int 3, .int 4, .int 6, .int 12, .int 3]) := fun h =>
        .tup (fun z => z) h (by decide) (.cons (.int _) (.cons (.int _) (.cons (.int _) (.cons (.int _) (.cons (.int _) (.cons (.int _) (.cons (.int _) (.cons (.int _) .nil))))))))
      refine ⟨.ref p, .ref r, _, _, rfl, lim (sR _ _ upd_same), lim upd_same, by decide +kernel, fun H' s' => ?_⟩
      rw [sameD_refl]
      exact q H'
end
end Kc

set_option Elab.async false
set_option linter.all false
set_option maxRecDepth 100000
set_option maxHeartbeats 8000000
namespace Kc
open PySem PySem.Spec PyProof.Rows L2 Kg Kd Kx
/-! ### the classes' facts, as truth values -/
def excCB (K : PySem.W.Frag) (C : Addr) : Bool := decide (PySem.W.findIn K (.ref C) "__getattribute__" = some (some (.builtin "BaseException.__getattribute__"))) && (decide (PySem.W.findIn K (.ref C) "__getattr__" = some none) && (decide (PySem.W.subIn K (.ref C) (.type "BaseException") = some true) && (PySem.W.hasDictIn K C &&
  (decide (PySem.W.findIn K (.ref C) "__class__" = some (some (.builtin "object.__class__"))) && (decide (PySem.W.specialIn K (.builtin "object.__class__") "__get__" = some (some (.builtin "getset_descriptor.__get__"))) && (decide (PySem.W.takesIn K (.builtin "object.__class__") = some true) && decide (PySem.W.mroIn K C (.type "object") = some true)))))))
theorem ba2 {a b : Bool} (h : (a && b) = true) : a = true ∧ b = true := Bool.and_eq_true_iff.mp h
theorem excCB_ok {K : PySem.W.Frag} {C : Addr} (h : excCB K C = true) : ExcC K C := by
  obtain ⟨h1, h⟩ := ba2 h
  obtain ⟨h2, h⟩ := ba2 h
  obtain ⟨h3, h⟩ := ba2 h
  obtain ⟨h4, h⟩ := ba2 h
  obtain ⟨h5, h⟩ := ba2 h
  obtain ⟨h6, h⟩ := ba2 h
  obtain ⟨h7, h8⟩ := ba2 h
  exact ⟨of_decide_eq_true h1, of_decide_eq_true h2, of_decide_eq_true h3, h4, of_decide_eq_true h5, of_decide_eq_true h6, of_decide_eq_true h7, of_decide_eq_true h8⟩
def kitsB (K : PySem.W.Frag) (C : Addr) : List Addr → List Bool → Bool
  | [], [] => true
  | c :: cs, b :: bs => decide (PySem.W.kitOne K (.ref C) (.ref c) = some b) && kitsB K C cs bs
  | _, _ => false
theorem kitsB_ok {K : PySem.W.Frag} {C : Addr} : ∀ {cs : List Addr} {bs : List Bool}, kitsB K C cs bs = true → Kits K C cs bs
  | [], [], _ => .nil
  | [], _ :: _, h => nomatch h
  | _ :: _, [], h => nomatch h
  | c :: cs, b :: bs, h => .cons (of_decide_eq_true (ba2 h).1) (kitsB_ok (ba2 h).2)
def errB (K : PySem.W.Frag) (cs : List Addr) (KE C : Addr) (bs : List Bool) : Bool := excCB K C && (kitsB K C cs bs && (decide (PySem.W.kitOne K (.ref C) (.type "LookupError") = some false) && (decide (PySem.W.kitOne K (.ref C) (.ref KE) = some true) && decide (PySem.W.kitOne K (.ref C) (.type "ValueError") = some true))))
theorem errB_ok {K : PySem.W.Frag} {cs : List Addr} {KE C : Addr} {bs : List Bool} {nm : Str} (hp : pick hitN bs = [nm]) (hs : SeqAt.shaped (.list [.str nm]) = true) (h : errB K cs KE C bs = true) : ErrC K cs KE C nm := by
  obtain ⟨h1, h⟩ := ba2 h
  obtain ⟨h2, h⟩ := ba2 h
  obtain ⟨h3, h⟩ := ba2 h
  obtain ⟨h4, h5⟩ := ba2 h
  exact ⟨excCB_ok h1, ⟨bs, kitsB_ok h2, hp⟩, of_decide_eq_true h3, of_decide_eq_true h4, of_decide_eq_true h5, hs⟩
def noB (K : PySem.W.Frag) (cs : List Addr) (KE C : Addr) (bs : List Bool) : Bool := excCB K C && (kitsB K C cs bs && (decide (PySem.W.kitOne K (.ref C) (.type "LookupError") = some true) && decide (PySem.W.kitAny K (.ref C) [.ref KE, .type "ValueError", .type "KeyError", .type "IndexError"] = some false)))
theorem noB_ok {K : PySem.W.Frag} {cs : List Addr} {KE C : Addr} {bs : List Bool} (hp : pick hitN bs = [("NoKind" : Str)]) (h : noB K cs KE C bs = true) : NoC K cs KE C := by
  obtain ⟨h1, h⟩ := ba2 h
  obtain ⟨h2, h⟩ := ba2 h
  obtain ⟨h3, h4⟩ := ba2 h
  exact ⟨excCB_ok h1, ⟨bs, kitsB_ok h2, hp⟩, of_decide_eq_true h3, of_decide_eq_true h4⟩
def mkxB (K : PySem.W.Frag) (C fI : Addr) (bm : List Value) (nid : String) (fs : List Str) : Bool := PySem.W.excInitIn K C bm nid && (decide (PySem.W.findIn K (.ref C) "__init__" = some (some (.ref fI))) && (decide (PySem.W.typeIn K (.ref fI) = some (.type "function")) && (PySem.W.keepIn K (.ref C) &&
  (PySem.W.excOver K C bm && (PySem.W.hasDictIn K C && (decide (PySem.W.findIn K (.ref C) "__setattr__" = some (some (.builtin "object.__setattr__"))) && fs.all fun f => decide (PySem.W.takerIn K C f = some none) && decide (PySem.W.findIn K (.ref C) f = some none)))))))
theorem mkxB_ok {K : PySem.W.Frag} {C fI : Addr} {bm : List Value} {nid : String} {fs : List Str} (h : mkxB K C fI bm nid fs = true) : MkX K C fI bm nid ∧ StX K C bm ∧ ((∀ f : Str, f ∈ fs → PySem.W.takerIn K C f = some none) ∧ ∀ f : Str, f ∈ fs → PySem.W.findIn K (.ref C) f = some none) := by
  obtain ⟨h1, h⟩ := ba2 h
  obtain ⟨h2, h⟩ := ba2 h
  obtain ⟨h3, h⟩ := ba2 h
  obtain ⟨h4, h⟩ := ba2 h
  obtain ⟨h5, h⟩ := ba2 h
  obtain ⟨h6, h⟩ := ba2 h
  obtain ⟨h7, h8⟩ := ba2 h
  have h9 := List.all_eq_true.mp h8
  exact ⟨⟨h1, of_decide_eq_true h2, of_decide_eq_true h3, h4⟩, ⟨h5, h6, of_decide_eq_true h7⟩, fun f hf => of_decide_eq_true (ba2 (h9 f hf)).1, fun f hf => of_decide_eq_true (ba2 (h9 f hf)).2⟩
/-! ### what the top has written -/
theorem all_mk {l : PySem.W.OpenLaw} {w : World} {K : PySem.W.Frag} {h : Heap} {mg : Str → Option Value} {fa fD fN fS fO fQ fE fL iAg iBE iBK iBT iBR iRe iTM iNK cAg cBC cBE cBK cBT cBR cBW cFu cId cNK cNU cRe cTM cKE : Addr} (X : K.In h) (G : h.Ns mainGlobals mg) (hfa : mg "law" = some (.ref fa))
    {ocD kVD dcD pmD cdD ctD : Value} {odD anD : Option Addr} {slD : Array (Option Value)}
    (aD : PySem.W.nsIn K mainGlobals "_law_deck" = some (some (.ref fD))) (lD : K.lookup fD = some ⟨ocD, odD, .func (PySem.W.fnOf "_law_deck" "_law_deck" (defArgs sDeck) (defBody sDeck) (defScope sDeck) .none kVD dcD pmD anD cdD ctD), slD⟩) (xD : PySem.W.codeIn K cdD "_law_deck" = true) (kD : PySem.W.keepIn K (.ref fD) = true)
    {ocN kVN dcN pmN cdN ctN : Value} {odN anN : Option Addr} {slN : Array (Option Value)}
    (aN : PySem.W.nsIn K mainGlobals "_law_next" = some (some (.ref fN))) (lN : K.lookup fN = some ⟨ocN, odN, .func (PySem.W.fnOf "_law_next" "_law_next" (defArgs sNext) (defBody sNext) (defScope sNext) .none kVN dcN pmN anN cdN ctN), slN⟩) (xN : PySem.W.codeIn K cdN "_law_next" = true) (kN : PySem.W.keepIn K (.ref fN) = true)
    {ocS kVS dcS pmS cdS ctS : Value} {odS anS : Option Addr} {slS : Array (Option Value)}
    (aS : PySem.W.nsIn K mainGlobals "_law_same" = some (some (.ref fS))) (lS : K.lookup fS = some ⟨ocS, odS, .func (PySem.W.fnOf "_law_same" "_law_same" (defArgs sSame) (defBody sSame) (defScope sSame) .none kVS dcS pmS anS cdS ctS), slS⟩) (xS : PySem.W.codeIn K cdS "_law_same" = true) (kS : PySem.W.keepIn K (.ref fS) = true)
    {ocO kVO dcO pmO cdO ctO : Value} {odO anO : Option Addr} {slO : Array (Option Value)}
    (aO : PySem.W.nsIn K mainGlobals "_law_odd" = some (some (.ref fO))) (lO : K.lookup fO = some ⟨ocO, odO, .func (PySem.W.fnOf "_law_odd" "_law_odd" (defArgs sOdd) (defBody sOdd) (defScope sOdd) .none kVO dcO pmO anO cdO ctO), slO⟩) (xO : PySem.W.codeIn K cdO "_law_odd" = true) (kO : PySem.W.keepIn K (.ref fO) = true)
    {ocQ kVQ dcQ pmQ cdQ ctQ : Value} {odQ anQ : Option Addr} {slQ : Array (Option Value)}
    (aQ : PySem.W.nsIn K mainGlobals "_law_kinds" = some (some (.ref fQ))) (lQ : K.lookup fQ = some ⟨ocQ, odQ, .func (PySem.W.fnOf "_law_kinds" "_law_kinds" (defArgs sKinds) (defBody sKinds) (defScope sKinds) .none kVQ dcQ pmQ anQ cdQ ctQ), slQ⟩) (xQ : PySem.W.codeIn K cdQ "_law_kinds" = true) (kQ : PySem.W.keepIn K (.ref fQ) = true)
    {ocE kVE dcE pmE cdE ctE : Value} {odE anE : Option Addr} {slE : Array (Option Value)}
    (aE : PySem.W.nsIn K mainGlobals "_law_errors" = some (some (.ref fE))) (lE : K.lookup fE = some ⟨ocE, odE, .func (PySem.W.fnOf "_law_errors" "_law_errors" (defArgs sErr) (defBody sErr) (defScope sErr) .none kVE dcE pmE anE cdE ctE), slE⟩) (xE : PySem.W.codeIn K cdE "_law_errors" = true) (kE : PySem.W.keepIn K (.ref fE) = true)
    {ocL kVL dcL pmL cdL ctL : Value} {odL anL : Option Addr} {slL : Array (Option Value)}
    (aL : PySem.W.nsIn K mainGlobals "law" = some (some (.ref fL))) (lL : K.lookup fL = some ⟨ocL, odL, .func (PySem.W.fnOf "law" "law" (defArgs sLaw) (defBody sLaw) (defScope sLaw) .none kVL dcL pmL anL cdL ctL), slL⟩) (xL : PySem.W.codeIn K cdL "law" = true) (kL : PySem.W.keepIn K (.ref fL) = true)
    (nAg : PySem.W.nsIn K mainGlobals "Against" = some (some (.ref cAg)))
    (nBC : PySem.W.nsIn K mainGlobals "BadChoice" = some (some (.ref cBC)))
    (nBE : PySem.W.nsIn K mainGlobals "BadEdits" = some (some (.ref cBE)))
    (nBK : PySem.W.nsIn K mainGlobals "BadKinds" = some (some (.ref cBK)))
    (nBT : PySem.W.nsIn K mainGlobals "BadText" = some (some (.ref cBT)))
    (nBR : PySem.W.nsIn K mainGlobals "BadTree" = some (some (.ref cBR)))
    (nBW : PySem.W.nsIn K mainGlobals "BadWishes" = some (some (.ref cBW)))
    (nFu : PySem.W.nsIn K mainGlobals "Full" = some (some (.ref cFu)))
    (nId : PySem.W.nsIn K mainGlobals "Idle" = some (some (.ref cId)))
    (nNK : PySem.W.nsIn K mainGlobals "NoKind" = some (some (.ref cNK)))
    (nNU : PySem.W.nsIn K mainGlobals "NothingToUndo" = some (some (.ref cNU)))
    (nRe : PySem.W.nsIn K mainGlobals "Rejected" = some (some (.ref cRe)))
    (nTM : PySem.W.nsIn K mainGlobals "TooMany" = some (some (.ref cTM)))
    (nKE : PySem.W.nsIn K mainGlobals "KindError" = some (some (.ref cKE)))
    {ociAg kViAg dciAg pmiAg cdiAg ctiAg : Value} {odiAg aniAg : Option Addr} {sliAg : Array (Option Value)}
    (yAg : PySem.W.findIn K (.ref cAg) "__init__" = some (some (.ref iAg))) (liAg : K.lookup iAg = some ⟨ociAg, odiAg, .func (PySem.W.fnOf "__init__" "Against.__init__" (defArgs sAg) (defBody sAg) (defScope sAg) .none kViAg dciAg pmiAg aniAg cdiAg ctiAg), sliAg⟩) (xiAg : PySem.W.codeIn K cdiAg "Against.__init__" = true) (kiAg : PySem.W.keepIn K (.ref iAg) = true)
    {ociBE kViBE dciBE pmiBE cdiBE ctiBE : Value} {odiBE aniBE : Option Addr} {sliBE : Array (Option Value)}
    (yBE : PySem.W.findIn K (.ref cBE) "__init__" = some (some (.ref iBE))) (liBE : K.lookup iBE = some ⟨ociBE, odiBE, .func (PySem.W.fnOf "__init__" "BadEdits.__init__" (defArgs sBE) (defBody sBE) (defScope sBE) .none kViBE dciBE pmiBE aniBE cdiBE ctiBE), sliBE⟩) (xiBE : PySem.W.codeIn K cdiBE "BadEdits.__init__" = true) (kiBE : PySem.W.keepIn K (.ref iBE) = true)
    {ociBK kViBK dciBK pmiBK cdiBK ctiBK : Value} {odiBK aniBK : Option Addr} {sliBK : Array (Option Value)}
    (yBK : PySem.W.findIn K (.ref cBK) "__init__" = some (some (.ref iBK))) (liBK : K.lookup iBK = some ⟨ociBK, odiBK, .func (PySem.W.fnOf "__init__" "BadKinds.__init__" (defArgs sBK) (defBody sBK) (defScope sBK) .none kViBK dciBK pmiBK aniBK cdiBK ctiBK), sliBK⟩) (xiBK : PySem.W.codeIn K cdiBK "BadKinds.__init__" = true) (kiBK : PySem.W.keepIn K (.ref iBK) = true)
    {ociBT kViBT dciBT pmiBT cdiBT ctiBT : Value} {odiBT aniBT : Option Addr} {sliBT : Array (Option Value)}
    (yBT : PySem.W.findIn K (.ref cBT) "__init__" = some (some (.ref iBT))) (liBT : K.lookup iBT = some ⟨ociBT, odiBT, .func (PySem.W.fnOf "__init__" "BadText.__init__" (defArgs sBT) (defBody sBT) (defScope sBT) .none kViBT dciBT pmiBT aniBT cdiBT ctiBT), sliBT⟩) (xiBT : PySem.W.codeIn K cdiBT "BadText.__init__" = true) (kiBT : PySem.W.keepIn K (.ref iBT) = true)
    {ociBR kViBR dciBR pmiBR cdiBR ctiBR : Value} {odiBR aniBR : Option Addr} {sliBR : Array (Option Value)}
    (yBR : PySem.W.findIn K (.ref cBR) "__init__" = some (some (.ref iBR))) (liBR : K.lookup iBR = some ⟨ociBR, odiBR, .func (PySem.W.fnOf "__init__" "BadTree.__init__" (defArgs sBR) (defBody sBR) (defScope sBR) .none kViBR dciBR pmiBR aniBR cdiBR ctiBR), sliBR⟩) (xiBR : PySem.W.codeIn K cdiBR "BadTree.__init__" = true) (kiBR : PySem.W.keepIn K (.ref iBR) = true)
    {ociRe kViRe dciRe pmiRe cdiRe ctiRe : Value} {odiRe aniRe : Option Addr} {sliRe : Array (Option Value)}
    (yRe : PySem.W.findIn K (.ref cRe) "__init__" = some (some (.ref iRe))) (liRe : K.lookup iRe = some ⟨ociRe, odiRe, .func (PySem.W.fnOf "__init__" "Rejected.__init__" (defArgs sRe) (defBody sRe) (defScope sRe) .none kViRe dciRe pmiRe aniRe cdiRe ctiRe), sliRe⟩) (xiRe : PySem.W.codeIn K cdiRe "Rejected.__init__" = true) (kiRe : PySem.W.keepIn K (.ref iRe) = true)
    {ociTM kViTM dciTM pmiTM cdiTM ctiTM : Value} {odiTM aniTM : Option Addr} {sliTM : Array (Option Value)}
    (yTM : PySem.W.findIn K (.ref cTM) "__init__" = some (some (.ref iTM))) (liTM : K.lookup iTM = some ⟨ociTM, odiTM, .func (PySem.W.fnOf "__init__" "TooMany.__init__" (defArgs sTM) (defBody sTM) (defScope sTM) .none kViTM dciTM pmiTM aniTM cdiTM ctiTM), sliTM⟩) (xiTM : PySem.W.codeIn K cdiTM "TooMany.__init__" = true) (kiTM : PySem.W.keepIn K (.ref iTM) = true)
    {ociNK kViNK dciNK pmiNK cdiNK ctiNK : Value} {odiNK aniNK : Option Addr} {sliNK : Array (Option Value)}
    (yNK : PySem.W.findIn K (.ref cNK) "__init__" = some (some (.ref iNK))) (liNK : K.lookup iNK = some ⟨ociNK, odiNK, .func (PySem.W.fnOf "__init__" "NoKind.__init__" (defArgs sNK) (defBody sNK) (defScope sNK) .none kViNK dciNK pmiNK aniNK cdiNK ctiNK), sliNK⟩) (xiNK : PySem.W.codeIn K cdiNK "NoKind.__init__" = true) (kiNK : PySem.W.keepIn K (.ref iNK) = true)
    (eAg : errB K [cAg, cBC, cBE, cBK, cBT, cBR, cBW, cFu, cId, cNK, cNU, cRe, cTM] cKE cAg [true, false, false, false, false, false, false, false, false, false, false, false, false] = true)
    (eBC : errB K [cAg, cBC, cBE, cBK, cBT, cBR, cBW, cFu, cId, cNK, cNU, cRe, cTM] cKE cBC [false, true, false, false, false, false, false, false, false, false, false, false, false] = true)
    (eBE : errB K [cAg, cBC, cBE, cBK, cBT, cBR, cBW, cFu, cId, cNK, cNU, cRe, cTM] cKE cBE [false, false, true, false, false, false, false, false, false, false, false, false, false] = true)
    (eBK : errB K [cAg, cBC, cBE, cBK, cBT, cBR, cBW, cFu, cId, cNK, cNU, cRe, cTM] cKE cBK [false, false, false, true, false, false, false, false, false, false, false, false, false] = true)
    (eBT : errB K [cAg, cBC, cBE, cBK, cBT, cBR, cBW, cFu, cId, cNK, cNU, cRe, cTM] cKE cBT [false, false, false, false, true, false, false, false, false, false, false, false, false] = true)
    (eBR : errB K [cAg, cBC, cBE, cBK, cBT, cBR, cBW, cFu, cId, cNK, cNU, cRe, cTM] cKE cBR [false, false, false, false, false, true, false, false, false, false, false, false, false] = true)
    (eBW : errB K [cAg, cBC, cBE, cBK, cBT, cBR, cBW, cFu, cId, cNK, cNU, cRe, cTM] cKE cBW [false, false, false, false, false, false, true, false, false, false, false, false, false] = true)
    (eFu : errB K [cAg, cBC, cBE, cBK, cBT, cBR, cBW, cFu, cId, cNK, cNU, cRe, cTM] cKE cFu [false, false, false, false, false, false, false, true, false, false, false, false, false] = true)
    (eId : errB K [cAg, cBC, cBE, cBK, cBT, cBR, cBW, cFu, cId, cNK, cNU, cRe, cTM] cKE cId [false, false, false, false, false, false, false, false, true, false, false, false, false] = true)
    (eNK : noB K [cAg, cBC, cBE, cBK, cBT, cBR, cBW, cFu, cId, cNK, cNU, cRe, cTM] cKE cNK [false, false, false, false, false, false, false, false, false, true, false, false, false] = true)
    (eNU : errB K [cAg, cBC, cBE, cBK, cBT, cBR, cBW, cFu, cId, cNK, cNU, cRe, cTM] cKE cNU [false, false, false, false, false, false, false, false, false, false, true, false, false] = true)
    (eRe : errB K [cAg, cBC, cBE, cBK, cBT, cBR, cBW, cFu, cId, cNK, cNU, cRe, cTM] cKE cRe [false, false, false, false, false, false, false, false, false, false, false, true, false] = true)
    (eTM : errB K [cAg, cBC, cBE, cBK, cBT, cBR, cBW, cFu, cId, cNK, cNU, cRe, cTM] cKE cTM [false, false, false, false, false, false, false, false, false, false, false, false, true] = true)
    (mAg : mkxB K cAg iAg veT "ValueError.__new__" ["index", "lot"] = true)
    (mBE : mkxB K cBE iBE veT "ValueError.__new__" ["index"] = true)
    (mBK : mkxB K cBK iBK veT "ValueError.__new__" ["place"] = true)
    (mBT : mkxB K cBT iBT veT "ValueError.__new__" ["line", "code"] = true)
    (mBR : mkxB K cBR iBR veT "ValueError.__new__" ["place"] = true)
    (mRe : mkxB K cRe iRe veT "ValueError.__new__" ["index", "error"] = true)
    (mTM : mkxB K cTM iTM veT "ValueError.__new__" ["limit"] = true)
    (mNK : mkxB K cNK iNK leT "LookupError.__new__" ["kind"] = true)
    (qBC : PySem.W.excIn K cBC veT "ValueError.__new__" = true) (kcBC : PySem.W.keepIn K (.ref cBC) = true)
    (qBW : PySem.W.excIn K cBW veT "ValueError.__new__" = true) (kcBW : PySem.W.keepIn K (.ref cBW) = true)
    (qFu : PySem.W.excIn K cFu veT "ValueError.__new__" = true) (kcFu : PySem.W.keepIn K (.ref cFu) = true)
    (qId : PySem.W.excIn K cId veT "ValueError.__new__" = true) (kcId : PySem.W.keepIn K (.ref cId) = true)
    (qNU : PySem.W.excIn K cNU veT "ValueError.__new__" = true) (kcNU : PySem.W.keepIn K (.ref cNU) = true)
    (z_abs : PySem.W.nsIn K mainGlobals "abs" = some none)
    (z_len : PySem.W.nsIn K mainGlobals "len" = some none)
    (z_int : PySem.W.nsIn K mainGlobals "int" = some none)
    (z_isinstance : PySem.W.nsIn K mainGlobals "isinstance" = some none)
    (z_tuple : PySem.W.nsIn K mainGlobals "tuple" = some none)
    (z_list : PySem.W.nsIn K mainGlobals "list" = some none)
    (z_str : PySem.W.nsIn K mainGlobals "str" = some none)
    (z_bool : PySem.W.nsIn K mainGlobals "bool" = some none)
    (z_dict : PySem.W.nsIn K mainGlobals "dict" = some none)
    (z_zip : PySem.W.nsIn K mainGlobals "zip" = some none)
    (z_all : PySem.W.nsIn K mainGlobals "all" = some none)
    (z_repr : PySem.W.nsIn K mainGlobals "repr" = some none)
    (z_range : PySem.W.nsIn K mainGlobals "range" = some none)
    (z_LookupError : PySem.W.nsIn K mainGlobals "LookupError" = some none)
    (z_ValueError : PySem.W.nsIn K mainGlobals "ValueError" = some none)
    (z_KeyError : PySem.W.nsIn K mainGlobals "KeyError" = some none)
    (z_IndexError : PySem.W.nsIn K mainGlobals "IndexError" = some none)
    {tl0 : Tok} (u0 : PySem.W.nsIn K mainGlobals "MAX_ANSWER" = some (some (.int 9 tl0)))
    {tl1 : Tok} (u1 : PySem.W.nsIn K mainGlobals "MAX_EDITS" = some (some (.int 30 tl1)))
    {tl2 : Tok} (u2 : PySem.W.nsIn K mainGlobals "MAX_KINDS" = some (some (.int 6 tl2)))
    {tl3 : Tok} (u3 : PySem.W.nsIn K mainGlobals "MAX_NEEDS" = some (some (.int 3 tl3)))
    {tl4 : Tok} (u4 : PySem.W.nsIn K mainGlobals "MAX_NEW" = some (some (.int 4 tl4)))
    {tl5 : Tok} (u5 : PySem.W.nsIn K mainGlobals "MAX_ROWS" = some (some (.int 6 tl5)))
    {tl6 : Tok} (u6 : PySem.W.nsIn K mainGlobals "MAX_TESTS" = some (some (.int 12 tl6)))
    {tl7 : Tok} (u7 : PySem.W.nsIn K mainGlobals "MAX_WISHES" = some (some (.int 3 tl7)))
    : ∃ fd : FuncData, (∀ (s : Shared) (v : Value), BindsTo s fd ⟨[v], []⟩ [("_law_script", v)]) ∧ ∀ base : Heap, K.In base → base.Ns mainGlobals mg → FnG l.prog w K mg base 8 fa fd ["_law_script"] (spLaw K) := by
  have e := hfa.symm.trans (PySem.W.mg_of X G aL)
  cases e
  have FD := fun_mk (st := sDeck) lD xD kD
  have FN := fun_mk (st := sNext) lN xN kN
  have FS := fun_mk (st := sSame) lS xS kS
  have FO := fun_mk (st := sOdd) lO xO kO
  have FQ := fun_mk (st := sKinds) lQ xQ kQ
  have FE := fun_mk (st := sErr) lE xE kE
  have FL := fun_mk (st := sLaw) lL xL kL
  have JAg := fun_mk (st := sAg) liAg xiAg kiAg
  have JBE := fun_mk (st := sBE) liBE xiBE kiBE
  have JBK := fun_mk (st := sBK) liBK xiBK kiBK
  have JBT := fun_mk (st := sBT) liBT xiBT kiBT
  have JBR := fun_mk (st := sBR) liBR xiBR kiBR
  have JRe := fun_mk (st := sRe) liRe xiRe kiRe
  have JTM := fun_mk (st := sTM) liTM xiTM kiTM
  have JNK := fun_mk (st := sNK) liNK xiNK kiNK
  have bD := FD.binds (ps := ["_law_script"]) fun _ _ _ _ _ _ us hl => match us, hl with | [_], _ => rfl
  have bN := FN.binds (ps := ["_law_deck_here", "_law_many"]) fun _ _ _ _ _ _ us hl => match us, hl with | [_, _], _ => rfl
  have bS := FS.binds (ps := ["_law_found", "_law_due"]) fun _ _ _ _ _ _ us hl => match us, hl with | [_, _], _ => rfl
  have bO := FO.binds (ps := ["_law_deck_here"]) fun _ _ _ _ _ _ us hl => match us, hl with | [_], _ => rfl
  have bQ := FQ.binds (ps := ["_law_error"]) fun _ _ _ _ _ _ us hl => match us, hl with | [_], _ => rfl
  have bE := FE.binds (ps := ["_law_one", "_law_other"]) fun _ _ _ _ _ _ us hl => match us, hl with | [_, _], _ => rfl
  have biAg := JAg.binds (ps := ["self", "index", "lot"]) fun _ _ _ _ _ _ us hl => match us, hl with | [_, _, _], _ => rfl
  have biBE := JBE.binds (ps := ["self", "index"]) fun _ _ _ _ _ _ us hl => match us, hl with | [_, _], _ => rfl
  have biBK := JBK.binds (ps := ["self", "place"]) fun _ _ _ _ _ _ us hl => match us, hl with | [_, _], _ => rfl
  have biBT := JBT.binds (ps := ["self", "line", "code"]) fun _ _ _ _ _ _ us hl => match us, hl with | [_, _, _], _ => rfl
  have biBR := JBR.binds (ps := ["self", "place"]) fun _ _ _ _ _ _ us hl => match us, hl with | [_, _], _ => rfl
  have biRe := JRe.binds (ps := ["self", "index", "error"]) fun _ _ _ _ _ _ us hl => match us, hl with | [_, _, _], _ => rfl
  have biTM := JTM.binds (ps := ["self", "limit"]) fun _ _ _ _ _ _ us hl => match us, hl with | [_, _], _ => rfl
  have biNK := JNK.binds (ps := ["self", "kind"]) fun _ _ _ _ _ _ us hl => match us, hl with | [_, _], _ => rfl
  have B : Bl mg := ⟨(PySem.W.mg_none_of X G z_abs), (PySem.W.mg_none_of X G z_len), (PySem.W.mg_none_of X G z_int), (PySem.W.mg_none_of X G z_isinstance), (PySem.W.mg_none_of X G z_tuple), (PySem.W.mg_none_of X G z_list), (PySem.W.mg_none_of X G z_str), (PySem.W.mg_none_of X G z_bool), (PySem.W.mg_none_of X G z_dict), (PySem.W.mg_none_of X G z_zip), (PySem.W.mg_none_of X G z_all), (PySem.W.mg_none_of X G z_repr), (PySem.W.mg_none_of X G z_range)⟩
  have B2 : Bl2 mg := ⟨(PySem.W.mg_none_of X G z_LookupError), (PySem.W.mg_none_of X G z_ValueError), (PySem.W.mg_none_of X G z_KeyError), (PySem.W.mg_none_of X G z_IndexError)⟩
  have L : Lim mg := ⟨⟨tl0, PySem.W.mg_of X G u0⟩, ⟨tl1, PySem.W.mg_of X G u1⟩, ⟨tl2, PySem.W.mg_of X G u2⟩, ⟨tl3, PySem.W.mg_of X G u3⟩, ⟨tl4, PySem.W.mg_of X G u4⟩, ⟨tl5, PySem.W.mg_of X G u5⟩, ⟨tl6, PySem.W.mg_of X G u6⟩, ⟨tl7, PySem.W.mg_of X G u7⟩⟩
  obtain ⟨MAg, TAg, NAg⟩ := mkxB_ok mAg
  obtain ⟨MBE, TBE, NBE⟩ := mkxB_ok mBE
  obtain ⟨MBK, TBK, NBK⟩ := mkxB_ok mBK
  obtain ⟨MBT, TBT, NBT⟩ := mkxB_ok mBT
  obtain ⟨MBR, TBR, NBR⟩ := mkxB_ok mBR
  obtain ⟨MRe, TRe, NRe⟩ := mkxB_ok mRe
  obtain ⟨MTM, TTM, NTM⟩ := mkxB_ok mTM
  obtain ⟨MNK, TNK, NNK⟩ := mkxB_ok mNK
  have EEAg := errB_ok (nm := "Against") (by decide +kernel) (by decide +kernel) eAg
  have EEBC := errB_ok (nm := "BadChoice") (by decide +kernel) (by decide +kernel) eBC
  have EEBE := errB_ok (nm := "BadEdits") (by decide +kernel) (by decide +kernel) eBE
  have EEBK := errB_ok (nm := "BadKinds") (by decide +kernel) (by decide +kernel) eBK
  have EEBT := errB_ok (nm := "BadText") (by decide +kernel) (by decide +kernel) eBT
  have EEBR := errB_ok (nm := "BadTree") (by decide +kernel) (by decide +kernel) eBR
  have EEBW := errB_ok (nm := "BadWishes") (by decide +kernel) (by decide +kernel) eBW
  have EEFu := errB_ok (nm := "Full") (by decide +kernel) (by decide +kernel) eFu
  have EEId := errB_ok (nm := "Idle") (by decide +kernel) (by decide +kernel) eId
  have EENK := noB_ok (by decide +kernel) eNK
  have EENU := errB_ok (nm := "NothingToUndo") (by decide +kernel) (by decide +kernel) eNU
  have EERe := errB_ok (nm := "Rejected") (by decide +kernel) (by decide +kernel) eRe
  have EETM := errB_ok (nm := "TooMany") (by decide +kernel) (by decide +kernel) eTM
  refine ⟨PySem.W.fnOf "law" "law" (defArgs sLaw) (defBody sLaw) (defScope sLaw) .none kVL dcL pmL anL cdL ctL, fun s v => .of_eq rfl, fun base _ _ => ?_⟩
  have GE : FnOk l.prog w K mg base CX0 3 fE _ ["_law_one", "_law_other"] (spErr K [cAg, cBC, cBE, cBK, cBT, cBR, cBW, cFu, cId, cNK, cNU, cRe, cTM] cKE) := ok_err FE (PySem.W.mg_of X G nBC) qBC kcBC EEBC (PySem.W.mg_of X G nBW) qBW kcBW EEBW (PySem.W.mg_of X G nFu) qFu kcFu EEFu (PySem.W.mg_of X G nId) qId kcId EEId (PySem.W.mg_of X G nNU) qNU kcNU EENU (PySem.W.mg_of X G nAg) MAg biAg (ok_iAg (k := 0) JAg TAg (NAg.1 "index" (by simp)) (NAg.1 "lot" (by simp))) EEAg (NAg.2 "index" (by simp)) (NAg.2 "lot" (by simp)) (PySem.W.mg_of X G nBE) MBE biBE (ok_iBE (k := 0) JBE TBE (NBE.1 "index" (by simp))) EEBE (NBE.2 "index" (by simp)) (PySem.W.mg_of X G nBK) MBK biBK (ok_iBK (k := 0) JBK TBK (NBK.1 "place" (by simp))) EEBK (NBK.2 "place" (by simp)) (PySem.W.mg_of X G nBT) MBT biBT (ok_iBT (k := 0) JBT TBT (NBT.1 "line" (by simp)) (NBT.1 "code" (by simp))) EEBT (NBT.2 "line" (by simp)) (NBT.2 "code" (by simp)) (PySem.W.mg_of X G nBR) MBR biBR (ok_iBR (k := 0) JBR TBR (NBR.1 "place" (by simp))) EEBR (NBR.2 "place" (by simp)) (PySem.W.mg_of X G nRe) MRe biRe (ok_iRe (k := 0) JRe TRe (NRe.1 "index" (by simp)) (NRe.1 "error" (by simp))) EERe (NRe.2 "index" (by simp)) (NRe.2 "error" (by simp)) (PySem.W.mg_of X G nTM) MTM biTM (ok_iTM (k := 0) JTM TTM (NTM.1 "limit" (by simp))) EETM (NTM.2 "limit" (by simp))
  exact ok_law FL B B2 L (ok_deck (k := 0) FD B.abs B.len) (PySem.W.mg_of X G aD) kD bD (ok_odd (k := 0) FO B FN bN (PySem.W.mg_of X G aN)) (PySem.W.mg_of X G aO) kO bO (ok_same FS B bS (PySem.W.mg_of X G aS) 7) (PySem.W.mg_of X G aS) kS bS
    (ok_kinds (k := 0) FQ B (PySem.W.mg_of X G nAg) (PySem.W.mg_of X G nBC) (PySem.W.mg_of X G nBE) (PySem.W.mg_of X G nBK) (PySem.W.mg_of X G nBT) (PySem.W.mg_of X G nBR) (PySem.W.mg_of X G nBW) (PySem.W.mg_of X G nFu) (PySem.W.mg_of X G nId) (PySem.W.mg_of X G nNK) (PySem.W.mg_of X G nNU) (PySem.W.mg_of X G nRe) (PySem.W.mg_of X G nTM)) (PySem.W.mg_of X G aQ) kQ bQ GE (PySem.W.mg_of X G aE) kE bE (PySem.W.mg_of X G nKE) (PySem.W.mg_of X G nNK) MNK biNK (ok_iNK (k := 0) JNK TNK (NNK.1 "kind" (by simp))) EENK (NNK.2 "kind" (by simp))
end Kc

set_option Elab.async false
set_option linter.all false
open PySem PySem.W PyProof.Rows
set_option maxRecDepth 100000 in
set_option maxHeartbeats 0 in
theorem PySem.Challenge.cw_kindstocome_k01_errors_and_limits_holds : PySem.Challenge.rw_kindstocome_k01_errors_and_limits.Holds := by
  w_on; o_law; k_head; (case hw => w_witness2)
  k_fill
  refine Kg.walkG (l := PySem.Challenge.rw_kindstocome_k01_errors_and_limits) (n := 63) (k := 8) (x := "_law_script") (sp := Kc.spLaw) rfl (by decide) rfl ⟨rfl, by decide, by decide⟩ (fun w h Y => PySem.W.kIn_of Y) ?F (fun K H a ns hl _ _ hS => ⟨a, ns, rfl, hS, hl, fun _ => rfl⟩)
  case F =>
    intro w mg fa h KX G hmg
    refine' Kc.all_mk KX G hmg ?aD ?lD ?xD ?kD ?aN ?lN ?xN ?kN ?aS ?lS ?xS ?kS ?aO ?lO ?xO ?kO ?aQ ?lQ ?xQ ?kQ ?aE ?lE ?xE ?kE ?aL ?lL ?xL ?kL ?nAg ?nBC ?nBE ?nBK ?nBT ?nBR ?nBW ?nFu ?nId ?nNK ?nNU ?nRe ?nTM ?nKE ?yAg ?liAg ?xiAg ?kiAg ?yBE ?liBE ?xiBE ?kiBE ?yBK ?liBK ?xiBK ?kiBK ?yBT ?liBT ?xiBT ?kiBT ?yBR ?liBR ?xiBR ?kiBR ?yRe ?liRe ?xiRe ?kiRe ?yTM ?liTM ?xiTM ?kiTM ?yNK ?liNK ?xiNK ?kiNK ?eAg ?eBC ?eBE ?eBK ?eBT ?eBR ?eBW ?eFu ?eId ?eNK ?eNU ?eRe ?eTM ?mAg ?mBE ?mBK ?mBT ?mBR ?mRe ?mTM ?mNK ?qBC ?kcBC ?qBW ?kcBW ?qFu ?kcFu ?qId ?kcId ?qNU ?kcNU ?z_abs ?z_len ?z_int ?z_isinstance ?z_tuple ?z_list ?z_str ?z_bool ?z_dict ?z_zip ?z_all ?z_repr ?z_range ?z_LookupError ?z_ValueError ?z_KeyError ?z_IndexError ?u0 ?u1 ?u2 ?u3 ?u4 ?u5 ?u6 ?u7
    (case aD => k_is)
    (case lD => k_is)
    (case xD => k_is)
    (case kD => k_is)
    (case aN => k_is)
    (case lN => k_is)
    (case xN => k_is)
    (case kN => k_is)
    (case aS => k_is)
    (case lS => k_is)
    (case xS => k_is)
    (case kS => k_is)
    (case aO => k_is)
    (case lO => k_is)
    (case xO => k_is)
    (case kO => k_is)
    (case aQ => k_is)
    (case lQ => k_is)
    (case xQ => k_is)
    (case kQ => k_is)
    (case aE => k_is)
    (case lE => k_is)
    (case xE => k_is)
    (case kE => k_is)
    (case aL => k_is)
    (case lL => k_is)
    (case xL => k_is)
    (case kL => k_is)
    (case nAg => k_is)
    (case nBC => k_is)
    (case nBE => k_is)
    (case nBK => k_is)
    (case nBT => k_is)
    (case nBR => k_is)
    (case nBW => k_is)
    (case nFu => k_is)
    (case nId => k_is)
    (case nNK => k_is)
    (case nNU => k_is)
    (case nRe => k_is)
    (case nTM => k_is)
    (case nKE => k_is)
    (case yAg => k_is)
    (case liAg => k_is)
    (case xiAg => k_is)
    (case kiAg => k_is)
    (case yBE => k_is)
    (case liBE => k_is)
    (case xiBE => k_is)
    (case kiBE => k_is)
    (case yBK => k_is)
    (case liBK => k_is)
    (case xiBK => k_is)
    (case kiBK => k_is)
    (case yBT => k_is)
    (case liBT => k_is)
    (case xiBT => k_is)
    (case kiBT => k_is)
    (case yBR => k_is)
    (case liBR => k_is)
    (case xiBR => k_is)
    (case kiBR => k_is)
    (case yRe => k_is)
    (case liRe => k_is)
    (case xiRe => k_is)
    (case kiRe => k_is)
    (case yTM => k_is)
    (case liTM => k_is)
    (case xiTM => k_is)
    (case kiTM => k_is)
    (case yNK => k_is)
    (case liNK => k_is)
    (case xiNK => k_is)
    (case kiNK => k_is)
    (case eAg => kernel_rfl)
    (case eBC => kernel_rfl)
    (case eBE => kernel_rfl)
    (case eBK => kernel_rfl)
    (case eBT => kernel_rfl)
    (case eBR => kernel_rfl)
    (case eBW => kernel_rfl)
    (case eFu => kernel_rfl)
    (case eId => kernel_rfl)
    (case eNK => kernel_rfl)
    (case eNU => kernel_rfl)
    (case eRe => kernel_rfl)
    (case eTM => kernel_rfl)
    (case mAg => kernel_rfl)
    (case mBE => kernel_rfl)
    (case mBK => kernel_rfl)
    (case mBT => kernel_rfl)
    (case mBR => kernel_rfl)
    (case mRe => kernel_rfl)
    (case mTM => kernel_rfl)
    (case mNK => kernel_rfl)
    (case qBC => k_exc)
    (case kcBC => k_is)
    (case qBW => k_exc)
    (case kcBW => k_is)
    (case qFu => k_exc)
    (case kcFu => k_is)
    (case qId => k_exc)
    (case kcId => k_is)
    (case qNU => k_exc)
    (case kcNU => k_is)
    (case z_abs => k_is)
    (case z_len => k_is)
    (case z_int => k_is)
    (case z_isinstance => k_is)
    (case z_tuple => k_is)
    (case z_list => k_is)
    (case z_str => k_is)
    (case z_bool => k_is)
    (case z_dict => k_is)
    (case z_zip => k_is)
    (case z_all => k_is)
    (case z_repr => k_is)
    (case z_range => k_is)
    (case z_LookupError => k_is)
    (case z_ValueError => k_is)
    (case z_KeyError => k_is)
    (case z_IndexError => k_is)
    (case u0 => k_is)
    (case u1 => k_is)
    (case u2 => k_is)
    (case u3 => k_is)
    (case u4 => k_is)
    (case u5 => k_is)
    (case u6 => k_is)
    (case u7 => k_is)
#print axioms PySem.Challenge.cw_kindstocome_k01_errors_and_limits_holds

