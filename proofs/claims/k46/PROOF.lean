import PyProof.Rows.All
import Wide.All
import OpenK.AllK
import Wide.FinOn
import PySem.Challenge.RW_kindstocome_k46_wrong_texts_of_kinds
import HandS.ForMost
import HandS.EndBits
import PyProof.ReprRoads
import HandS.IsInst
import HandS.Zip
import HandS.Walk
import HandS.Strs
import HandS.SetFor
import HandS.Style
import HandS.Conv
import KE.GoesEnum
import PyProof.AutoSeq1
import HandS.SortRule
import HandS.TupSets
import HandS.SlotsOwn
import HandS.NamedTupGet
import PyProof.InstNe
import PyProof.CallStr
import HandS.Property
import HandS.TupAny
import HandS.FStr
import HandS.Text
import HandS.Lambda
import HandS.SortKw
import KE.KSortKey
import HandS.Codes
import HandS.Deep
import KE.GoesEnumKw
import HandS.ForExc
import HandS.ExcInit
import HandS.ExcIs
import HandS.ExcField
import HandS.ExcValue
import KE.KExcInit
import KE.KExcIs
import HandS.ExcOwn
import HandS.WordsExc
import HandS.ExcCtx
import HandS.SuiteRaise
import HandS.Star
import HandS.CallSlots
import HandS.Comp
import HandS.More
import HandS.TupMul
import HandS.SortInts
import PyProof.NeKinds
import HandS.TryMany
import PyProof.StrOps2
set_option Elab.async false
set_option linter.all false
set_option maxRecDepth 100000
set_option maxHeartbeats 4000000
/-! Defs that are promised where no repr is under way (so that repr of lists, tuples, dicts tells the whole text). -/
namespace Kg
open PySem PySem.Spec PyProof.Rows L2
/-- a def keeps sp wherever no repr runs around it -/
structure FnG (P : Program) (w : World) (K : PySem.W.Frag) (mg : Str → Option Value) (base : Heap) (k : Nat) (f : Addr) (fd : FuncData) (ps : List Str) (sp : Sp) : Prop where
  len : ∀ vs H Q E, sp vs H Q E → vs.length = ps.length
  go : ∀ (A : Around) (out : List Env) (s : Shared) (H : Hp) (ar : Args) (us : List Value) (vs : List V) (Q : VK), A.guards = some [] → Room k A → Env0 P w K mg base A out s H →
    BindsTo s fd ar (ps.zip us) → Vals vs us → sp vs H Q E0 → codeAny (model P w) A (.call (.ref f) ar) (CR CX0 out P w H s Q E0) s
section
variable {P : Program} {w : World} {K : PySem.W.Frag} {mg : Str → Option Value} {base : Heap} {k : Nat} {f : Addr} {fd : FuncData} {ps : List Str} {sp : Sp}
theorem FnG.mono {j : Nat} (F : FnG P w K mg base j f fd ps sp) (h : j ≤ k) : FnG P w K mg base k f fd ps sp :=
  ⟨F.len, fun A out s H ar us vs Q g r => F.go A out s H ar us vs Q g (r.mono h)⟩
/-- the rule for such a def: as Fun.ok, the body may lean on the guards -/
theorem okG {x qual : Str} {st : Stmt} {N : List Str} (F : Fun K x qual st f fd) (S : FnScope N ps (defScope st)) (len : ∀ vs H Q E, sp vs H Q E → vs.length = ps.length)
    (bd : ∀ (cdv : Value) (A : Around) (out : List Env) (s : Shared) (H : Hp) (vs : List V) (Q : VK), (A.deeper (envOfC qual (defScope st) s.heap.objs.size f cdv)).guards = some [] → Room k (A.deeper (envOfC qual (defScope st) s.heap.objs.size f cdv)) → sp vs H Q E0 →
      ∃ t, PSs (cxOf CX0 P w K mg base N qual (defScope st) f cdv A out s H E0).nox (defBody st) t ∧ t { nx := fun _ H' => Q .non H', rt := Q } (start N vs) H) : FnG P w K mg base (k + 1) f fd ps sp := by
  obtain ⟨oc, od, kV, dc, pm, an, cdv, ct, osl, rfl, lk, hcd⟩ := F.ex
  refine ⟨len, fun A out s H ar us vs Q hgu hro e0 hbi rv hs => ?_⟩
  have old : ∀ b o, base.get? b = some o → s.heap.get? b = some o := fun b o e => (e0.bs b o e).1
  have kin := e0.mod.kin.keeps old
  obtain ⟨t, ht, hq⟩ := bd cdv A out s H vs Q hgu (hro.deeper _) hs
  have par : ∀ y ∈ ps.zip us, (defScope st).names.lookup y.1 = some .local ∨ ((defScope st).names.lookup y.1 = some .cell ∧ ((cellsFrom (s.heap.objs.size + 1) (defScope st).names []).lookup y.1).isSome = true) := by
    intro y hy
    cases S.par y.1 (List.of_mem_zip (a := y.1) (b := y.2) hy).1 with
    | inl z => exact .inl z
    | inr z => exact .inr ⟨z, PySem.W.cellsFrom_some _ _ _ (.inl z)⟩
  refine codeAny_call_function hro.depth (kin f _ lk) rfl S.co S.gen rfl (PySem.W.codeRec_of kin hcd) (hbi _ _ _ _ (wpAny_newFunctionEnv_cells S.kind par fun env he s1 x => ?_))
  subst he
  refine ⟨(e0.mod.nolimit.keeps old).keeps x.toInCall.keep, codeAny_func (wpAny_mono (ht.nox.run [] s1 (start N vs) H _ (inv_start S hro.hd e0 (len _ _ _ _ hs) rv x) hq) (fun fl s' z => ?_) fun _ _ z => z)⟩
  match fl, z with
  | .ret _, ⟨v, _, H', J, r, q⟩ => exact ⟨v, H', J.os, J.bare, J.base, J.hok, r, q⟩
  | .next, ⟨_, H', J, q⟩ => exact ⟨V.non, H', J.os, J.bare, J.base, J.hok, rfl, q⟩
  | .brk, ⟨_, _, _, q⟩ => exact q.elim
  | .cont, ⟨_, _, _, q⟩ => exact q.elim
end
section
variable {X : Cx} {k : Nat} {f : Addr} {fd : FuncData} {ps : List Str} {sp : Sp} {x : Str} {p pos : Pos} {e : Expr} {es : List Expr} {t : TA}
/-- f(e, ..) of such a def, where no repr runs -/
theorem pe_callG (F : FnG X.prog X.w X.K X.mg X.base k f fd ps sp) (hgu : X.A.guards = some []) (hr : Room k X.A) (hg : Gl X x) (hm : X.mg x = some (.ref f)) (hk : PySem.W.keepIn X.K (.ref f) = true) (hb : Binds X.K fd ps [])
    (ha : PA X (e :: es) t) (hdb : (x == ("__debug__" : Str)) = false := by decide) (he : starEach (e :: es) X.env = (false, eval e X.env) :: starEach es X.env := by rfl) (hpl : (backTo pos (starEach es X.env)).any (·.1) = false := by rfl) :
    PE X (.Call (.Name x p) (e :: es) [] pos) (tCall sp [] E0 t) := by
  refine ⟨fun pins s σ H Q I h => wpAny_Call_Name_kw (ld_glob I hg hm (PySem.W.callWith_K (h₀ := X.base) I.ok.mod.kin hk (thn (ha.run pos pins s σ H _ I h) fun us s1 ⟨vs, H1, I1, r, q⟩ => ⟨I1.kIn, ?_⟩) he hpl) hdb)⟩
  have q' : sp vs H1 Q E0 := by rw [← List.append_nil vs]; exact q
  have hl : us.length = ps.length := (Vals.length r).symm.trans (F.len _ _ _ _ q')
  have bi := hb s1 us I1.kIn (by rw [List.append_nil]; exact hl)
  rw [List.append_nil] at bi
  refine wpAny_call (codeAny_mono (F.go X.A X.stack s1 H1 ⟨us, []⟩ us vs Q hgu hr I1.env0 bi r q') fun rs s' z => ?_)
  match rs, z with
  | .ok (.ret _), z => exact I1.after z
  | .ok .next, z => exact z.elim
  | .ok .brk, z => exact z.elim
  | .ok .cont, z => exact z.elim
  | .error _, z => exact z.elim
end
/-! ### the law's end -/
theorem endG {P : Program} {w : World} {K : PySem.W.Frag} {mg mb : Str → Option Value} {k : Nat} {fa a : Addr} {fd : FuncData} {x : Str} {sp : Sp} {s₁ : Shared} {vs : List Value} {ns : List Int}
    (KX : K.In s₁.heap) (hns : s₁.heap.Ns mainGlobals mg) (hb : s₁.heap.Ns builtinsNs mb) (hbb : ∀ x : Str, x ≠ "__name__" → mb x = bootBuiltins x) (hlim : s₁.heap.NoLimit) (hg : s₁.gens = #[])
    (ha : s₁.heap.get? a = some { cls := .type "list", data := .seq vs.toArray }) (hi : IntsAre vs ns) (hl : ns.length ≤ sizeLine) (hr : Room k callerA)
    (F : ∀ base : Heap, K.In base → base.Ns mainGlobals mg → FnG P w K mg base k fa fd [x] sp) (hbind : ∀ (s : Shared) (u : Value), BindsTo s fd ⟨[u], []⟩ [(x, u)])
    (hsp : ∀ H : Hp, Only H → SqL K H a (ns.map V.int) → sp [.ref a] H (fun v _ => v = .bl true) E0) :
    codeAny (model P w) callerA (.call (.ref fa) ⟨[.ref a], []⟩) (fun r s' => r = .ok (.ret (.bool true)) ∧ OldK s₁.heap s'.heap ∧ s'.os = s₁.os ∧ AllBare s'.gens) s₁ := by
  have main : ∀ H : Hp, Only H → SqL K H a (ns.map V.int) → HOk P w H s₁.heap → (∀ b o, H b = some o → b = a ∧ K.lookup a = none) →
      codeAny (model P w) callerA (.call (.ref fa) ⟨[.ref a], []⟩) (fun r s' => r = .ok (.ret (.bool true)) ∧ OldK s₁.heap s'.heap ∧ s'.os = s₁.os ∧ AllBare s'.gens) s₁ := by
    intro H only sq ok one
    have notD : ∀ {b : Addr} {o : Obj} {es : Array DictEntry} {n : Nat}, s₁.heap.get? b = some o → o.data = .dict es n → H b = none := by
      intro b o es n e d
      cases q : H b with
      | none => rfl
      | some u =>
        rw [(one b u q).1, ha] at e
        rw [← Option.some.inj e] at d
        exact nomatch d
    have hid : ∀ {b : Addr} {m : Str → Option Value}, s₁.heap.Ns b m → (hidT s₁.heap H).Ns b m := by
      intro b m z
      obtain ⟨o, es, n, e, d, r⟩ := z
      exact ⟨o, es, n, hidT_get e (notD e d), d, r⟩
    have kb : K.In (hidT s₁.heap H) := by
      intro b o e
      refine hidT_get (KX b o e) ?_
      cases q : H b with
      | none => rfl
      | some u =>
        obtain ⟨z1, z2⟩ := one b u q
        rw [z1, z2] at e
        exact nomatch e
    obtain ⟨mc, l1, l2⟩ := hlim
    have env : Env0 P w K mg (hidT s₁.heap H) callerA [] s₁ H :=
      { frames := rfl, mod := ⟨kb, hid hns, ⟨mb, hid hb, hbb⟩, ⟨mc, hid l1, l2⟩⟩, bs := fun b o e => of_hidT e, bsz := Nat.le_of_eq (hidT_size _ _), funs := trivial, frf := fun b z => (nomatch (show b ∈ ([] : List Addr) from z)), hok := ok, bare := .of_eq hg }
    refine codeAny_mono ((F _ kb (hid hns)).go callerA [] s₁ H ⟨[.ref a], []⟩ [.ref a] [.ref a] _ rfl hr env (hbind s₁ (.ref a)) (.cons rfl .nil) (hsp H only sq)) fun r s' z => ?_
    match r, z with
    | .error _, z => exact z.elim
    | .ok .next, z => exact z.elim
    | .ok .brk, z => exact z.elim
    | .ok .cont, z => exact z.elim
    | .ok (.ret u), ⟨v, H', zo, zb, un, ok', rv, ev⟩ =>
      have ev' : v = .bl true := ev
      rw [ev'] at rv
      have eu : u = Value.bool true := rv
      refine ⟨by rw [eu], OldK.of_keep fun b o e => ?_, zo, zb⟩
      cases q : H b with
      | none => exact un.keep b o e q (fun y => nomatch (show b ∈ ([] : List Addr) from y)) (fun y => nomatch y)
      | some u2 =>
        cases only b with
        | inl y => rw [q] at y; exact nomatch y
        | inr y =>
          obtain ⟨ob, xs, y⟩ := y
          have y1 : ObjOk P w H s₁.heap b (.frz ob (.lst xs)) := ok b _ y
          have y2 : ObjOk P w H' s'.heap b (.frz ob (.lst xs)) := ok' b _ (un.frzs b ob _ y)
          have y3 : some o = some ob := e.symm.trans y1.1
          rw [Option.some.inj y3]
          exact y2.1
  have rv := vals_ints hi
  cases hk : K.lookup a with
  | none =>
    let H0 : Hp := fun b => if b = a then some (.frz { cls := .type "list", data := .seq vs.toArray } (.lst (ns.map V.int))) else none
    have at0 : ∀ b o, H0 b = some o → b = a ∧ o = .frz { cls := .type "list", data := .seq vs.toArray } (.lst (ns.map V.int)) := by
      intro b o e
      by_cases z : b = a
      · exact ⟨z, (Option.some.inj ((if_pos z).symm.trans e)).symm⟩
      · exact nomatch ((if_neg z).symm.trans e)
    refine main H0 (fun b => ?_) (.inl (.inr ⟨_, if_pos rfl⟩)) (fun b o e => ?_) (fun b o e => ⟨(at0 b o e).1, hk⟩)
    · cases q : H0 b with
      | none => exact .inl rfl
      | some o => exact .inr ⟨_, _, by rw [(at0 b o q).2]⟩
    · obtain ⟨z1, z2⟩ := at0 b o e
      rw [z1, z2]
      exact ⟨ha, by rw [List.length_map]; exact hl, vs, _, rv, ha⟩
  | some o =>
    have eo : ({ cls := .type "list", data := .seq vs.toArray } : Obj) = o := Option.some.inj (ha.symm.trans (KX a o hk))
    rw [← eo] at hk
    refine main (fun _ => none) (fun _ => .inl rfl) (.inr ⟨_, vs.toArray, _, hk, rfl, rfl, rfl, ?_, by simpa using rv⟩) (fun b o e => nomatch (show (none : Option HO) = some o from e)) (fun b o e => nomatch (show (none : Option HO) = some o from e))
    rw [List.size_toArray, hi.length]; exact hl
/-- what k_head leaves, from the law's promise; the script's bits are told -/
theorem walkG {l : PySem.W.OpenLaw} {n k : Nat} {q : Program} {loose : List Str} {XP : (Str → Option Value) → Heap → Prop} {YP : World → Heap → Prop} {d : DefRec} {K : Params → PySem.W.Frag} {sp : PySem.W.Frag → Sp} {x : Str}
    (hn : l.most = some n) (hn2 : n ≤ sizeLine) (hdf : d.params.defaults = []) (hr : Room k callerA) (hY : ∀ (w : World) (h : Heap), YP w h → (K w.params).In h)
    (F : ∀ (w : World) (mg : Str → Option Value) (fa : Addr) (h : Heap), (K w.params).In h → h.Ns mainGlobals mg → mg d.name = some (.ref fa) →
      ∃ fd : FuncData, (∀ (s : Shared) (u : Value), BindsTo s fd ⟨[u], []⟩ [(x, u)]) ∧ ∀ base : Heap, (K w.params).In base → base.Ns mainGlobals mg → FnG l.prog w (K w.params) mg base k fa fd [x] (sp (K w.params)))
    (hsp : ∀ (K : PySem.W.Frag) (H : Hp) (a : Addr) (ns : List Int), ns.length ≤ n → (∀ z ∈ ns, Builtin.Int.intBits z ≤ 1048576) → Only H → SqL K H a (ns.map V.int) → sp K [.ref a] H (fun v _ => v = .bl true) E0) :
    PySem.W.WalkO q loose XP YP l.row.toRowW d [] (fun f vs => PySem.call f vs) := by
  refine Att.attach_callB hn hdf fun w s₀ s₁ mg mb fa o pm cd dc a vs ns G Y ho hd hcd hmg hobj hints hlen hbits hgen => ?_
  obtain ⟨fd, hbi, hF⟩ := F w mg fa _ (hY w _ Y) G.T.g hmg
  exact endG (hY w _ Y) G.T.g G.T.b G.T.builtins G.T.nolimit hgen hobj hints (Nat.le_trans hlen hn2) hr hF hbi fun H hO hS => hsp (K w.params) H a ns hlen hbits hO hS
end Kg

set_option Elab.async false
set_option linter.all false
set_option maxRecDepth 100000
set_option maxHeartbeats 4000000
/-! Data: what the laws draw and compare. -/
namespace Kd
open PySem PySem.Spec PyProof.Rows L2 Kg
/-- all that was tracked stands as it was, but for the places of ds -/
def Keep (ds : Addr → Prop) (H H' : Hp) : Prop := ∀ c o, H c = some o → ¬ ds c → H' c = some o
theorem Keep.refl (ds : Addr → Prop) (H : Hp) : Keep ds H H := fun _ _ h _ => h
theorem Keep.trans {ds : Addr → Prop} {H H1 H2 : Hp} (a : Keep ds H H1) (b : Keep ds H1 H2) : Keep ds H H2 := fun c o h n => b c o (a c o h n) n
theorem Keep.of_same {ds : Addr → Prop} {H H' : Hp} (a : Same H H') : Keep ds H H' := fun c o h _ => a c o h
theorem same_new {H : Hp} {p : Addr} {o : HO} (h : H p = none) : Same H (upd H p o) := fun b x e => by
  rw [upd_ne (ne_of_none e h)]; exact e
theorem Keep.put {ds : Addr → Prop} {H : Hp} {p : Addr} {o : HO} (h : ds p) : Keep ds H (upd H p o) := fun c x e n => by
  rw [upd_ne (fun z => n (by rw [z]; exact h))]; exact e
/-! a value and the datum that it is; none of its objects stands at a place of av -/
mutual
inductive Da (av : Addr → Prop) (H : Hp) : V → PyData → Prop
  | non : Da av H .non .none
  | bl (b : Bool) : Da av H (.bl b) (.bool b)
  | int (i : Int) : Da av H (.int i) (.int i)
  | str (x : Str) : Da av H (.str x) (.str x)
  | lst {a : Addr} {xs : List V} {ds : List PyData} : ¬ av a → H a = some (.lst xs) → xs.length ≤ 1000 → DaAll av H xs ds → Da av H (.ref a) (.list ds)
  | tup {a : Addr} {xs : List V} {ds : List PyData} : ¬ av a → H a = some (.tup xs) → xs.length ≤ 1000 → DaAll av H xs ds → Da av H (.ref a) (.tuple ds)
  | dc0 {a : Addr} : ¬ av a → H a = some (.dK []) → Da av H (.ref a) (.dict [])
  | dc1 {a : Addr} : ¬ av a → H a = some (.dK [(Sum.inl 0, V.int 1)]) → Da av H (.ref a) (.dict [(.int 0, .int 1)])
inductive DaAll (av : Addr → Prop) (H : Hp) : List V → List PyData → Prop
  | nil : DaAll av H [] []
  | cons {v : V} {vs : List V} {d : PyData} {ds : List PyData} : Da av H v d → DaAll av H vs ds → DaAll av H (v :: vs) (d :: ds)
end
mutual
theorem Da.keep {av : Addr → Prop} {H H' : Hp} (k : Keep av H H') : ∀ {v : V} {d : PyData}, Da av H v d → Da av H' v d
  | _, _, .non => .non
  | _, _, .bl b => .bl b
  | _, _, .int i => .int i
  | _, _, .str x => .str x
  | _, _, .lst n h z r => .lst n (k _ _ h n) z (DaAll.keep k r)
  | _, _, .tup n h z r => .tup n (k _ _ h n) z (DaAll.keep k r)
  | _, _, .dc0 n h => .dc0 n (k _ _ h n)
  | _, _, .dc1 n h => .dc1 n (k _ _ h n)
theorem DaAll.keep {av : Addr → Prop} {H H' : Hp} (k : Keep av H H') : ∀ {vs : List V} {ds : List PyData}, DaAll av H vs ds → DaAll av H' vs ds
  | _, _, .nil => .nil
  | _, _, .cons h r => .cons (Da.keep k h) (DaAll.keep k r)
end
theorem Da.same {av : Addr → Prop} {H H' : Hp} {v : V} {d : PyData} (h : Da av H v d) (k : Same H H') : Da av H' v d := h.keep (.of_same k)
mutual
theorem Da.sub {av bv : Addr → Prop} {H : Hp} (k : ∀ a, bv a → av a) : ∀ {v : V} {d : PyData}, Da av H v d → Da bv H v d
  | _, _, .non => .non
  | _, _, .bl b => .bl b
  | _, _, .int i => .int i
  | _, _, .str x => .str x
  | _, _, .lst n h l r => .lst (fun z => n (k _ z)) h l (DaAll.sub k r)
  | _, _, .tup n h l r => .tup (fun z => n (k _ z)) h l (DaAll.sub k r)
  | _, _, .dc0 n h => .dc0 (fun z => n (k _ z)) h
  | _, _, .dc1 n h => .dc1 (fun z => n (k _ z)) h
theorem DaAll.sub {av bv : Addr → Prop} {H : Hp} (k : ∀ a, bv a → av a) : ∀ {vs : List V} {ds : List PyData}, DaAll av H vs ds → DaAll bv H vs ds
  | _, _, .nil => .nil
  | _, _, .cons h r => .cons (Da.sub k h) (DaAll.sub k r)
end
theorem DaAll.length {av : Addr → Prop} {H : Hp} : ∀ {vs : List V} {ds : List PyData}, DaAll av H vs ds → vs.length = ds.length
  | _, _, .nil => rfl
  | _, _, .cons _ r => congrArg (· + 1) (DaAll.length r)
theorem DaAll.get {av : Addr → Prop} {H : Hp} : ∀ {vs : List V} {ds : List PyData} {i : Nat} {v : V}, DaAll av H vs ds → vs[i]? = some v → ∃ d, ds[i]? = some d ∧ Da av H v d
  | _, _, _, _, .nil, e => by simp at e
  | _, _, 0, _, .cons h _, e => ⟨_, rfl, by simp at e; rw [← e]; exact h⟩
  | _, _, i + 1, v, .cons _ r, e => by
    obtain ⟨d, h1, h2⟩ := DaAll.get (i := i) (v := v) r (by simpa using e)
    exact ⟨d, by simpa using h1, h2⟩
/-- no place at all -/
def nil : Addr → Prop := fun _ => False
theorem Da.nil {av : Addr → Prop} {H : Hp} {v : V} {d : PyData} (h : Da av H v d) : Da Kd.nil H v d := h.sub fun _ z => z.elim
/-! ### kinds of data -/
def tyN : PyData → String
  | .none => "NoneType"
  | .bool _ => "bool"
  | .int _ => "int"
  | .str _ => "str"
  | .list _ => "list"
  | .tuple _ => "tuple"
  | .dict _ => "dict"
def isTup : PyData → Bool | .tuple _ => true | _ => false
def isLst : PyData → Bool | .list _ => true | _ => false
def isSeq : PyData → Bool | .tuple _ => true | .list _ => true | _ => false
def isStr : PyData → Bool | .str _ => true | _ => false
def isBool : PyData → Bool | .bool _ => true | _ => false
def isInt : PyData → Bool | .int _ => true | .bool _ => true | _ => false
def isDct : PyData → Bool | .dict _ => true | _ => false
theorem kt_tup (d : PyData) : kitB (tyN d) "tuple" = some (isTup d) := by cases d <;> kernel_rfl
theorem kt_lst (d : PyData) : kitB (tyN d) "list" = some (isLst d) := by cases d <;> kernel_rfl
theorem kt_str (d : PyData) : kitB (tyN d) "str" = some (isStr d) := by cases d <;> kernel_rfl
theorem kt_bool (d : PyData) : kitB (tyN d) "bool" = some (isBool d) := by cases d <;> kernel_rfl
theorem kt_int (d : PyData) : kitB (tyN d) "int" = some (isInt d) := by cases d <;> kernel_rfl
theorem kt_dct (d : PyData) : kitB (tyN d) "dict" = some (isDct d) := by cases d <;> kernel_rfl
theorem kt_seq {K : PySem.W.Frag} (d : PyData) : PySem.W.kitAny K (.type (tyN d)) [.type "tuple", .type "list"] = some (isSeq d) := by
  cases d with
  | tuple xs => exact kitAny_cons (b := true) (kit_ty (kt_tup (.tuple xs))) (fun z => nomatch z) (fun _ => rfl)
  | list xs => exact kitAny_cons (b := false) (kit_ty (kt_tup (.list xs))) (fun _ => kitAny_cons (b := true) (kit_ty (kt_lst (.list xs))) (fun z => nomatch z) (fun _ => rfl)) (fun z => nomatch z)
  | none => exact kitAny_cons (b := false) (kit_ty (kt_tup .none)) (fun _ => kitAny_cons (b := false) (kit_ty (kt_lst .none)) (fun _ => kitAny_nil) (fun z => nomatch z)) (fun z => nomatch z)
  | bool x => exact kitAny_cons (b := false) (kit_ty (kt_tup (.bool x))) (fun _ => kitAny_cons (b := false) (kit_ty (kt_lst (.bool x))) (fun _ => kitAny_nil) (fun z => nomatch z)) (fun z => nomatch z)
  | int x => exact kitAny_cons (b := false) (kit_ty (kt_tup (.int x))) (fun _ => kitAny_cons (b := false) (kit_ty (kt_lst (.int x))) (fun _ => kitAny_nil) (fun z => nomatch z)) (fun z => nomatch z)
  | str x => exact kitAny_cons (b := false) (kit_ty (kt_tup (.str x))) (fun _ => kitAny_cons (b := false) (kit_ty (kt_lst (.str x))) (fun _ => kitAny_nil) (fun z => nomatch z)) (fun z => nomatch z)
  | dict x => exact kitAny_cons (b := false) (kit_ty (kt_tup (.dict x))) (fun _ => kitAny_cons (b := false) (kit_ty (kt_lst (.dict x))) (fun _ => kitAny_nil) (fun z => nomatch z)) (fun z => nomatch z)
theorem Da.ty {K : PySem.W.Frag} {av : Addr → Prop} {H : Hp} {v : V} {d : PyData} (h : Da av H v d) : TyX K H v (.type (tyN d)) := by
  cases h with
  | non => exact .base .non
  | bl b => exact .base (.bl b)
  | int i => exact .base (.int i)
  | str x => exact .base (.str x)
  | lst _ e _ _ => exact .base (.lst e)
  | tup _ e _ _ => exact .base (.tup e)
  | dc0 _ e => exact .base (.dK e)
  | dc1 _ e => exact .base (.dK e)
theorem Da.non_iff {av : Addr → Prop} {H : Hp} {v : V} {d : PyData} (h : Da av H v d) : decide (v = .non) = (match d with | .none => true | _ => false) := by
  cases h with
  | non => rfl
  | _ => exact decide_eq_false (fun z => nomatch z)
/-! ### repr of the dicts that the laws draw -/
theorem shows0 : (PyData.dict []).shown.length ≤ sizeLine := by decide +kernel
theorem shows1 : (PyData.dict [(.int 0, .int 1)]).shown.length ≤ sizeLine := by decide +kernel
section
variable {X : Cx}
def rRepr : List V → Hp → VK → Prop := fun xs H Q => ∃ (av : Addr → Prop) (v : V) (kvs : List (PyData × PyData)), xs = [v] ∧ Da av H v (.dict kvs) ∧ Q (.str (PyData.dict kvs).shown) H
theorem call_reprD (hg : X.A.guards = some []) (hu : X.A.units + 64 < cLine) : CallR X (.builtin "repr") rRepr := by
  intro pins s σ H xs us Q I r h
  obtain ⟨av, v, kvs, rfl, hd, q⟩ := h
  obtain ⟨u, rfl, rx⟩ := vals1 r
  cases hd with
  | @dc0 a _ e =>
    cases rx
    obtain ⟨_, hsys, vs, kv, o, es, ep, ho, hex, hdt, _, prs, _⟩ := (show ObjOk X.prog X.w H s.heap a (.dK []) from I.hok a _ e)
    cases kv
    have rd : Reads s.heap (.ref a) (.dict []) [a] := by
      have el : es.toList = [] := by cases hh : es.toList with
        | nil => rfl
        | cons _ _ => rw [hh] at prs; cases prs
      exact Reads.dict (as := []) (bs := []) ho hex.1 hdt (by rw [el]; exact .nil) (by rw [el]; exact .nil)
    exact repr_of_reads' rd (by decide +kernel) (fun _ z => by rw [List.mem_singleton.mp z] at hsys; simp at hsys) hg (by show X.A.units + (PyData.depthKv [] + 1 + 1) < cLine; show X.A.units + (0 + 1 + 1) < cLine; omega) (fun _ _ z => z) (fun h' u tk k => ⟨.str (PyData.dict []).shown, H, I.kept (t' := tk) k, ⟨u, rfl⟩, q⟩) shows0
  | @dc1 a _ e =>
    cases rx
    obtain ⟨_, hsys, vs, kv, o, es, ep, ho, hex, hdt, _, prs, _⟩ := (show ObjOk X.prog X.w H s.heap a (.dK [(Sum.inl 0, V.int 1)]) from I.hok a _ e)
    cases kv with
    | @cons p qv l1 l2 hh tt =>
      cases tt
      obtain ⟨e1, t1, e2⟩ := hh
      obtain ⟨qk, qw⟩ := qv
      have e1' : qk = Sum.inl 0 := e1.symm
      have e2' : qw = Value.int 1 t1 := e2
      subst e1' e2'
      have rd : Reads s.heap (.ref a) (.dict [(.int 0, .int 1)]) [a] := by
        cases hl : es.toList with
        | nil => rw [hl] at prs; cases prs
        | cons en er =>
          rw [hl] at prs
          cases prs with
          | cons z1 z2 z3 =>
            cases z3
            obtain ⟨tk, z1'⟩ := Value.isInt_shape (k := 0) (v := en.key) z1
            refine Reads.dict (as := []) (bs := []) ho hex.1 hdt ?_ ?_
            · rw [hl]
              show ReadsAll s.heap [en.key] [.int 0] ([] ++ [])
              rw [z1']
              exact .cons (.int 0 tk) .nil
            · rw [hl]
              show ReadsAll s.heap [en.val] [.int 1] ([] ++ [])
              rw [z2]
              exact .cons (.int 1 t1) .nil
      exact repr_of_reads' rd (by decide +kernel) (fun _ z => by rw [List.mem_singleton.mp z] at hsys; simp at hsys) hg (by show X.A.units + (PyData.depthKv [(.int 0, .int 1)] + 1 + 1) < cLine; show X.A.units + (0 + 1 + 1) < cLine; omega) (fun _ _ z => z) (fun h' u tk k => ⟨.str (PyData.dict [(.int 0, .int 1)]).shown, H, I.kept (t' := tk) k, ⟨u, rfl⟩, q⟩) shows1
end
/-! ### zip of two tuples, as a walk -/
theorem walk_zipT {K : PySem.W.Frag} {a b : Addr} {xs ys : List V} {n : Nat} (hn : n = min xs.length ys.length) : Walk (RZ.ItzT K a b) n (fun H => SqT K H a xs ∧ SqT K H b ys) (YPair (fun i => xs[i]?) (fun i => ys[i]?)) := by
  subst hn
  refine ⟨fun i _ hi z => ⟨xs, ys, xs[i]'(by omega), ys[i]'(by omega), z.1, z.2, by simp [show i < xs.length by omega], by simp [show i < ys.length by omega]⟩, fun _ z => ⟨xs, ys, z.1, z.2, by omega⟩, fun i H v H' _ z y => ?_⟩
  obtain ⟨T, x1, x2, g1, g2, g3, g4, g5⟩ := y
  exact ⟨T, x1, x2, g1, g2, g3, g4 xs z.1, g5 ys z.2⟩
/-! ### sameness, as the laws ask it -/
mutual
def sameD : PyData → PyData → Bool
  | .tuple ds, .tuple es => sameA ds es
  | .list ds, .list es => sameA ds es
  | .none, .none => true
  | .str x, .str y => decide (x = y)
  | .bool a, .bool b => decide (a = b)
  | .int i, .int j => decide (i = j)
  | .dict a, .dict b => decide ((PyData.dict a).shown = (PyData.dict b).shown)
  | _, _ => false
def sameA : List PyData → List PyData → Bool
  | [], [] => true
  | d :: ds, e :: es => sameD d e && sameA ds es
  | _, _ => false
end
mutual
theorem sameD_refl : ∀ d : PyData, sameD d d = true
  | .none => by simp [sameD]
  | .bool b => by simp [sameD]
  | .int i => by simp [sameD]
  | .str x => by simp [sameD]
  | .list ds => by simp [sameD, sameA_refl ds]
  | .tuple ds => by simp [sameD, sameA_refl ds]
  | .dict a => by simp [sameD]
theorem sameA_refl : ∀ ds : List PyData, sameA ds ds = true
  | [] => by simp [sameA]
  | d :: ds => by simp [sameA, sameD_refl d, sameA_refl ds]
end
/-- the answers at each place -/
def sameL : List PyData → List PyData → List Bool
  | d :: ds, e :: es => sameD d e :: sameL ds es
  | _, _ => []
theorem sameL_len : ∀ (ds es : List PyData), (sameL ds es).length = min ds.length es.length
  | [], _ => by simp [sameL]
  | _ :: _, [] => by simp [sameL]
  | _ :: ds, _ :: es => by simp [sameL, sameL_len ds es]
theorem sameL_get : ∀ (ds es : List PyData) (i : Nat) (d e : PyData), ds[i]? = some d → es[i]? = some e → (sameL ds es)[i]? = some (sameD d e)
  | [], _, _, _, _, h, _ => by simp at h
  | _ :: _, [], _, _, _, _, h => by simp at h
  | a :: ds, b :: es, 0, d, e, h, h2 => by simp at h h2; simp [sameL, h, h2]
  | a :: ds, b :: es, i + 1, d, e, h, h2 => by simp at h h2; simp [sameL, sameL_get ds es i d e h h2]
theorem sameA_eq : ∀ (ds es : List PyData), sameA ds es = (decide (ds.length = es.length) && (sameL ds es).all id)
  | [], [] => by simp [sameA, sameL]
  | [], _ :: _ => by simp [sameA]
  | _ :: _, [] => by simp [sameA]
  | d :: ds, e :: es => by
    simp only [sameA, sameL, sameA_eq ds es, List.length_cons, List.all_cons, id]
    by_cases h : ds.length = es.length
    · simp [h]
    · simp [h]
end Kd

set_option Elab.async false
set_option linter.all false
set_option maxRecDepth 100000
set_option maxHeartbeats 4000000
namespace Kc
open PySem PySem.Spec PyProof.Rows L2 Kg Kd
/-! ### the text -/
def topS (i : Nat) : Stmt := PySem.Challenge.pw_kindstocome_k46_wrong_texts_of_kinds.main.body.getD i (.Pass ⟨0, 0, 0, 0⟩)
abbrev sDeck : Stmt := topS 29
abbrev sNext : Stmt := topS 30
abbrev nDeck : List Str := ["_law_script", "_law_cells", "_law_number_here"]
theorem scDeck : FnScope nDeck ["_law_script"] (defScope sDeck) := ⟨rfl, rfl, rfl, by decide +kernel, rfl, by decide +kernel, by decide +kernel⟩
theorem scNext : FnScope ["_law_deck_here", "_law_many", "_law_rest", "_law_turn", "_law_number_here", "_law_mixed"] ["_law_deck_here", "_law_many"] (defScope sNext) := ⟨rfl, rfl, rfl, by decide +kernel, rfl, by decide +kernel, by decide +kernel⟩
/-! ### heaps -/
/-- what a draw changes -/
def dk (d la : Addr) : Addr → Prop := fun a => a = d ∨ a = la
/-- a deck at d: its two lists at la and lb, its turn; b more draws may be made -/
structure DeckAt (H : Hp) (d la lb : Addr) (b : Nat) : Prop where
  ex : ∃ (xs ys : List Int) (t : Int), H d = some (.lst [.ref la, .ref lb, .int t]) ∧ H la = some (.lst (xs.map V.int)) ∧ H lb = some (.lst (ys.map V.int)) ∧ ys ≠ [] ∧ ys.length ≤ 100 ∧ 0 ≤ t ∧ t + b ≤ 1152921504606846976
  n1 : d ≠ la
  n2 : d ≠ lb
  n3 : la ≠ lb
theorem DeckAt.less {H : Hp} {d la lb : Addr} {b c : Nat} (D : DeckAt H d la lb b) (h : c ≤ b) : DeckAt H d la lb c := by
  obtain ⟨⟨xs, ys, t, h1, h2, h3, h4, h5, h6, h7⟩, n1, n2, n3⟩ := D
  exact ⟨⟨xs, ys, t, h1, h2, h3, h4, h5, h6, by omega⟩, n1, n2, n3⟩
theorem DeckAt.same {H H' : Hp} {d la lb : Addr} {b : Nat} (D : DeckAt H d la lb b) (h : Same H H') : DeckAt H' d la lb b := by
  obtain ⟨⟨xs, ys, t, h1, h2, h3, h4⟩, n1, n2, n3⟩ := D
  exact ⟨⟨xs, ys, t, h _ _ h1, h _ _ h2, h _ _ h3, h4⟩, n1, n2, n3⟩
theorem DeckAt.tracked {H : Hp} {d la lb : Addr} {b : Nat} (D : DeckAt H d la lb b) : H d ≠ none ∧ H la ≠ none ∧ H lb ≠ none := by
  obtain ⟨⟨xs, ys, t, h1, h2, h3, h4⟩, n1, n2, n3⟩ := D
  exact ⟨by rw [h1]; simp, by rw [h2]; simp, by rw [h3]; simp⟩
/-! ### promises -/
def spDeck (K : PySem.W.Frag) : Sp := fun vs H Q _ => ∃ (a : Addr) (ns : List Int), vs = [.ref a] ∧ SqL K H a (ns.map V.int) ∧ ns.length ≤ 63 ∧
  ∀ H' d la lb, Same H H' → H d = none → H la = none → H lb = none → DeckAt H' d la lb 1152921504606846976 → Q (.ref d) H'
def spNext : Sp := fun vs H Q _ => ∃ (d la lb : Addr) (m : Int) (b : Nat), vs = [.ref d, .int m] ∧ 0 < m ∧ m < 1073741824 ∧ DeckAt H d la lb (b + 1) ∧
  ∀ (v : Int) H', 0 ≤ v → v < m → DeckAt H' d la lb b → Keep (dk d la) H H' → Q (.int v) H'
theorem tk_map {α β : Type} {f : α → β} {l : List α} {i : Nat} {x : α} (h : l[i]? = some x) : (l.take (i + 1)).map f = (l.take i).map f ++ [f x] := by
  rw [List.take_add_one, h, List.map_append]; rfl
theorem map_get {α β : Type} {f : α → β} {l : List α} {i : Nat} {y : β} (h : (l.map f)[i]? = some y) : ∃ x, l[i]? = some x ∧ y = f x := by
  rw [List.getElem?_map] at h
  cases e : l[i]? with
  | none => rw [e] at h; cases h
  | some x => rw [e] at h; exact ⟨x, rfl, (Option.some.inj h).symm⟩
theorem ab_of (n : Int) : 0 ≤ (if n < 0 then -n else n) := by split <;> omega
section
variable {P : Program} {w : World} {K : PySem.W.Frag} {mg : Str → Option Value} {base : Heap}
theorem ok_deck {f : Addr} {fd : FuncData} {k : Nat} (F : Fun K "_law_deck" "_law_deck" sDeck f fd) (ma : mg "abs" = none) (ml : mg "len" = none) : FnOk P w K mg base CX0 (k + 1) f fd ["_law_script"] (spDeck K) := by
  refine F.ok scDeck (fun vs H Q E h => ?_) (fun cdv A outer s H vs Q E hr h => ?_)
  · obtain ⟨a, ns, rfl, _⟩ := h
    rfl
  · obtain ⟨a, ns, rfl, hS, hlen, q⟩ := h
    refine ⟨_, pss_cons (ps_setLc (i := 1) (own := [("_law_number_here", 2)]) (g := gName 2) rfl scDeck.nd rfl rfl (sw_true rfl rfl rfl (by decide +kernel)) (pi_list (pv 0))
        (blkOk_by (N := nDeck) (sc := defScope sDeck) (by decide +kernel)) (fun _ _ _ _ _ => pg_name (i := 2) scDeck.nd rfl (Or.inl rfl)) (fun _ _ _ _ _ => pts_nil)
        (fun _ _ _ _ _ => pe_callB call_abs (by rfl) ma boot_abs (pa_cons (pv 2) pa_nil)))
      (pss_one (ps_ret (pe_lst (pa_cons (pe_lc (own := [("_law_number_here", 2)]) (g := gName 2) rfl scDeck.nd (pi_list (pv 1)) (blkOk_by (N := nDeck) (sc := defScope sDeck) (by decide +kernel))
          (fun _ _ _ _ _ => pg_name (i := 2) scDeck.nd rfl (Or.inl rfl)) (fun _ _ _ _ _ => pts_one (pt_cmpR op_ge (pv 2) (pe_op op_pow pe_int pe_int) (nomark _))) (fun _ _ _ _ _ => pv 2))
        (pa_cons (pe_op op_cat (pv 1) (pe_lst (pa_cons (pe_op op_add (pe_callB call_len_seq (by rfl) ml PySem.boot_len (pa_cons (pv 1) pa_nil)) pe_int) pa_nil)))
        (pa_cons pe_int pa_nil)))))), ?_⟩
    -- the cells
    refine ⟨.ref a, rfl, a, rfl, ⟨_, hS⟩, fun D nD => ?_⟩
    refine lc_list (K := K) (a := a) (xs := ns.map V.int) (fun i H1 => Same H H1 ∧ H1 D = some (.lst ((ns.take i).map fun n => V.int (if n < 0 then -n else n)))) ⟨same_new nD, upd_same⟩ (fun i H1 _ p => p.1.seq hS) (fun i x H1 hx p => ?_) (fun H1 p => ?_)
    · obtain ⟨n, hn, rfl⟩ := map_get hx
      refine ⟨rfl, _, rfl, n, rfl, _, p.2, ?_, ?_, ?_⟩
      · rw [List.length_map, List.length_take]
        exact Nat.lt_of_le_of_lt (Nat.min_le_right _ _) (small1000 (by omega))
      · exact fun b o e => by rw [upd_ne (ne_of_none e nD)]; exact p.1 b o e
      · rw [upd_same, tk_map hn]
    · obtain ⟨s1, hD⟩ := p
      rw [List.length_map, List.take_length] at hD
      have hD' : H1 D = some (.lst ((ns.map fun n => if n < 0 then -n else n).map V.int)) := by rw [hD, List.map_map]; rfl
      generalize hc : (ns.map fun n : Int => if n < 0 then -n else n) = cs at hD'
      have hcl : cs.length = ns.length := by rw [← hc, List.length_map]
      -- the great ones
      refine ⟨.ref D, rfl, D, rfl, ⟨_, SqL.of hD'⟩, fun G nG => ?_⟩
      refine lc_list (K := K) (a := D) (xs := cs.map V.int) (fun i H2 => ∃ gs : List Int, gs.length ≤ i ∧ Same H1 H2 ∧ H2 G = some (.lst (gs.map V.int))) ⟨[], Nat.le_refl _, same_new nG, upd_same⟩ (fun i H2 _ p => by obtain ⟨_, _, p, _⟩ := p; exact p.seq (SqL.of hD')) (fun i x H2 hx p => ?_) (fun H2 p => ?_)
      · obtain ⟨gs, hg, s2, hG⟩ := p
        obtain ⟨n, hn, rfl⟩ := map_get hx
        have hi : i < cs.length := (List.getElem?_eq_some_iff.mp hn).1
        refine ⟨rfl, _, rfl, 10, 18, rfl, rfl, ⟨by decide, by decide, by decide⟩, n, _, rfl, rfl, _, rfl, ite2 (fun _ => ?_) (fun _ => ?_)⟩
        · refine ⟨_, rfl, _, hG, ?_, gs ++ [n], ?_, ?_, ?_⟩
          · rw [List.length_map]
            exact small1000 (by omega)
          · rw [List.length_append, List.length_singleton]; omega
          · exact fun b o e => by rw [upd_ne (ne_of_none e nG)]; exact s2 b o e
          · rw [upd_same, List.map_append]; rfl
        · exact ⟨gs, by omega, s2, hG⟩
      · obtain ⟨gs, hg, s2, hG⟩ := p
        rw [List.length_map] at hg
        have hD2 := s2 _ _ hD'
        -- the cells and one more
        refine ⟨.ref D, rfl, .ref D, rfl, D, _, rfl, .inl (SqL.of hD2), _, 5, rfl, rfl, ?_, fun l nl => ?_⟩
        · exact (show 1 ≤ sizeLine by decide)
        · have s3 : Same H2 (upd H2 l (.lst [.int (((cs.map V.int).length : Nat) + 5)])) := same_new nl
          refine ⟨D, l, _, _, rfl, rfl, s3 _ _ hD2, upd_same, ?_, fun c nc => ?_⟩
          · rw [List.length_map, List.length_singleton]
            exact Nat.le_of_lt (small1000 (by omega))
          · have s4 := same_new (o := HO.lst (cs.map V.int ++ [V.int (((cs.map V.int).length : Nat) + 5)])) nc
            refine ⟨(show 3 ≤ sizeLine by decide), fun d nd => ?_⟩
            have s5 := same_new (o := HO.lst [V.ref G, V.ref c, V.int 0]) nd
            have hG4 := s4 _ _ (s3 _ _ hG)
            refine q _ d G c (s1.trans (s2.trans (s3.trans (s4.trans s5)))) ?_ ?_ ?_ ⟨⟨gs, cs ++ [(cs.length : Int) + 5], 0, upd_same, ?_, ?_, ?_, ?_, ?_, ?_⟩, ?_, ?_, ?_⟩
            · exact (s1.trans (s2.trans (s3.trans s4))).free nd
            · exact s1.free nG
            · exact (s1.trans (s2.trans s3)).free nc
            · exact s5 _ _ hG4
            · rw [s5 _ _ upd_same, List.map_append, List.length_map]; rfl
            · intro z
              have := congrArg List.length z
              rw [List.length_append] at this
              simp at this
            · rw [List.length_append, List.length_singleton]; omega
            · exact Int.le_refl 0
            · show (0 : Int) + ((1152921504606846976 : Nat) : Int) ≤ 1152921504606846976
              decide
            · exact fun z => by rw [z, hG4] at nd; cases nd
            · exact fun z => by rw [z, upd_same] at nd; cases nd
            · exact fun z => by rw [← z, s3 _ _ hG] at nc; cases nc
end
end Kc

set_option Elab.async false
set_option linter.all false
set_option maxRecDepth 100000
set_option maxHeartbeats 4000000
namespace Kc
open PySem PySem.Spec PyProof.Rows L2 Kg Kd
section
variable {P : Program} {w : World} {K : PySem.W.Frag} {mg : Str → Option Value} {base : Heap}
theorem dp_ints {K : PySem.W.Frag} {H : Hp} : ∀ xs : List Int, DpAll K H (xs.map V.int) (xs.map PyData.int)
  | [] => .nil
  | x :: r => .cons (.int x) (dp_ints r)
theorem lay_ints : ∀ xs : List Int, PyData.canLayAll0 (xs.map PyData.int) = true
  | [] => rfl
  | x :: r => by
    show (PyData.canLay0 (.int x) && PyData.canLayAll0 (r.map PyData.int)) = true
    rw [lay_ints r]; rfl
theorem dep_ints : ∀ xs : List Int, PyData.depthAll (xs.map PyData.int) = 0
  | [] => rfl
  | x :: r => by
    show max (PyData.depth (.int x)) (PyData.depthAll (r.map PyData.int)) = 0
    rw [dep_ints r]; rfl
theorem shaped_ints (xs : List Int) : SeqAt.shaped (.list (xs.map PyData.int)) = true := by
  unfold SeqAt.shaped
  rw [Bool.and_eq_true]
  refine ⟨?_, decide_eq_true ?_⟩
  · show PyData.canLayAll0 (xs.map PyData.int) = true
    exact lay_ints xs
  · show PyData.depthAll (xs.map PyData.int) + 1 ≤ 64
    rw [dep_ints]; decide
theorem eqv_nil (xs : List Int) : PyData.eqv (.list (xs.map PyData.int)) (.list []) = xs.isEmpty := by
  cases xs with
  | nil => simp [PyData.eqv, PyData.eqvAll]
  | cons x r => simp [PyData.eqv, PyData.eqvAll]
theorem ok_next {f : Addr} {fd : FuncData} {k : Nat} (F : Fun K "_law_next" "_law_next" sNext f fd) (mi : mg "int" = none) (ml : mg "len" = none) : FnOk P w K mg base CX0 (k + 1) f fd ["_law_deck_here", "_law_many"] spNext := by
  refine F.ok scNext (fun vs H Q E h => ?_) (fun cdv A outer s H vs Q E hr h => ?_)
  · obtain ⟨d, la, lb, m, b, rfl, _⟩ := h
    rfl
  · obtain ⟨d, la, lb, m, b, rfl, hm0, hm1, D, q⟩ := h
    refine ⟨_, pss_cons (ps_while PassesOwn.never (pt_cmpR (op_neD hr.units) (pe_ix ix_list (pv 0) pe_int (fun _ _ => rfl)) (pe_lst pa_nil) (nomark _))
        (pss_cons (ps_set (i := 2) scNext.nd rfl (.inl rfl) (pe_ix ix_list (pe_ix ix_list (pv 0) pe_int (fun _ _ => rfl)) pe_int (fun _ _ => rfl)))
        (pss_cons (ps_if (pt_cmpR op_gt (pv 2) pe_int (nomark _))
            (pss_cons (ps_asg (pe_op op_fdivN (pv 2) (pv 1)) (pg_sub (pe_ix ix_list (pv 0) pe_int (fun _ _ => rfl)) pe_int set_list))
            (pss_one (ps_ret (pe_op op_mod (pe_callTy call_int1 (by rfl) mi PyProof.Rows.boot_int (pa_cons (pv 2) pa_nil)) (pv 1))))) pss_nil)
        (pss_one (ps_expr (pe_bm PySem.F.plainAttrs_list PySem.F.slot_list_pop PySem.F.type_list_pop mt_popAt (pe_ix ix_list (pv 0) pe_int (fun _ _ => rfl)) (pa_cons pe_int pa_nil)))))))
      (pss_cons (ps_asg (pe_op op_add (pe_ix ix_list (pv 0) pe_int (fun _ _ => rfl)) pe_int) (pg_sub (pv 0) pe_int set_list))
      (pss_cons (ps_set (i := 3) scNext.nd rfl (.inl rfl) (pe_ix ix_list (pv 0) pe_int (fun _ _ => rfl)))
      (pss_cons (ps_set (i := 4) scNext.nd rfl (.inl rfl) (pe_op op_mod (pe_callTy call_int1 (by rfl) mi PyProof.Rows.boot_int
          (pa_cons (pe_ix ix_list (pe_ix ix_list (pv 0) pe_int (fun _ _ => rfl)) (pe_op op_mod (pe_callTy call_int1 (by rfl) mi PyProof.Rows.boot_int (pa_cons (pv 3) pa_nil))
            (pe_callB call_len_seq (by rfl) ml PySem.boot_len (pa_cons (pe_ix ix_list (pv 0) pe_int (fun _ _ => rfl)) pa_nil))) (fun _ _ => rfl)) pa_nil)) pe_int))
      (pss_cons (ps_set (i := 5) scNext.nd rfl (.inl rfl) (pe_op op_mod (pe_callTy call_int1 (by rfl) mi PyProof.Rows.boot_int
          (pa_cons (pe_op op_add (pe_op op_add (pe_op op_mul (pv 4) (pe_op op_add pe_int (pe_op op_mul pe_int (pv 3)))) (pe_op op_mul (pe_op op_mul pe_int (pv 3)) (pv 3))) pe_int) pa_nil)) pe_int))
      (pss_one (ps_ret (pe_op op_mod (pe_op op_fdiv (pe_op op_mod (pe_callTy call_int1 (by rfl) mi PyProof.Rows.boot_int (pa_cons (pe_op op_mul (pv 5) (pv 5)) pa_nil)) pe_int) pe_int) (pv 1)))))))), ?_⟩
    obtain ⟨⟨xs, ys, t, h1, h2, h3, hy, hyl, ht0, ht⟩, n1, n2, n3⟩ := D
    refine ⟨fun n σ H1 => ∃ (xs : List Int) (y2 : Option V), n = xs.length ∧ σ = [some (.ref d), some (.int m), y2, none, none, none] ∧ H1 d = some (.lst [.ref la, .ref lb, .int t]) ∧ H1 la = some (.lst (xs.map V.int)) ∧ H1 lb = some (.lst (ys.map V.int)) ∧ Keep (dk d la) H H1,
      ⟨_, xs, none, rfl, rfl, h1, h2, h3, Keep.refl _ _⟩, ?_⟩
    rintro n σ H1 ⟨xs, y2, rfl, rfl, g1, g2, g3, kp⟩
    -- the test
    refine ⟨_, rfl, d, _, 0, .ref la, rfl, rfl, SqL.of g1, atI_nat (j := 0) rfl, (show 0 ≤ sizeLine by decide), fun e ne => ?_⟩
    have s1 : Same H1 (upd H1 e (.lst [])) := same_new ne
    have g1' := s1 _ _ g1
    have g2' := s1 _ _ g2
    have g3' := s1 _ _ g3
    refine ⟨.list (xs.map PyData.int), .list [], .lst (SqL.of g2') (dp_ints xs), .lst (SqL.of upd_same) .nil, shaped_ints xs, by decide +kernel, _, rfl, ?_⟩
    rw [eqv_nil]
    have kp' : Keep (dk d la) H (upd H1 e (.lst [])) := kp.trans (Keep.of_same s1)
    generalize (upd H1 e (.lst [])) = H2 at g1' g2' g3' kp'
    cases xs with
    | cons x r =>
      refine iteT ⟨fun σ' H' => ∃ (y2 : Option V), σ' = [some (.ref d), some (.int m), y2, none, none, none] ∧ H' d = some (.lst [.ref la, .ref lb, .int t]) ∧ H' la = some (.lst (r.map V.int)) ∧ H' lb = some (.lst (ys.map V.int)) ∧ Keep (dk d la) H H',
        fun σ' H' ⟨y2, e1, e2, e3, e4, e5⟩ => ⟨r.length, Nat.lt_succ_self _, r, y2, rfl, e1, e2, e3, e4, e5⟩, ?_⟩
      -- rest
      refine ⟨_, rfl, d, _, 0, .ref la, rfl, rfl, SqL.of g1', atI_nat (j := 0) rfl, la, _, 0, .int x, rfl, rfl, SqL.of g2', atI_nat (j := 0) rfl, ?_⟩
      refine ⟨_, rfl, x, 0, rfl, rfl, _, rfl, ite2 (fun hx => ?_) (fun hx => ?_)⟩
      · have hx' : 0 < x := of_decide_eq_true hx
        refine ⟨_, rfl, _, rfl, x, m, rfl, rfl, ⟨by omega, by omega⟩, _, rfl, d, _, 0, .ref la, rfl, rfl, SqL.of g1', atI_nat (j := 0) rfl, la, _, 0, 0, rfl, rfl, g2', by simp [ixN], ?_⟩
        refine ⟨_, rfl, .inl ⟨x, rfl, _, rfl, x, m, rfl, rfl, hm0, ?_⟩⟩
        refine q _ _ (Int.emod_nonneg _ (by omega)) (Int.emod_lt_of_pos _ hm0) ⟨⟨x.fdiv m :: r, ys, t, ?_, ?_, ?_, hy, hyl, ht0, by omega⟩, n1, n2, n3⟩ (kp'.trans (Keep.put (by simp [dk])))
        · rw [upd_ne n1]; exact g1'
        · rw [upd_same]; rfl
        · rw [upd_ne n3.symm]; exact g3'
      · refine ⟨_, rfl, d, _, 0, .ref la, rfl, rfl, SqL.of g1', atI_nat (j := 0) rfl, .inl ⟨rfl, _, SqL.of g2'⟩, la, _, 0, 0, .int x, rfl, rfl, g2', by decide, by decide, by simp [seqIndex?], rfl, ?_⟩
        refine ⟨_, rfl, ?_, ?_, ?_, kp'.trans (Keep.put (by simp [dk]))⟩
        · rw [upd_ne n1]; exact g1'
        · rw [upd_same]; rfl
        · rw [upd_ne n3.symm]; exact g3'
    | nil =>
      refine iteF ?_
      -- the turn goes on
      refine ⟨_, rfl, d, _, 2, .int t, rfl, rfl, SqL.of g1', atI_nat (j := 2) rfl, t, 1, rfl, rfl, _, rfl, d, _, 2, 2, rfl, rfl, g1', by simp [ixN], ?_⟩
      have kp3 : Keep (dk d la) H (upd H2 d (.lst [.ref la, .ref lb, .int (t + 1)])) := kp'.trans (Keep.put (by simp [dk]))
      have e1 : (upd H2 d (.lst [.ref la, .ref lb, .int (t + 1)])) d = some (.lst [.ref la, .ref lb, .int (t + 1)]) := upd_same
      have e2 : (upd H2 d (.lst [.ref la, .ref lb, .int (t + 1)])) la = some (.lst (([] : List Int).map V.int)) := by rw [upd_ne n1.symm]; exact g2'
      have e3 : (upd H2 d (.lst [.ref la, .ref lb, .int (t + 1)])) lb = some (.lst (ys.map V.int)) := by rw [upd_ne n2.symm]; exact g3'
      generalize hH : (upd H2 d (.lst [.ref la, .ref lb, .int (t + 1)])) = H3 at kp3 e1 e2 e3
      have hH' : (upd H2 d (.lst (([.ref la, .ref lb, .int t] : List V).set 2 (.int (t + 1))))) = H3 := hH
      rw [hH']
      refine ⟨_, rfl, d, _, 2, .int (t + 1), rfl, rfl, SqL.of e1, atI_nat (j := 2) rfl, ?_⟩
      have hpos : 0 < ys.length := by
        cases ys with
        | nil => exact absurd rfl hy
        | cons y r => simp
      have hj : ((t + 1) % (ys.length : Int)).toNat < ys.length := by
        have z1 := Int.emod_lt_of_pos (t + 1) (show (0 : Int) < ys.length by omega)
        have z2 := Int.emod_nonneg (t + 1) (show (ys.length : Int) ≠ 0 by omega)
        omega
      refine ⟨_, rfl, d, _, 1, .ref lb, rfl, rfl, SqL.of e1, atI_nat (j := 1) rfl, _, rfl, .inl ⟨t + 1, rfl, _, rfl, d, _, 1, .ref lb, rfl, rfl, SqL.of e1, atI_nat (j := 1) rfl, lb, _, rfl, .inl (SqL.of e3), t + 1, _, rfl, rfl, ?_,
        lb, _, _, .int ys[((t + 1) % (ys.length : Int)).toNat], rfl, rfl, SqL.of e3, ?_, .inl ⟨_, rfl, _, 2147483629, rfl, rfl, (by show (0 : Int) < 2147483629; decide), ?_⟩⟩⟩
      · rw [List.length_map]; omega
      · have z2 := Int.emod_nonneg (t + 1) (show (ys.length : Int) ≠ 0 by omega)
        rw [List.length_map]
        exact at_of (j := ((t + 1) % (ys.length : Int)).toNat) (by omega) (by rw [List.getElem?_map, List.getElem?_eq_getElem hj]; rfl)
      generalize ys[((t + 1) % (ys.length : Int)).toNat] = y0
      have b1 := Int.emod_nonneg y0 (show (2147483629 : Int) ≠ 0 by decide)
      have b2 := Int.emod_lt_of_pos y0 (show (0 : Int) < 2147483629 by decide)
      obtain ⟨nu, enu, b1, b2⟩ : ∃ nu : Int, (fun i j : Int => V.int (i % j)) y0 2147483629 = V.int nu ∧ 0 ≤ nu ∧ nu < 2147483629 := ⟨_, rfl, b1, b2⟩
      rw [enu]
      refine ⟨_, rfl, _, rfl, 68111, t + 1, rfl, rfl, .inl ⟨by decide, by decide⟩, 50331, _, rfl, rfl, nu, _, rfl, rfl, .inl ⟨by omega, by omega⟩, _, rfl, 41287, t + 1, rfl, rfl, .inl ⟨by decide, by decide⟩, _, rfl, _, t + 1, rfl, rfl, .inr ⟨by omega, by omega⟩, _, _, rfl, rfl, _, 19, rfl, rfl, .inl ⟨_, rfl, _, 2147483587, rfl, rfl, (by show (0 : Int) < 2147483587; decide), ?_⟩⟩
      generalize nu * (50331 + 68111 * (t + 1)) + 41287 * (t + 1) * (t + 1) + 19 = big
      have c1 := Int.emod_nonneg big (show (2147483587 : Int) ≠ 0 by decide)
      have c2 := Int.emod_lt_of_pos big (show (0 : Int) < 2147483587 by decide)
      obtain ⟨mi', emi, c1, c2⟩ : ∃ nu : Int, (fun i j : Int => V.int (i % j)) big 2147483587 = V.int nu ∧ 0 ≤ nu ∧ nu < 2147483587 := ⟨_, rfl, c1, c2⟩
      rw [emi]
      refine ⟨_, rfl, _, rfl, mi', mi', rfl, rfl, .inl ⟨by omega, by omega⟩, .inl ⟨_, rfl, _, 2147483579, rfl, rfl, (by show (0 : Int) < 2147483579; decide), _, 16, rfl, rfl, ⟨by decide, by decide⟩, _, rfl, _, m, rfl, rfl, hm0, ?_⟩⟩
      exact q _ _ (Int.emod_nonneg _ (by omega)) (Int.emod_lt_of_pos _ hm0) ⟨⟨[], ys, t + 1, e1, e2, e3, hy, hyl, by omega, by omega⟩, n1, n2, n3⟩ kp3
end
end Kc

set_option Elab.async false
set_option linter.all false
set_option maxRecDepth 100000
set_option maxHeartbeats 4000000
namespace Kc
open PySem PySem.Spec PyProof.Rows L2 Kg Kd
abbrev sSame : Stmt := topS 31
abbrev nSame : List Str := ["_law_found", "_law_due_here", "_law_one", "_law_other"]
theorem scSame : FnScope nSame ["_law_found", "_law_due_here"] (defScope sSame) := ⟨rfl, rfl, rfl, by decide +kernel, rfl, by decide +kernel, by decide +kernel⟩
/-- the built-in names that the laws use are the built-ins -/
structure Bl (mg : Str → Option Value) : Prop where
  abs : mg "abs" = none
  len : mg "len" = none
  int : mg "int" = none
  isi : mg "isinstance" = none
  tuple : mg "tuple" = none
  list : mg "list" = none
  str : mg "str" = none
  bool : mg "bool" = none
  dict : mg "dict" = none
  zip : mg "zip" = none
  all : mg "all" = none
  repr : mg "repr" = none
  range : mg "range" = none
def spSame (n : Nat) : Sp := fun vs H Q _ => ∃ (x y : V) (d e : PyData), vs = [x, y] ∧ Da Kd.nil H x d ∧ Da Kd.nil H y e ∧ e.depth < n ∧ ∀ H', Same H H' → Q (.bl (sameD d e)) H'
theorem dep_mem : ∀ {es : List PyData} {i : Nat} {e : PyData}, es[i]? = some e → e.depth ≤ PyData.depthAll es
  | [], i, e, h => by simp at h
  | a :: es, 0, e, h => by
    simp at h
    rw [← h]
    show a.depth ≤ max a.depth (PyData.depthAll es)
    omega
  | a :: es, i + 1, e, h => by
    have z := dep_mem (es := es) (i := i) (e := e) (by simpa using h)
    show e.depth ≤ max a.depth (PyData.depthAll es)
    omega
section
variable {P : Program} {w : World} {K : PySem.W.Frag} {mg : Str → Option Value} {base : Heap}
theorem ok_same1 {f : Addr} {fd : FuncData} {n : Nat} (F : Fun K "_law_same" "_law_same" sSame f fd) (B : Bl mg) (bS : Binds K fd ["_law_found", "_law_due_here"] []) (gS : mg "_law_same" = some (.ref f))
    (G : FnG P w K mg base n f fd ["_law_found", "_law_due_here"] (spSame n)) : FnG P w K mg base (n + 1) f fd ["_law_found", "_law_due_here"] (spSame (n + 1)) := by
  refine okG F scSame (fun vs H Q E h => ?_) (fun cdv A out s H vs Q hgu hr h => ?_)
  · obtain ⟨x, y, d, e, rfl, _⟩ := h
    rfl
  · obtain ⟨x, y, d, e, rfl, hx, hy, hn, q⟩ := h
    refine ⟨_, pss_cons (ps_if (pt_val (pe_callB call_isiT (by rfl) B.isi boot_isinstance (pa_cons (pv 1) (pa_cons (pe_tup (pa_cons (pe_bltn (v := .ty "tuple") (by rfl) B.tuple PyProof.Rows.boot_tuple rfl) (pa_cons (pe_bltn (v := .ty "list") (by rfl) B.list PyProof.Rows.boot_list rfl) pa_nil))) pa_nil))))
        (pss_cons (ps_if (PW.pt (pw_or (pt_cmpR op_ne (pe_callB call_isi (by rfl) B.isi boot_isinstance (pa_cons (pv 1) (pa_cons (pe_bltn (v := .ty "tuple") (by rfl) B.tuple PyProof.Rows.boot_tuple rfl) pa_nil))) (pe_callB call_isi (by rfl) B.isi boot_isinstance (pa_cons (pv 0) (pa_cons (pe_bltn (v := .ty "tuple") (by rfl) B.tuple PyProof.Rows.boot_tuple rfl) pa_nil))) (nomark _))
            (pw_or1 (pt_cmpR op_ne (pe_callB call_isi (by rfl) B.isi boot_isinstance (pa_cons (pv 1) (pa_cons (pe_bltn (v := .ty "list") (by rfl) B.list PyProof.Rows.boot_list rfl) pa_nil))) (pe_callB call_isi (by rfl) B.isi boot_isinstance (pa_cons (pv 0) (pa_cons (pe_bltn (v := .ty "list") (by rfl) B.list PyProof.Rows.boot_list rfl) pa_nil))) (nomark _)))))
          (pss_one (ps_ret pe_bl)) pss_nil)
        (pss_one (ps_ret (pe_and (pe_cmpR op_eq (pe_callB call_len_seq (by rfl) B.len PySem.boot_len (pa_cons (pv 0) pa_nil)) (pe_callB call_len_seq (by rfl) B.len PySem.boot_len (pa_cons (pv 1) pa_nil)) (nomark _))
          (pe_one (pe_callB (cr_all rfl) (by rfl) B.all boot_all (pa_cons (pe_lc (own := [("_law_one", 2), ("_law_other", 3)]) (g := gTup K 2 (gCons (gName 2) (gCons (gName 3) gNil))) rfl scSame.nd (RZ.pi_zipA (by rfl) B.zip (pa_cons (pv 0) (pa_cons (pv 1) pa_nil))) (blkOk_by (N := nSame) (sc := defScope sSame) (by decide +kernel))
            (fun _ _ _ _ _ => pg_tup rfl (pgs_cons (pg_name (i := 2) scSame.nd rfl (.inl rfl)) (pgs_cons (pg_name (i := 3) scSame.nd rfl (.inl rfl)) pgs_nil))) (fun _ _ _ _ _ => pts_nil)
            (fun _ _ _ _ _ => pe_callG G hgu hr (by rfl) gS F.kp bS (pa_cons (pv 2) (pa_cons (pv 3) pa_nil)))) pa_nil)))))))
        pss_nil)
      (pss_cons (ps_if (pt_cmpR op_isN (pv 1) pe_non (nomark _)) (pss_one (ps_ret (pe_cmpR op_isN (pv 0) pe_non (nomark _)))) pss_nil)
      (pss_cons (ps_if (pt_val (pe_callB call_isi (by rfl) B.isi boot_isinstance (pa_cons (pv 1) (pa_cons (pe_bltn (v := .ty "str") (by rfl) B.str PyProof.Rows.boot_str rfl) pa_nil))))
        (pss_one (ps_ret (pe_and (pe_callB call_isi (by rfl) B.isi boot_isinstance (pa_cons (pv 0) (pa_cons (pe_bltn (v := .ty "str") (by rfl) B.str PyProof.Rows.boot_str rfl) pa_nil))) (pe_one (pe_cmpR op_eq (pv 0) (pv 1) (nomark _)))))) pss_nil)
      (pss_cons (ps_if (PW.pt (pw_or (pt_val (pe_callB call_isi (by rfl) B.isi boot_isinstance (pa_cons (pv 1) (pa_cons (pe_bltn (v := .ty "bool") (by rfl) B.bool PyProof.Rows.boot_bool rfl) pa_nil)))) (pw_or1 (pt_val (pe_callB call_isi (by rfl) B.isi boot_isinstance (pa_cons (pv 0) (pa_cons (pe_bltn (v := .ty "bool") (by rfl) B.bool PyProof.Rows.boot_bool rfl) pa_nil)))))))
        (pss_one (ps_ret (pe_and (pe_callB call_isi (by rfl) B.isi boot_isinstance (pa_cons (pv 0) (pa_cons (pe_bltn (v := .ty "bool") (by rfl) B.bool PyProof.Rows.boot_bool rfl) pa_nil))) (pe_and (pe_callB call_isi (by rfl) B.isi boot_isinstance (pa_cons (pv 1) (pa_cons (pe_bltn (v := .ty "bool") (by rfl) B.bool PyProof.Rows.boot_bool rfl) pa_nil))) (pe_one (pe_cmpR op_eq (pv 0) (pv 1) (nomark _))))))) pss_nil)
      (pss_cons (ps_if (pt_val (pe_callB call_isi (by rfl) B.isi boot_isinstance (pa_cons (pv 1) (pa_cons (pe_bltn (v := .ty "int") (by rfl) B.int PyProof.Rows.boot_int rfl) pa_nil))))
        (pss_one (ps_ret (pe_and (pe_callB call_isi (by rfl) B.isi boot_isinstance (pa_cons (pv 0) (pa_cons (pe_bltn (v := .ty "int") (by rfl) B.int PyProof.Rows.boot_int rfl) pa_nil))) (pe_one (pe_cmpR op_eq (pv 0) (pv 1) (nomark _)))))) pss_nil)
      (pss_one (ps_ret (pe_and (pe_callB call_isi (by rfl) B.isi boot_isinstance (pa_cons (pv 1) (pa_cons (pe_bltn (v := .ty "dict") (by rfl) B.dict PyProof.Rows.boot_dict rfl) pa_nil))) (pe_and (pe_callB call_isi (by rfl) B.isi boot_isinstance (pa_cons (pv 0) (pa_cons (pe_bltn (v := .ty "dict") (by rfl) B.dict PyProof.Rows.boot_dict rfl) pa_nil)))
        (pe_one (pe_cmpR op_eq (pe_callB (call_reprD hgu hr.units) (by rfl) B.repr PyProof.Rows.boot_repr (pa_cons (pv 0) pa_nil)) (pe_callB (call_reprD hgu hr.units) (by rfl) B.repr PyProof.Rows.boot_repr (pa_cons (pv 1) pa_nil)) (nomark _))))))))))), ?_⟩
    refine ⟨y, rfl, (show 2 ≤ sizeLine by decide), fun tp ntp => ?_⟩
    have s1 : Same H (upd H tp (.tup [.ty "tuple", .ty "list"])) := same_new ntp
    have hx1 := hx.same s1
    have hy1 := hy.same s1
    refine ⟨y, tp, _, _, _, isSeq e, rfl, upd_same, .cons (.ty _) (.cons (.ty _) .nil), hy1.ty, kt_seq e, _, rfl, ?_⟩
    generalize upd H tp (.tup [.ty "tuple", .ty "list"]) = H1 at s1 hx1 hy1 ⊢
    have q1 : ∀ H', Same H1 H' → Q (.bl (sameD d e)) H' := fun H' z => q H' (s1.trans z)
    clear q hx hy s1
    have r1 := Same.refl H1
    cases e with
    | none =>
      refine iteF ⟨_, rfl, rfl, _, rfl, ?_⟩
      rw [hy1.non_iff]
      refine iteT ⟨_, rfl, rfl, ?_⟩
      rw [hx1.non_iff]
      cases d <;> exact q1 _ r1
    | str z =>
      refine iteF ⟨_, rfl, rfl, _, rfl, ?_⟩
      rw [hy1.non_iff]
      refine iteF ⟨_, rfl, _, _, _, _, true, rfl, .ty _, hy1.ty, kit_ty (kt_str _), _, rfl, iteT ?_⟩
      refine ⟨_, rfl, _, _, _, _, isStr d, rfl, .ty _, hx1.ty, kit_ty (kt_str _), _, rfl, ?_⟩
      cases hx1 with
      | str z2 =>
        cases hy1
        refine iteT ⟨_, rfl, _, rfl, rfl, ?_⟩
        have e1 : decide (V.str z2 = V.str z) = decide (z2 = z) := by
          by_cases h : z2 = z
          · rw [h]; simp
          · rw [decide_eq_false h, decide_eq_false (fun c => h (V.str.inj c))]
        rw [e1]
        exact q1 _ r1
      | _ => exact iteF (q1 _ r1)
    | bool z =>
      refine iteF ⟨_, rfl, rfl, _, rfl, ?_⟩
      rw [hy1.non_iff]
      refine iteF ⟨_, rfl, _, _, _, _, false, rfl, .ty _, hy1.ty, kit_ty (kt_str _), _, rfl, iteF ?_⟩
      refine ⟨_, rfl, _, _, _, _, true, rfl, .ty _, hy1.ty, kit_ty (kt_bool _), _, rfl, iteT (iteT ?_)⟩
      refine ⟨_, rfl, _, _, _, _, isBool d, rfl, .ty _, hx1.ty, kit_ty (kt_bool _), _, rfl, ?_⟩
      cases hx1 with
      | bl z2 =>
        refine iteT ⟨_, rfl, _, _, _, _, true, rfl, .ty _, hy1.ty, kit_ty (kt_bool _), _, rfl, iteT ?_⟩
        cases hy1
        refine ⟨_, rfl, _, rfl, rfl, ?_⟩
        have e1 : decide (V.bl z2 = V.bl z) = decide (z2 = z) := by
          by_cases h : z2 = z
          · rw [h]; simp
          · rw [decide_eq_false h, decide_eq_false (fun c => h (V.bl.inj c))]
        rw [e1]
        exact q1 _ r1
      | _ => exact iteF (q1 _ r1)
    | int z =>
      refine iteF ⟨_, rfl, rfl, _, rfl, ?_⟩
      rw [hy1.non_iff]
      refine iteF ⟨_, rfl, _, _, _, _, false, rfl, .ty _, hy1.ty, kit_ty (kt_str _), _, rfl, iteF ?_⟩
      refine ⟨_, rfl, _, _, _, _, false, rfl, .ty _, hy1.ty, kit_ty (kt_bool _), _, rfl, iteF ?_⟩
      refine ⟨_, rfl, _, _, _, _, isBool d, rfl, .ty _, hx1.ty, kit_ty (kt_bool _), _, rfl, ?_⟩
      cases hx1 with
      | bl z2 =>
        refine iteT ⟨_, rfl, _, _, _, _, true, rfl, .ty _, Da.ty (Da.bl (av := Kd.nil) z2), kit_ty (kt_bool (.bool z2)), _, rfl, iteT ?_⟩
        exact ⟨_, rfl, _, _, _, _, false, rfl, .ty _, hy1.ty, kit_ty (kt_bool _), _, rfl, iteF (q1 _ r1)⟩
      | int z2 =>
        refine iteF ⟨_, rfl, _, _, _, _, true, rfl, .ty _, hy1.ty, kit_ty (kt_int _), _, rfl, iteT ?_⟩
        refine ⟨_, rfl, _, _, _, _, true, rfl, .ty _, Da.ty (Da.int (av := Kd.nil) z2), kit_ty (kt_int (.int z2)), _, rfl, iteT ?_⟩
        cases hy1
        refine ⟨_, rfl, _, rfl, rfl, ?_⟩
        have e1 : decide (V.int z2 = V.int z) = decide (z2 = z) := by
          by_cases h : z2 = z
          · rw [h]; simp
          · rw [decide_eq_false h, decide_eq_false (fun c => h (V.int.inj c))]
        rw [e1]
        exact q1 _ r1
      | non => exact iteF ⟨_, rfl, _, _, _, _, true, rfl, .ty _, hy1.ty, kit_ty (kt_int _), _, rfl, iteT ⟨_, rfl, _, _, _, _, false, rfl, .ty _, Da.ty (Da.non (av := Kd.nil)), kit_ty (kt_int .none), _, rfl, iteF (q1 _ r1)⟩⟩
      | str z2 => exact iteF ⟨_, rfl, _, _, _, _, true, rfl, .ty _, hy1.ty, kit_ty (kt_int _), _, rfl, iteT ⟨_, rfl, _, _, _, _, false, rfl, .ty _, Da.ty (Da.str (av := Kd.nil) z2), kit_ty (kt_int (.str z2)), _, rfl, iteF (q1 _ r1)⟩⟩
      | lst a1 a2 a3 a4 => exact iteF ⟨_, rfl, _, _, _, _, true, rfl, .ty _, hy1.ty, kit_ty (kt_int _), _, rfl, iteT ⟨_, rfl, _, _, _, _, false, rfl, .ty _, Da.ty (Da.lst a1 a2 a3 a4), kit_ty (kt_int (.list _)), _, rfl, iteF (q1 _ r1)⟩⟩
      | tup a1 a2 a3 a4 => exact iteF ⟨_, rfl, _, _, _, _, true, rfl, .ty _, hy1.ty, kit_ty (kt_int _), _, rfl, iteT ⟨_, rfl, _, _, _, _, false, rfl, .ty _, Da.ty (Da.tup a1 a2 a3 a4), kit_ty (kt_int (.tuple _)), _, rfl, iteF (q1 _ r1)⟩⟩
      | dc0 a1 a2 => exact iteF ⟨_, rfl, _, _, _, _, true, rfl, .ty _, hy1.ty, kit_ty (kt_int _), _, rfl, iteT ⟨_, rfl, _, _, _, _, false, rfl, .ty _, Da.ty (Da.dc0 a1 a2), kit_ty (kt_int (.dict _)), _, rfl, iteF (q1 _ r1)⟩⟩
      | dc1 a1 a2 => exact iteF ⟨_, rfl, _, _, _, _, true, rfl, .ty _, hy1.ty, kit_ty (kt_int _), _, rfl, iteT ⟨_, rfl, _, _, _, _, false, rfl, .ty _, Da.ty (Da.dc1 a1 a2), kit_ty (kt_int (.dict _)), _, rfl, iteF (q1 _ r1)⟩⟩
    | dict z =>
      refine iteF ⟨_, rfl, rfl, _, rfl, ?_⟩
      rw [hy1.non_iff]
      refine iteF ⟨_, rfl, _, _, _, _, false, rfl, .ty _, hy1.ty, kit_ty (kt_str _), _, rfl, iteF ?_⟩
      refine ⟨_, rfl, _, _, _, _, false, rfl, .ty _, hy1.ty, kit_ty (kt_bool _), _, rfl, iteF ?_⟩
      refine ⟨_, rfl, _, _, _, _, isBool d, rfl, .ty _, hx1.ty, kit_ty (kt_bool _), _, rfl, ?_⟩
      by_cases hb : isBool d = true
      · cases d with
        | bool z2 => exact iteT ⟨_, rfl, _, _, _, _, true, rfl, .ty _, hx1.ty, kit_ty (kt_bool (.bool z2)), _, rfl, iteT ⟨_, rfl, _, _, _, _, false, rfl, .ty _, hy1.ty, kit_ty (kt_bool _), _, rfl, iteF (q1 _ r1)⟩⟩
        | _ => exact nomatch hb
      · rw [Bool.not_eq_true] at hb
        rw [hb]
        refine iteF ⟨_, rfl, _, _, _, _, false, rfl, .ty _, hy1.ty, kit_ty (kt_int _), _, rfl, iteF ?_⟩
        refine ⟨_, rfl, _, _, _, _, true, rfl, .ty _, hy1.ty, kit_ty (kt_dct _), _, rfl, iteT ?_⟩
        refine ⟨_, rfl, _, _, _, _, isDct d, rfl, .ty _, hx1.ty, kit_ty (kt_dct _), _, rfl, ?_⟩
        cases d with
        | dict z2 =>
          refine iteT ⟨_, rfl, Kd.nil, _, _, rfl, hx1, _, rfl, Kd.nil, _, _, rfl, hy1, rfl, ?_⟩
          have e1 : decide (V.str (PyData.dict z2).shown = V.str (PyData.dict z).shown) = sameD (.dict z2) (.dict z) := by
            show _ = decide ((PyData.dict z2).shown = (PyData.dict z).shown)
            by_cases h : (PyData.dict z2).shown = (PyData.dict z).shown
            · rw [h]; simp
            · rw [decide_eq_false h, decide_eq_false (fun c => h (V.str.inj c))]
          rw [e1]
          exact q1 _ r1
        | _ => exact iteF (q1 _ r1)
    | tuple es =>
      refine iteT ⟨_, rfl, _, _, _, _, true, rfl, .ty _, hy1.ty, kit_ty (kt_tup _), _, rfl, _, _, _, _, isTup d, rfl, .ty _, hx1.ty, kit_ty (kt_tup _), rfl, _, rfl, ?_⟩
      by_cases hb : isTup d = true
      · cases d with
        | tuple ds =>
          refine iteF ⟨_, rfl, _, _, _, _, false, rfl, .ty _, hy1.ty, kit_ty (kt_lst (.tuple es)), _, rfl, _, _, _, _, false, rfl, .ty _, hx1.ty, kit_ty (kt_lst (.tuple ds)), rfl, _, rfl, iteF ?_⟩
          cases hx1 with
          | @tup a xs _ na ha hal hA =>
            cases hy1 with
            | @tup b ys _ nb hb2 hbl hB =>
              refine ⟨_, rfl, a, xs, rfl, .inr (SqT.of ha), _, rfl, b, ys, rfl, .inr (SqT.of hb2), rfl, _, rfl, ?_⟩
              have l1 := hA.length
              have l2 := hB.length
              refine ite2 (fun c => ?_) (fun c => ?_)
              · have c' : xs.length = ys.length := by
                  have := V.int.inj (of_decide_eq_true c)
                  omega
                refine ⟨_, rfl, _, rfl, a, b, xs, ys, rfl, .inr ⟨SqT.of ha, SqT.of hb2, fun D nD => ?_⟩⟩
                refine lc_it (walk_zipT (n := xs.length) (by omega)) (fun i H2 => Same H1 H2 ∧ H2 D = some (.lst (((sameL ds es).take i).map V.bl))) ⟨same_new nD, upd_same⟩ (fun i H2 _ p => ⟨SqT.of (p.1 _ _ ha), SqT.of (p.1 _ _ hb2)⟩) (fun i v H2 H3 hi p yy => ?_) (fun H2 p => ?_)
                · obtain ⟨T, v1, v2, rfl, nT, rfl, f1, f2⟩ := yy
                  obtain ⟨d1, g1, k1⟩ := hA.get f1
                  obtain ⟨e1, g2, k2⟩ := hB.get f2
                  have s3 : Same H1 (upd H2 T (.tup [v1, v2])) := p.1.trans (same_new nT)
                  refine ⟨T, _, rfl, SqT.of upd_same, rfl, v1, _, rfl, v2, _, rfl, rfl, rfl, ?_⟩
                  refine ⟨_, rfl, _, rfl, v1, v2, d1, e1, rfl, k1.same s3, k2.same s3, ?_, fun H4 s4 => ⟨((sameL ds es).take i).map V.bl, ?_, ?_, ?_, ?_⟩⟩
                  · have z := dep_mem g2
                    have z2 : PyData.depthAll es + 1 < n + 1 := hn
                    omega
                  · exact s4 _ _ (same_new nT _ _ p.2)
                  · rw [List.length_map, List.length_take]
                    exact Nat.lt_of_le_of_lt (Nat.min_le_left _ _) (small1000 (by omega))
                  · exact fun bb o z => by rw [upd_ne (ne_of_none z nD)]; exact s4 _ _ (s3 _ _ z)
                  · rw [upd_same, tk_map (sameL_get ds es i d1 e1 g1 g2)]
                · have e3 : (sameL ds es).take xs.length = sameL ds es := List.take_of_length_le (by rw [sameL_len]; omega)
                  rw [e3] at p
                  refine ⟨D, _, rfl, SqL.of p.2, ?_⟩
                  have e4 : sameD (.tuple ds) (.tuple es) = (sameL ds es).all id := by
                    show sameA ds es = _
                    rw [sameA_eq, decide_eq_true (show ds.length = es.length by omega)]
                    exact Bool.true_and _
                  rw [← e4]
                  exact q1 _ p.1
              · have c' : ds.length ≠ es.length := fun z => c (decide_eq_true (congrArg V.int (by omega)))
                have e4 : sameD (.tuple ds) (.tuple es) = false := by
                  show sameA ds es = _
                  rw [sameA_eq, decide_eq_false c']
                  exact Bool.false_and _
                rw [← e4]
                exact q1 _ r1
        | _ => exact nomatch hb
      · rw [Bool.not_eq_true] at hb
        rw [hb]
        refine iteT (iteT ?_)
        have e4 : sameD d (.tuple es) = false := by
          cases d with
          | tuple ds => exact nomatch hb
          | _ => rfl
        rw [← e4]
        exact q1 _ r1
    | list es =>
      refine iteT ⟨_, rfl, _, _, _, _, false, rfl, .ty _, hy1.ty, kit_ty (kt_tup _), _, rfl, _, _, _, _, isTup d, rfl, .ty _, hx1.ty, kit_ty (kt_tup _), rfl, _, rfl, ?_⟩
      by_cases hb : isLst d = true
      · cases d with
        | list ds =>
          refine iteF ⟨_, rfl, _, _, _, _, true, rfl, .ty _, hy1.ty, kit_ty (kt_lst (.list es)), _, rfl, _, _, _, _, true, rfl, .ty _, hx1.ty, kit_ty (kt_lst (.list ds)), rfl, _, rfl, iteF ?_⟩
          cases hx1 with
          | @lst a xs _ na ha hal hA =>
            cases hy1 with
            | @lst b ys _ nb hb2 hbl hB =>
              refine ⟨_, rfl, a, xs, rfl, .inl (SqL.of ha), _, rfl, b, ys, rfl, .inl (SqL.of hb2), rfl, _, rfl, ?_⟩
              have l1 := hA.length
              have l2 := hB.length
              refine ite2 (fun c => ?_) (fun c => ?_)
              · have c' : xs.length = ys.length := by
                  have := V.int.inj (of_decide_eq_true c)
                  omega
                refine ⟨_, rfl, _, rfl, a, b, xs, ys, rfl, .inl ⟨SqL.of ha, SqL.of hb2, fun D nD => ?_⟩⟩
                refine lc_it (walk_zip (n := xs.length) (xs := xs) (ys := ys) (by omega)) (fun i H2 => Same H1 H2 ∧ H2 D = some (.lst (((sameL ds es).take i).map V.bl))) ⟨same_new nD, upd_same⟩ (fun i H2 _ p => ⟨SqL.of (p.1 _ _ ha), SqL.of (p.1 _ _ hb2)⟩) (fun i v H2 H3 hi p yy => ?_) (fun H2 p => ?_)
                · obtain ⟨T, v1, v2, rfl, nT, rfl, f1, f2⟩ := yy
                  obtain ⟨d1, g1, k1⟩ := hA.get f1
                  obtain ⟨e1, g2, k2⟩ := hB.get f2
                  have s3 : Same H1 (upd H2 T (.tup [v1, v2])) := p.1.trans (same_new nT)
                  refine ⟨T, _, rfl, SqT.of upd_same, rfl, v1, _, rfl, v2, _, rfl, rfl, rfl, ?_⟩
                  refine ⟨_, rfl, _, rfl, v1, v2, d1, e1, rfl, k1.same s3, k2.same s3, ?_, fun H4 s4 => ⟨((sameL ds es).take i).map V.bl, ?_, ?_, ?_, ?_⟩⟩
                  · have z := dep_mem g2
                    have z2 : PyData.depthAll es + 1 < n + 1 := hn
                    omega
                  · exact s4 _ _ (same_new nT _ _ p.2)
                  · rw [List.length_map, List.length_take]
                    exact Nat.lt_of_le_of_lt (Nat.min_le_left _ _) (small1000 (by omega))
                  · exact fun bb o z => by rw [upd_ne (ne_of_none z nD)]; exact s4 _ _ (s3 _ _ z)
                  · rw [upd_same, tk_map (sameL_get ds es i d1 e1 g1 g2)]
                · have e3 : (sameL ds es).take xs.length = sameL ds es := List.take_of_length_le (by rw [sameL_len]; omega)
                  rw [e3] at p
                  refine ⟨D, _, rfl, SqL.of p.2, ?_⟩
                  have e4 : sameD (.list ds) (.list es) = (sameL ds es).all id := by
                    show sameA ds es = _
                    rw [sameA_eq, decide_eq_true (show ds.length = es.length by omega)]
                    exact Bool.true_and _
                  rw [← e4]
                  exact q1 _ p.1
              · have c' : ds.length ≠ es.length := fun z => c (decide_eq_true (congrArg V.int (by omega)))
                have e4 : sameD (.list ds) (.list es) = false := by
                  show sameA ds es = _
                  rw [sameA_eq, decide_eq_false c']
                  exact Bool.false_and _
                rw [← e4]
                exact q1 _ r1
        | _ => exact nomatch hb
      · rw [Bool.not_eq_true] at hb
        have e4 : sameD d (.list es) = false := by
          cases d with
          | list ds => exact nomatch hb
          | _ => rfl
        rw [e4] at q1
        by_cases ht : isTup d = true
        · rw [ht]
          exact iteT (iteT (q1 _ r1))
        · rw [Bool.not_eq_true] at ht
          rw [ht]
          refine iteF ⟨_, rfl, _, _, _, _, true, rfl, .ty _, hy1.ty, kit_ty (kt_lst (.list es)), _, rfl, _, _, _, _, isLst d, rfl, .ty _, hx1.ty, kit_ty (kt_lst _), rfl, _, rfl, ?_⟩
          rw [hb]
          exact iteT (q1 _ r1)
theorem ok_same {f : Addr} {fd : FuncData} (F : Fun K "_law_same" "_law_same" sSame f fd) (B : Bl mg) (bS : Binds K fd ["_law_found", "_law_due_here"] []) (gS : mg "_law_same" = some (.ref f)) :
    ∀ n : Nat, FnG P w K mg base n f fd ["_law_found", "_law_due_here"] (spSame n)
  | 0 => ⟨fun vs H Q E h => by obtain ⟨x, y, d, e, _, _, _, z, _⟩ := h; exact absurd z (Nat.not_lt_zero _), fun A out s H ar us vs Q _ _ _ _ _ h => by obtain ⟨x, y, d, e, _, _, _, z, _⟩ := h; exact absurd z (Nat.not_lt_zero _)⟩
  | n + 1 => ok_same1 F B bS gS (ok_same F B bS gS n)
end
end Kc

set_option Elab.async false
set_option linter.all false
set_option maxRecDepth 100000
set_option maxHeartbeats 4000000
/-! Displays of data: an expression that makes a datum anew. -/
namespace Kd
open PySem PySem.Spec PyProof.Rows L2 Kg
def trk (H : Hp) : Addr → Prop := fun a => H a ≠ none
theorem trk_mono {H H' : Hp} (s : Same H H') : ∀ a, trk H a → trk H' a := fun a h z => h (s.free z)
theorem Keep.free {ds : Addr → Prop} {H H' : Hp} (k : Keep ds H H') (d : ∀ a, ds a → H' a ≠ none) {a : Addr} (h : H' a = none) : H a = none := by
  cases q : H a with
  | none => rfl
  | some o =>
    by_cases z : ds a
    · exact absurd h (d a z)
    · rw [k a o q z] at h; exact nomatch h
theorem pe_imp {X : Cx} {e : Expr} {t t' : TE} (h : PE X e t) (i : ∀ σ H Q, t' σ H Q → t σ H Q) : PE X e t' := ⟨fun pins s σ H Q I z => h.run pins s σ H Q I (i σ H Q z)⟩
theorem pa_imp {X : Cx} {es : List Expr} {t t' : TA} (h : PA X es t) (i : ∀ σ H Q, t' σ H Q → t σ H Q) : PA X es t' := ⟨fun pos pins s σ H Q I z => h.run pos pins s σ H Q I (i σ H Q z)⟩
/-- a datum, made anew -/
def tDat (d : PyData) : TE := fun _ H Q => ∀ v H', Same H H' → Da (trk H) H' v d → Q v H'
def tDats (ds : List PyData) : TA := fun _ H Q => ∀ vs H', Same H H' → DaAll (trk H) H' vs ds → Q vs H'
section
variable {X : Cx}
theorem pd_non {j pos} : PE X (.Constant .none j pos) (tDat .none) := pe_imp pe_non fun _ H _ z => z _ H (Same.refl H) .non
theorem pd_bl {b : Bool} {j pos} : PE X (.Constant (.bool b) j pos) (tDat (.bool b)) := pe_imp pe_bl fun _ H _ z => z _ H (Same.refl H) (.bl b)
theorem pd_int {i : Int} {j pos} : PE X (.Constant (.int i) j pos) (tDat (.int i)) := pe_imp pe_int fun _ H _ z => z _ H (Same.refl H) (.int i)
theorem pd_str {x : Str} {j pos} : PE X (.Constant (.str x) j pos) (tDat (.str x)) := pe_imp pe_str fun _ H _ z => z _ H (Same.refl H) (.str x)
theorem pd_neg {i : Int} {j p pos} : PE X (.UnaryOp .USub (.Constant (.int i) j p) pos) (tDat (.int (-i))) := pe_imp (pe_un un_neg pe_int) fun _ H _ z => ⟨i, rfl, z _ H (Same.refl H) (.int (-i))⟩
theorem pd_pow {a b : Int} {j p j2 p2 pos} (h : CPow a b) : PE X (.BinOp (.Constant (.int a) j p) .Pow (.Constant (.int b) j2 p2) pos) (tDat (.int (a ^ b.toNat))) := pe_imp (pe_op op_pow pe_int pe_int) fun _ H _ z => ⟨a, b, rfl, rfl, h, z _ H (Same.refl H) (.int (a ^ b.toNat))⟩
theorem pds_nil : PA X [] (tDats []) := pa_imp pa_nil fun _ H _ z => z _ H (Same.refl H) .nil
theorem pds_cons {e : Expr} {es : List Expr} {d : PyData} {ds : List PyData} (h : PE X e (tDat d)) (r : PA X es (tDats ds)) (hs : starEach (e :: es) X.env = (false, eval e X.env) :: starEach es X.env := by rfl) : PA X (e :: es) (tDats (d :: ds)) :=
  pa_imp (pa_cons h r hs) fun _ H _ z v H1 s1 hv vs H2 s2 hvs => z _ H2 (s1.trans s2) (.cons (hv.same s2) (hvs.sub (trk_mono s1)))
theorem pd_tup {es : List Expr} {ds : List PyData} {x1} {pos : Pos} (h : PA X es (tDats ds)) (hl : ds.length ≤ 1000 := by decide) : PE X (.Tuple es x1 pos) (tDat (.tuple ds)) :=
  pe_imp (pe_tup h) fun _ H _ z vs H1 s1 hvs => ⟨by rw [hvs.length]; exact Nat.le_of_lt (small1000 hl), fun p np => z _ _ (s1.trans (same_new np)) (.tup (fun c => c (s1.free np)) upd_same (by rw [hvs.length]; exact hl) (hvs.keep (.of_same (same_new np))))⟩
theorem pd_lst {es : List Expr} {ds : List PyData} {pos : Pos} (h : PA X es (tDats ds)) (hl : ds.length ≤ 1000 := by decide) : PE X (.List es pos) (tDat (.list ds)) :=
  pe_imp (pe_lst h) fun _ H _ z vs H1 s1 hvs => ⟨by rw [hvs.length]; exact Nat.le_of_lt (small1000 hl), fun p np => z _ _ (s1.trans (same_new np)) (.lst (fun c => c (s1.free np)) upd_same (by rw [hvs.length]; exact hl) (hvs.keep (.of_same (same_new np))))⟩
theorem pd_d0 {pos : Pos} : PE X (.Dict [] [] pos) (tDat (.dict [])) := pe_imp pe_dnewK fun _ H _ z p np => z _ _ (same_new np) (.dc0 (fun c => c np) upd_same)
theorem pd_d1 {j p j2 p2 pos} : PE X (.Dict [some (.Constant (.int 0) j p)] [.Constant (.int 1) j2 p2] pos) (tDat (.dict [(.int 0, .int 1)])) := by
  refine pe_imp (pe_disp (pps_cons pe_int pe_int pps_nil) (by rfl) (by rfl) (fun z => by cases z) (show 1 ≤ 15 by decide)) fun σ H Q z p np => ?_
  refine ⟨upd_same, [(Sum.inl 0, V.int 1)], rfl, by decide, ?_⟩
  refine z _ _ (fun b o e => ?_) (.dc1 (fun c => c np) (upd_same.trans ?_))
  · rw [upd_ne (ne_of_none e np), upd_ne (ne_of_none e np)]; exact e
  · rfl
end
/-! ### what is tracked stands apart from what is not -/
mutual
theorem Da.apart {av bv : Addr → Prop} {H : Hp} (k : ∀ a, bv a → H a = none) : ∀ {v : V} {d : PyData}, Da av H v d → Da bv H v d
  | _, _, .non => .non
  | _, _, .bl b => .bl b
  | _, _, .int i => .int i
  | _, _, .str x => .str x
  | _, _, .lst _ h l r => .lst (fun z => nomatch (k _ z).symm.trans h) h l (DaAll.apart k r)
  | _, _, .tup _ h l r => .tup (fun z => nomatch (k _ z).symm.trans h) h l (DaAll.apart k r)
  | _, _, .dc0 _ h => .dc0 (fun z => nomatch (k _ z).symm.trans h) h
  | _, _, .dc1 _ h => .dc1 (fun z => nomatch (k _ z).symm.trans h) h
theorem DaAll.apart {av bv : Addr → Prop} {H : Hp} (k : ∀ a, bv a → H a = none) : ∀ {vs : List V} {ds : List PyData}, DaAll av H vs ds → DaAll bv H vs ds
  | _, _, .nil => .nil
  | _, _, .cons h r => .cons (Da.apart k h) (DaAll.apart k r)
end
/-! ### displays that lean on something that stays -/
def Stays (pre : L2.St → Hp → Prop) : Prop := ∀ σ H H', Same H H' → pre σ H → pre σ H'
def tDatP (pre : L2.St → Hp → Prop) (d : PyData) : TE := fun σ H Q => pre σ H ∧ ∀ v H', Same H H' → Da (trk H) H' v d → Q v H'
def tDatsP (pre : L2.St → Hp → Prop) (ds : List PyData) : TA := fun σ H Q => pre σ H ∧ ∀ vs H', Same H H' → DaAll (trk H) H' vs ds → Q vs H'
section
variable {X : Cx} {pre : L2.St → Hp → Prop}
theorem pdp_of {e : Expr} {d : PyData} (h : PE X e (tDat d)) : PE X e (tDatP pre d) := pe_imp h fun _ _ _ z => z.2
theorem pdps_nil : PA X [] (tDatsP pre []) := pa_imp pds_nil fun _ _ _ z => z.2
theorem pdps_cons {e : Expr} {es : List Expr} {d : PyData} {ds : List PyData} (st : Stays pre) (h : PE X e (tDatP pre d)) (r : PA X es (tDatsP pre ds)) (hs : starEach (e :: es) X.env = (false, eval e X.env) :: starEach es X.env := by rfl) : PA X (e :: es) (tDatsP pre (d :: ds)) :=
  pa_imp (pa_cons h r hs) fun σ H _ z => ⟨z.1, fun v H1 s1 hv => ⟨st σ H H1 s1 z.1, fun vs H2 s2 hvs => z.2 _ H2 (s1.trans s2) (.cons (hv.same s2) (hvs.sub (trk_mono s1)))⟩⟩
theorem pdp_tup {es : List Expr} {ds : List PyData} {x1} {pos : Pos} (h : PA X es (tDatsP pre ds)) (hl : ds.length ≤ 1000 := by first | decide | simp) : PE X (.Tuple es x1 pos) (tDatP pre (.tuple ds)) :=
  pe_imp (pe_tup h) fun _ H _ z => ⟨z.1, fun vs H1 s1 hvs => ⟨by rw [hvs.length]; exact Nat.le_of_lt (small1000 hl), fun p np => z.2 _ _ (s1.trans (same_new np)) (.tup (fun c => c (s1.free np)) upd_same (by rw [hvs.length]; exact hl) (hvs.keep (.of_same (same_new np))))⟩⟩
theorem pdp_lst {es : List Expr} {ds : List PyData} {pos : Pos} (h : PA X es (tDatsP pre ds)) (hl : ds.length ≤ 1000 := by first | decide | simp) : PE X (.List es pos) (tDatP pre (.list ds)) :=
  pe_imp (pe_lst h) fun _ H _ z => ⟨z.1, fun vs H1 s1 hvs => ⟨by rw [hvs.length]; exact Nat.le_of_lt (small1000 hl), fun p np => z.2 _ _ (s1.trans (same_new np)) (.lst (fun c => c (s1.free np)) upd_same (by rw [hvs.length]; exact hl) (hvs.keep (.of_same (same_new np))))⟩⟩
end
end Kd

set_option Elab.async false
set_option linter.all false
set_option maxRecDepth 100000
set_option maxHeartbeats 4000000
/-! Further rules: enumerate of a tuple, extend by a tuple, set of a list of ints. -/
namespace Kr
open PySem PySem.Spec PyProof.Rows L2 Kg Kd
/-! ### xs.extend(t), t a tuple -/
theorem ext_tup (l b : Addr) (xs ys : Array Value) (n m : Nat) (dd : Option Addr) (sl : Array (Option Value)) (c0 : ¬(!xs.isEmpty && Builtin.List.listTooLong (xs.size + ys.size)) = true) (c1 : xs.size ≤ sizeLine) (c2 : xs.size + ys.size ≤ sizeLine + 1) :
    Meets (Builtin.«list.extend» ⟨[.ref l, .ref b], []⟩) (fun _ R s => s.heap.get? l = some { cls := .type "list", dict := none, data := .seq xs n, slots := #[] } ∧ s.heap.get? b = some ⟨.type "tuple", dd, .seq ys m, sl⟩ ∧
      R (.ok (.ret Value.none)) { s with heap := s.heap.update l (Obj.mapSeq fun x => x ++ ys), toks := s.toks }) := by
  refine .of_wp fun prog w A R s z => ?_
  obtain ⟨h0, g, d, tk, os⟩ := s
  obtain ⟨zl, zb, z⟩ := z
  have f1 := AutoSeq1.idx_int
  have f2 := AutoSeq1.sub_tuple_tuple
  have f3 := AutoSeq1.sub_list_list
  have f4 := AutoSeq1.sub_tuple_list
  have f5 := AutoSeq1.sub_list_tuple
  have big : (xs ++ ys).size ≤ sizeLine + 1 := by rw [Array.size_append]; exact c2
  wp_walk using (wpAny_updateSeq zl rfl (hz := c1) (_hz' := big)), wpAny_loadPart' zl, wpAny_loadPart' zb
  exact ⟨_, rfl, z⟩
section
variable {X : Cx}
def rExtT (K : PySem.W.Frag) : V → List V → Hp → VK → Prop := fun x vs H Q => ∃ l b xs zs, x = .ref l ∧ vs = [.ref b] ∧ H l = some (.lst xs) ∧ SqT K H b zs ∧ xs.length + zs.length ≤ sizeLine ∧ Q .non (upd H l (.lst (xs ++ zs)))
theorem mt_extT : MtM X "list.extend" (rExtT X.K) := by
  intro pins s σ H x vs v us Q I rx rv h
  obtain ⟨l, b, xs, zs, rfl, rfl, hH, hB, hz, q⟩ := h
  cases rx
  obtain ⟨u, rfl, ru⟩ := rv.one
  cases ru
  obtain ⟨z, its, n, r, hl, e⟩ := I.lstM hH
  obtain ⟨its2, r2, ⟨ob, e2, c2, m, d2⟩, z2⟩ := I.tuple hB
  obtain ⟨oc, od, dt, sl⟩ := ob
  have c2' : oc = .type "tuple" := c2
  have d2' : dt = .seq its2.toArray m := d2
  subst c2' d2'
  have l2 := r2.length
  have fit : its.toArray.size + its2.toArray.size ≤ sizeLine := by rw [List.size_toArray, List.size_toArray]; omega
  refine call_meets F.slot_list_extend ⟨_, e, rfl⟩ F.entry_list_extend (F.args_list_extend_2 _ _) (ext_tup l b its.toArray its2.toArray n m od sl (by rw [notLongL fit, Bool.and_false]; exact Bool.false_ne_true) (by rw [List.size_toArray]; omega) (by omega)) ⟨e, e2, ?_⟩
  exact ⟨.non, _, I.lset (its' := its ++ its2) hH e (by simp) (r.append r2) (by rw [List.length_append]; exact hz), rfl, q⟩
end
/-! ### enumerate(t), t a tuple -/
theorem enum_new {v : Value} {o : Obj} {H : Heap → Prop} (B : Begins v o H) :
    Meets (Builtin.«enumerate.__new__» ⟨[.type "enumerate", v], []⟩) (fun _ R s => H s.heap ∧
      R (.ok (.ret (.ref (s.heap.push o).objs.size))) { s with heap := (s.heap.push o).push { cls := .type "enumerate", data := .fields #[.none, .bool false, .ref s.heap.objs.size, rawInt 0, .none, .none] } }) := by
  refine .of_wp fun prog w A R s z => ?_
  obtain ⟨h0, g, d, tk, os⟩ := s
  obtain ⟨z1, z⟩ := z
  have hsub := sub_enumerate
  have it : ∀ {A' : Around} {E : Value → Shared → Prop} {Q : Value → Shared → Prop}, Q (.ref h0.objs.size) ⟨h0.push o, g, d, tk, os⟩ → wpAny (model prog w) A' (pyIter v) Q E ⟨h0, g, d, tk, os⟩ := fun q => B.iter prog w _ _ ⟨h0, g, d, tk, os⟩ _ z1 q
  wp_walk using it
  refine wpAny_stack_any fun st => wpAny_pure ?_
  split
  · rename_i c _ _ _ _ _
    cases (c == Value.type "enumerate")
    · (wp_walk using it); exact ⟨_, rfl, z⟩
    · (wp_walk using it); exact ⟨_, rfl, z⟩
  · (wp_walk using it); exact ⟨_, rfl, z⟩
theorem call_enumT {prog : Program} {w : World} {A : Around} {E : Value → Shared → Prop} {s : Shared} {t : Addr} {items : Array Value} {Q : Value → Shared → Prop} (ht : s.heap.IsTuple t items)
    (h : ∀ h', IsEnum h' (s.heap.objs.size + 1) s.heap.objs.size 0 .none → h'.IsTupleIter s.heap.objs.size t 0 → h'.objs.size = s.heap.objs.size + 2 → (∀ b o, s.heap.get? b = some o → h'.get? b = some o) → Q (.ref (s.heap.objs.size + 1)) { s with heap := h' }) :
    wpAny (model prog w) A (call (.type "enumerate") [.ref t]) Q E s := by
  refine callType_new F.called_enumerate (by decide) (F.typeCall_enumerate_1 _) (F.newCall_enumerate_1 _) (fun obj => F.args_object_init_2 obj _) F.entry_enumerate_new (enum_new (begins_tuple t items)) ⟨ht, ?_⟩
  have sz : (s.heap.push { cls := .type "tuple_iterator", data := .fields #[.ref t, .int 0 0] }).objs.size = s.heap.objs.size + 1 := Heap.size_push ..
  show _ ∧ _
  rw [sz]
  have at1 := Heap.get?_push_size (s.heap.push { cls := .type "tuple_iterator", data := .fields #[.ref t, .int 0 0] }) (o := { cls := .type "enumerate", data := .fields #[.none, .bool false, .ref s.heap.objs.size, rawInt 0, .none, .none] }) rfl
  rw [sz] at at1
  exact ⟨⟨_, at1, rfl⟩, h _ at1 ⟨_, Heap.get?_push_of_some _ (Heap.get?_push_size _ rfl), rfl, rfl⟩ (by rw [Heap.size_push, sz]) fun b o z => Heap.get?_push_of_some _ (Heap.get?_push_of_some _ z)⟩
/-- the tuple at a, each item in a new pair -/
def IteT (K : PySem.W.Frag) (a : Addr) : It where
  go := fun i H => ∃ (xs : List V) (x : V), SqT K H a xs ∧ xs[i]? = some x
  yld := fun i H v H' => ∃ T x, v = .ref T ∧ H T = none ∧ H' = upd H T (.tup [.int (i : Nat), x]) ∧ ∀ xs, SqT K H a xs → xs[i]? = some x
  stop := fun i H => ∃ xs : List V, SqT K H a xs ∧ xs.length = i
theorem turn_enumT {P : Program} {w : World} {K : PySem.W.Frag} {elts : List Expr} {kk : Nat} {tp : Pos} (a e it : Addr) (hae : a ≠ e) (hai : a ≠ it) (hei : e ≠ it) :
    Turn P w K (.Tuple elts kk tp) (IteT K a) [e, it] e (fun i h => (∃ old, IsEnum h e it ((i : Nat) : Int) old) ∧ h.IsTupleIter it a i) where
  mem := by simp
  obj := fun i h st b hb => by
    obtain ⟨⟨old, z1⟩, ⟨o, z2, z3, z4⟩⟩ := st
    cases hb with
    | head => exact ⟨_, z1, fun v q => nomatch q⟩
    | tail _ hb =>
      rw [List.mem_singleton.mp hb]
      exact ⟨o, z2, fun v q => by rw [z4] at q; exact nomatch q⟩
  keep := fun i h h' st k => by
    obtain ⟨⟨old, z1⟩, z2⟩ := st
    exact ⟨⟨old, k e (by simp) _ z1⟩, z2.at fun o q => k it (by simp) o q⟩
  item := by
    intro X e1 e2 e3 hc i pins s σ H E I hf st hg
    subst e1 e2 e3
    obtain ⟨⟨old, z1⟩, z2⟩ := st
    obtain ⟨xs, x, hq, hx⟩ := hg
    obtain ⟨its, rv, p, _⟩ := I.tuple hq
    obtain ⟨u, hu, ru⟩ := rv.get hx
    have lt : i < its.toArray.size := by
      rw [List.size_toArray, ← rv.length]
      exact (List.getElem?_eq_some_iff.mp hx).1
    have le : e < s.heap.objs.size := Heap.lt_size z1
    have li : it < s.heap.objs.size := by
      obtain ⟨_, z, _⟩ := z2
      exact Heap.lt_size z
    have D := Draws.tuple (prog := X.prog) (w := X.w) (A := X.A.in1) (I.ok.hd hc) it a hai its.toArray
    refine wpAny_pyNext_enum_itemD D z1 ⟨z2, p⟩ lt hei (by simp [hei, hae.symm]) fun x' h' tk px out st' new sz k => ?_
    have ex : x' = u := by
      have q : its.toArray[i]? = some u := by simpa using hu
      exact Option.some.inj (px.symm.trans q)
    subst ex
    refine ⟨_, rfl, wpAny_letOwnedTupleGo_enum (s := { s with heap := h', toks := tk + 1 }) out fun h'' z3 sb => ?_⟩
    have new2 : h''.get? s.heap.objs.size = some { cls := .type "tuple", data := .seq #[.int i tk, x'] } := (sb.2 _ (Nat.ne_of_gt le)).trans new
    have J : Inv X pins σ (upd H s.heap.objs.size (.tup [.int (i : Nat), x])) { s with heap := h'', toks := tk + 1 } :=
      I.turnedNew (ch := [e, it]) (fun b ob hb q => (sb.2 b (fun z => hb (by simp [z]))).trans (k b ob (fun z => hb (by simp [z])) (fun z => hb (by simp [z])) q)) hf (Nat.le_refl _)
        ⟨(show 2 ≤ sizeLine by decide), [.int i tk, x'], .cons ⟨_, rfl⟩ (.cons ru .nil), ⟨_, new2, rfl, _, rfl⟩⟩
    refine ⟨.ref s.heap.objs.size, _, J, rfl, ⟨_, x, rfl, I.hok.fresh (Nat.le_refl _), rfl, fun ys hy => by rw [I.tuple_inj hy hq]; exact hx⟩, ⟨⟨x', ?_⟩, st'.1.at fun o q => (sb.2 it hei.symm).trans q⟩, fun b hb => ?_⟩
    · rw [show ((i + 1 : Nat) : Int) = (i : Int) + 1 by omega]; exact z3
    · have lb : b < s.heap.objs.size := by
        cases hb with
        | head => exact le
        | tail _ hb => rw [List.mem_singleton.mp hb]; exact li
      rw [upd_ne (Nat.ne_of_lt lb)]
      exact (hf b hb).1
  done := by
    intro X e1 e2 e3 hc i pins s σ H E I hf st hg
    subst e1 e2 e3
    obtain ⟨⟨old, z1⟩, z2⟩ := st
    obtain ⟨xs, hq, hx⟩ := hg
    obtain ⟨its, rv, p, _⟩ := I.tuple hq
    have D := Draws.tuple (prog := X.prog) (w := X.w) (A := X.A.in1) (I.ok.hd hc) it a hai its.toArray
    have ei : i = its.toArray.size := by rw [List.size_toArray, ← rv.length, hx]
    rw [ei] at z2
    obtain ⟨f0, f1, f2, f3, f4, f5⟩ := hf it (by simp)
    exact wpAny_pyNext_enum_endD D z1 ⟨z2, p⟩ fun h' eb => ⟨rfl, I.turned (t' := s.toks) (fun b o hb q => eb b o hb q) f0 f1 f3 f4 f5⟩
  self := fun A i s Q E st h => by
    obtain ⟨⟨_, z⟩, _⟩ := st
    exact wpAny_pyIter_enum z h
def iEnumT (K : PySem.W.Frag) (ta : TA) : TI := fun σ H R => ta σ H fun vs H1 => ∃ a xs, vs = [.ref a] ∧ SqT K H1 a xs ∧ R (IteT K a) H1
theorem pi_enumT {X : Cx} {e : Expr} {ta : TA} {p pos tp : Pos} {elts : List Expr} {kk : Nat} (hg : Gl X "enumerate") (hm : X.mg "enumerate" = none) (ha : PA X [e] ta) (hs : starEach [e] X.env = [(false, eval e X.env)] := by rfl) :
    PI X (.Tuple elts kk tp) (.Call (.Name "enumerate" p) [e] [] pos) (iEnumT X.K ta) := by
  refine ⟨fun pins s σ H R I h => Call_ (ld_blt I hg hm boot_enumerate (PyProof.Rows.callWith_type1 (thn (ha.run pos pins s σ H _ I h) fun us s1 ⟨vs, H1, I1, r1, a, xs, ex, hq, q⟩ => ?_) hs rfl))⟩
  subst ex
  obtain ⟨u, rfl, ru⟩ := vals1 r1
  cases ru
  obtain ⟨its, rv, p', _⟩ := I1.tuple hq
  have la : a < s1.heap.objs.size := by
    obtain ⟨_, z, _⟩ := p'
    exact Heap.lt_size z
  refine call_enumT (show s1.heap.IsTuple a its.toArray from p') fun h' he hi sz k => wpAny_pyIter_enum he ?_
  refine ⟨s1.heap.objs.size + 1, [s1.heap.objs.size + 1, s1.heap.objs.size], _, _, H1, rfl, I1.kept (t' := s1.toks) k, turn_enumT a (s1.heap.objs.size + 1) s1.heap.objs.size (Nat.ne_of_lt (Nat.lt_succ_of_lt la)) (Nat.ne_of_lt la) (Nat.succ_ne_self _), ⟨⟨.none, he⟩, hi⟩, fun b hb => ?_, q⟩
  have ge : s1.heap.objs.size ≤ b := by
    cases hb with
    | head => exact Nat.le_succ _
    | tail _ hb => rw [List.mem_singleton.mp hb]; exact Nat.le_refl _
  exact I1.fpOk ge (I1.hok.fresh ge)
theorem walk_enumT {K : PySem.W.Frag} {a : Addr} {xs : List V} : Walk (IteT K a) xs.length (fun H => SqT K H a xs) (YPair (fun i => some (.int (i : Nat))) (fun i => xs[i]?)) := by
  refine ⟨fun i _ hi z => ⟨xs, xs[i], z, by simp [hi]⟩, fun _ z => ⟨xs, z, rfl⟩, fun i H v H' _ z y => ?_⟩
  obtain ⟨T, x, g1, g2, g3, g4⟩ := y
  exact ⟨T, .int (i : Nat), x, g1, g2, g3, rfl, g4 xs z⟩
end Kr

set_option Elab.async false
set_option linter.all false
set_option maxRecDepth 100000
set_option maxHeartbeats 4000000
/-! set(xs) of a list of ints. -/
namespace Kr
open PySem PySem.Spec PyProof.Rows L2 Kg Kd
abbrev emp (w : World) : Obj := { cls := .type "set", dict := none, data := .set #[] 0 (.fresh 0 0 (!w.params.followText "set-order")) }
section
variable {P : Program} {w : World} {A : Around} {E : Value → Shared → Prop} {s : Shared}
/-- the filling of the new set from a list -/
theorem set_fill {l : Addr} {items : Array Value} {ns : List Int} {R : Result → Shared → Prop} (hh : A.handled = none) (hl : s.heap.IsList l items) (hi : IntsAre items.toList ns) (hb : ns.length + 1 < scanBound)
    (h : ∀ h' tk c, SetR w h' s.heap.objs.size (fun j => decide (j ∈ ns)) c → c ≤ ns.length → (∀ b o, s.heap.get? b = some o → h'.get? b = some o) → R (.ok (.ret .none)) { s with heap := h', toks := tk }) :
    codeAny (model P w) A (.builtin "set.update.loop" ⟨[.ref s.heap.objs.size, .ref (s.heap.objs.size + 1)], []⟩) R { s with heap := (s.heap.push (emp w)).push { cls := .type "list_iterator", data := .fields #[.ref l, .int 0 0] } } := by
  have sz : items.size = ns.length := by rw [← Array.length_toList]; exact IntsAre.length hi
  obtain ⟨ol, zl, zc, nl, zd⟩ := hl
  have ll : l < s.heap.objs.size := Heap.lt_size zl
  have at1 : (s.heap.push (emp w)).get? s.heap.objs.size = some (emp w) := Heap.get?_push_size _ rfl
  have s1 : (s.heap.push (emp w)).objs.size = s.heap.objs.size + 1 := Heap.size_push ..
  have at2 := Heap.get?_push_size (s.heap.push (emp w)) (o := { cls := .type "list_iterator", data := .fields #[.ref l, .int 0 0] }) rfl
  rw [s1] at at2
  have keepL : ∀ b o, s.heap.get? b = some o → ((s.heap.push (emp w)).push { cls := .type "list_iterator", data := .fields #[.ref l, .int 0 0] }).get? b = some o := fun b o z => Heap.get?_push_of_some _ (Heap.get?_push_of_some _ z)
  have val : ∀ (i : Nat) (v : Value), items[i]? = some v → ∃ k t, ns[i]? = some k ∧ v = .int k t := by
    intro i v z
    have lt : i < ns.length := sz ▸ (Array.getElem?_eq_some_iff.mp z).1
    obtain ⟨t, e⟩ := IntsAre.int_at hi i v (by rw [Array.getElem?_toList]; exact z)
    rw [List.getD_eq_getElem?_getD, List.getElem?_eq_getElem lt] at e
    exact ⟨ns[i], t, List.getElem?_eq_getElem lt, e⟩
  have W := (Walks.list (prog := P) (w := w) (A := A.in1) hh (s.heap.objs.size + 1) l (Nat.ne_of_lt (Nat.lt_succ_of_lt ll)) items).toS
  have nS : s.heap.objs.size ∉ [s.heap.objs.size + 1, l] := by
    intro z
    rcases List.mem_cons.mp z with z | z
    · exact Nat.ne_of_lt (Nat.lt_succ_self _) z
    · exact Nat.ne_of_gt ll (List.mem_singleton.mp z)
  refine set_update_ints W s.heap.objs.size nS ns sz hb val (items.size - 0) 0 { s with heap := (s.heap.push (emp w)).push { cls := .type "list_iterator", data := .fields #[.ref l, .int 0 0] } } rfl (Nat.zero_le _)
    ⟨⟨_, at2, rfl, rfl⟩, ⟨ol, keepL l ol zl, zc, nl, zd⟩⟩ ⟨0, Nat.le_refl 0, setR_new_at (Heap.get?_push_of_some _ at1)⟩ fun s' c mv hc hS => ?_
  obtain ⟨h', g', d', t', o'⟩ := s'
  have e1 : g' = s.gens := mv.gens
  have e2 : d' = s.drawn := mv.drawn
  have e3 : o' = s.os := mv.os
  subst e1 e2 e3
  refine h h' t' c hS (by omega) fun b o z => mv.heap b o (fun y => ?_) (keepL b o z)
  have lb := Heap.lt_size z
  rcases List.mem_cons.mp y with y | y
  · exact Nat.ne_of_lt lb y
  · exact Nat.ne_of_lt (Nat.lt_succ_of_lt lb) (List.mem_singleton.mp y)
set_option maxHeartbeats 3200000 in
theorem call_setL {l : Addr} {items : Array Value} {ns : List Int} {Q : Value → Shared → Prop} (hh : A.handled = none) (hl : s.heap.IsList l items) (hi : IntsAre items.toList ns) (hb : ns.length + 1 < scanBound)
    (h : ∀ h' tk c, SetR w h' s.heap.objs.size (fun j => decide (j ∈ ns)) c → c ≤ ns.length → (∀ b o, s.heap.get? b = some o → h'.get? b = some o) → Q (.ref s.heap.objs.size) { s with heap := h', toks := tk }) :
    wpAny (model P w) A (call (.type "set") [.ref l]) Q E s := by
  obtain ⟨c0, tl, mro⟩ := F.called_set.mro
  have made := F.called_set.made
  have sub0 := F.called_set.sub
  have nt := F.called_set.notType
  have cc := F.called_set.canCreate
  have tc := F.typeCall_set_1 (.ref l)
  refine wpAny_call (codeAny_of_tree ?_)
  show wpAny _ _ (callAny (.type "set") _) _ _ _
  refine wpAny_pure ⟨Code.quiet_builtin _ (by decide +kernel), codeAny_builtin F.entry_type_call ?_⟩
  rw [Around.under_plain (weight_type_call_type "set" [.ref l] []) rfl]
  repeat (any_goals (first | assumption | wp_step))
  refine codeAny_mono (code_set_led1 (.ref l) (E := E) (Q₁ := fun ob s₁ => ob = .ref s.heap.objs.size ∧ s₁ = { s with heap := s.heap.push (emp w) }) ⟨rfl, rfl⟩) fun r s₁ hr => ?_
  match r, hr with
  | .error e, hr => exact hr
  | .ok .next, hr => exact hr.elim
  | .ok .brk, hr => exact hr.elim
  | .ok .cont, hr => exact hr.elim
  | .ok (.ret ob), hr =>
    obtain ⟨rfl, rfl⟩ := hr
    have at1 : (s.heap.push (emp w)).get? s.heap.objs.size = some (emp w) := Heap.get?_push_size _ rfl
    have ty : Shared.TypeIs { s with heap := s.heap.push (emp w) } (.ref s.heap.objs.size) "set" := ⟨_, at1, rfl⟩
    have il := F.called_set.init.lookup
    have ib := F.called_set.init.bind (.ref s.heap.objs.size)
    repeat (any_goals (first | assumption | wp_step))
    refine codeAny_mono (codeAny_call_builtin (R := wants (fun r s₂ => r = .none ∧ ∃ h' tk c, s₂ = { s with heap := h', toks := tk } ∧ SetR w h' s.heap.objs.size (fun j => decide (j ∈ ns)) c ∧ c ≤ ns.length ∧ ∀ b o, s.heap.get? b = some o → h'.get? b = some o) E)
      F.called_set.init.plain F.entry_set_init (check_set_init_1 ty ?_)) fun r₂ s₂ hr₂ => ?_
    · obtain ⟨⟨oc, od, dt, sl⟩, zl, zc, nl, zd⟩ := id hl
      have zc' : oc = .type "list" := zc
      have zd' : dt = .seq items nl := zd
      subst zc' zd'
      have zl' : (s.heap.push (emp w)).get? l = some { cls := .type "list", dict := od, data := .seq items nl, slots := sl } := Heap.get?_push_of_some _ zl
      have n1 := F.sub_list_set
      have n2 := F.sub_list_frozenset
      have n3 : (Value.type "list" == Value.type "dict") = false := by decide
      unfold Builtin.«set.__init__» noKeywords Builtin.Frozenset.updateFrom
      generalize hPI : pyIter = PI
      wp_walk
      subst hPI
      refine wpAny_pyIter_list (items := items) ⟨_, zl', rfl, nl, rfl⟩ ?_
      refine wpAny_bind (wpAny_runValue ?_)
      have e1 : (s.heap.push (emp w)).objs.size = s.heap.objs.size + 1 := Heap.size_push ..
      rw [e1]
      refine set_fill (s := s) (hh := by simp [hh]) hl hi hb fun h' tk c hS hc hk => ?_
      show wpAny _ _ _ _ _ _
      exact wpAny_pure (wpAny_pure ⟨rfl, h', tk, c, rfl, hS, hc, hk⟩)
    · match r₂, hr₂ with
      | .error e, hr₂ => exact hr₂
      | .ok .next, hr₂ => exact hr₂.elim
      | .ok .brk, hr₂ => exact hr₂.elim
      | .ok .cont, hr₂ => exact hr₂.elim
      | .ok (.ret _), hr₂ =>
        obtain ⟨rfl, h', tk, c, rfl, hS, hc, hk⟩ := hr₂
        repeat (any_goals (first | assumption | wp_step))
        exact h _ _ _ hS hc hk
end
/-- set(xs): a list or a tuple of ints -/
def rSetI (K : PySem.W.Frag) (w : World) : List V → Hp → VK → Prop := fun xs H Q => ∃ (l : Addr) (ns : List Int), xs = [.ref l] ∧ (SqL K H l (ns.map V.int) ∨ SqT K H l (ns.map V.int)) ∧ ns.length ≤ 1000 ∧
  ∀ p c, H p = none → c ≤ ns.length → Q (.ref p) (upd H p (SetO w p (fun j => decide (j ∈ ns)) c))
theorem cr_setI {X : Cx} (hc : X.calm = true) : CallR X (.type "set") (rSetI X.K X.w) := by
  intro pins s σ H xs us Q I r h
  obtain ⟨l, ns, rfl, hq, hl, q⟩ := h
  obtain ⟨u, rfl, ru⟩ := vals1 r
  cases ru
  have room : ns.length + 1 < scanBound := by unfold scanBound; omega
  have fin : ∀ (h' : Heap) (tk c : Nat), SetR X.w h' s.heap.objs.size (fun j => decide (j ∈ ns)) c → c ≤ ns.length → (∀ b o, s.heap.get? b = some o → h'.get? b = some o) → EP X pins σ Q (.ref s.heap.objs.size) { s with heap := h', toks := tk } := by
    intro h' tk c hS hc hk
    exact ⟨.ref s.heap.objs.size, _, I.laid (t' := tk) hk (Nat.le_refl _) (setO_new hS), rfl, q _ c (I.hok.fresh (Nat.le_refl _)) hc⟩
  rcases hq with hq | hq
  · obtain ⟨its, rv, p, _⟩ := I.list hq
    exact call_setL (I.ok.hd hc) p.isList (by simpa using RZ.intsAre_vals rv) room fin
  · obtain ⟨its, rv, p, _⟩ := I.tuple hq
    exact call_set_tupI ns (I.ok.hd hc) (show s.heap.IsTuple l its.toArray from p) (by simpa using RZ.intsAre_vals rv) room fin
end Kr

set_option Elab.async false
set_option linter.all false
set_option maxRecDepth 100000
set_option maxHeartbeats 4000000
/-! Things that never change once they stand: tuples, made objects. -/
namespace Kf
open PySem PySem.Spec PyProof.Rows L2 Kg Kd
/-- what never changes -/
def Fz : HO → Prop
  | .tup _ => True
  | .ins _ _ _ => True
  | .own _ => True
  | _ => False
/-- all tuples and objects stand as they were -/
def KF (H H' : Hp) : Prop := ∀ a o, H a = some o → Fz o → H' a = some o
theorem KF.refl (H : Hp) : KF H H := fun _ _ h _ => h
theorem KF.trans {H H1 H2 : Hp} (a : KF H H1) (b : KF H1 H2) : KF H H2 := fun c o h f => b c o (a c o h f) f
theorem KF.of_same {H H' : Hp} (s : Same H H') : KF H H' := fun c o h _ => s c o h
theorem KF.put {H : Hp} {l : Addr} {o u : HO} (h : H l = some o) (n : ¬ Fz o) : KF H (upd H l u) := fun a x e f => by
  rw [upd_ne (fun z => n (by rw [z, h] at e; rw [Option.some.inj e]; exact f))]; exact e
theorem KF.putL {H : Hp} {l : Addr} {xs : List V} {u : HO} (h : H l = some (.lst xs)) : KF H (upd H l u) := KF.put h (fun z => z)
theorem KF.new {H : Hp} {l : Addr} {u : HO} (h : H l = none) : KF H (upd H l u) := .of_same (same_new h)
theorem KF.tup {H H' : Hp} (k : KF H H') {a : Addr} {xs : List V} (h : H a = some (.tup xs)) : H' a = some (.tup xs) := k a _ h trivial
theorem KF.ins {H H' : Hp} (k : KF H H') {a C dx : Addr} {fs : List (Str × V)} (h : H a = some (.ins C dx fs)) : H' a = some (.ins C dx fs) := k a _ h trivial
mutual
inductive Tu (H : Hp) : V → PyData → Prop
  | non : Tu H .non .none
  | bl (b : Bool) : Tu H (.bl b) (.bool b)
  | int (i : Int) : Tu H (.int i) (.int i)
  | str (x : Str) : Tu H (.str x) (.str x)
  | tup {a : Addr} {xs : List V} {ds : List PyData} : H a = some (.tup xs) → xs.length ≤ 1000 → TuAll H xs ds → Tu H (.ref a) (.tuple ds)
inductive TuAll (H : Hp) : List V → List PyData → Prop
  | nil : TuAll H [] []
  | cons {v : V} {vs : List V} {d : PyData} {ds : List PyData} : Tu H v d → TuAll H vs ds → TuAll H (v :: vs) (d :: ds)
end
mutual
theorem Tu.keep {H H' : Hp} (k : KF H H') : ∀ {v : V} {d : PyData}, Tu H v d → Tu H' v d
  | _, _, .non => .non
  | _, _, .bl b => .bl b
  | _, _, .int i => .int i
  | _, _, .str x => .str x
  | _, _, .tup h z r => .tup (k.tup h) z (TuAll.keep k r)
theorem TuAll.keep {H H' : Hp} (k : KF H H') : ∀ {vs : List V} {ds : List PyData}, TuAll H vs ds → TuAll H' vs ds
  | _, _, .nil => .nil
  | _, _, .cons h r => .cons (Tu.keep k h) (TuAll.keep k r)
end
theorem Tu.same {H H' : Hp} {v : V} {d : PyData} (h : Tu H v d) (k : Same H H') : Tu H' v d := h.keep (.of_same k)
mutual
theorem Tu.da {H : Hp} : ∀ {v : V} {d : PyData}, Tu H v d → Da Kd.nil H v d
  | _, _, .non => .non
  | _, _, .bl b => .bl b
  | _, _, .int i => .int i
  | _, _, .str x => .str x
  | _, _, .tup h z r => .tup (fun z => z) h z (TuAll.da r)
theorem TuAll.da {H : Hp} : ∀ {vs : List V} {ds : List PyData}, TuAll H vs ds → DaAll Kd.nil H vs ds
  | _, _, .nil => .nil
  | _, _, .cons h r => .cons (Tu.da h) (TuAll.da r)
end
mutual
theorem Tu.dp {K : PySem.W.Frag} {H : Hp} : ∀ {v : V} {d : PyData}, Tu H v d → Dp K H v d
  | _, _, .non => .non
  | _, _, .bl b => .bl b
  | _, _, .int i => .int i
  | _, _, .str x => .str x
  | _, _, .tup h z r => .tup (SqT.of h) (TuAll.dp r)
theorem TuAll.dp {K : PySem.W.Frag} {H : Hp} : ∀ {vs : List V} {ds : List PyData}, TuAll H vs ds → DpAll K H vs ds
  | _, _, .nil => .nil
  | _, _, .cons h r => .cons (Tu.dp h) (TuAll.dp r)
end
theorem TuAll.length {H : Hp} : ∀ {vs : List V} {ds : List PyData}, TuAll H vs ds → vs.length = ds.length
  | _, _, .nil => rfl
  | _, _, .cons _ r => congrArg (· + 1) (TuAll.length r)
theorem TuAll.get {H : Hp} : ∀ {vs : List V} {ds : List PyData} {i : Nat} {v : V}, TuAll H vs ds → vs[i]? = some v → ∃ d, ds[i]? = some d ∧ Tu H v d
  | _, _, _, _, .nil, e => by simp at e
  | _, _, 0, _, .cons h _, e => ⟨_, rfl, by simp at e; rw [← e]; exact h⟩
  | _, _, i + 1, v, .cons _ r, e => by
    obtain ⟨d, h1, h2⟩ := TuAll.get (i := i) (v := v) r (by simpa using e)
    exact ⟨d, by simpa using h1, h2⟩
theorem TuAll.get' {H : Hp} : ∀ {vs : List V} {ds : List PyData} {i : Nat} {d : PyData}, TuAll H vs ds → ds[i]? = some d → ∃ v, vs[i]? = some v ∧ Tu H v d
  | _, _, _, _, .nil, e => by simp at e
  | _, _, 0, _, .cons h _, e => ⟨_, rfl, by simp at e; rw [← e]; exact h⟩
  | _, _, i + 1, d, .cons _ r, e => by
    obtain ⟨d, h1, h2⟩ := TuAll.get' (i := i) (d := d) r (by simpa using e)
    exact ⟨d, by simpa using h1, h2⟩
theorem TuAll.append {H : Hp} : ∀ {vs us : List V} {ds es : List PyData}, TuAll H vs ds → TuAll H us es → TuAll H (vs ++ us) (ds ++ es)
  | _, _, _, _, .nil, h => h
  | _, _, _, _, .cons a r, h => .cons a (TuAll.append r h)
/-! ### numbers -/
def iV (n : Nat) : V := .int (n : Nat)
def iD (n : Nat) : PyData := .int (n : Nat)
/-- a tuple of kinds, as data -/
def pdI (l : List Nat) : PyData := .tuple (l.map iD)
/-- elders, as data -/
def pdE (es : List (List Nat)) : PyData := .tuple (es.map pdI)
theorem tus_ints {H : Hp} : ∀ l : List Nat, TuAll H (l.map iV) (l.map iD)
  | [] => .nil
  | n :: l => .cons (.int (n : Nat)) (tus_ints l)
theorem tus_inv {H : Hp} : ∀ {l : List Nat} {vs : List V}, TuAll H vs (l.map iD) → vs = l.map iV
  | [], _, .nil => rfl
  | n :: l, _, .cons h r => by
    cases h
    rw [tus_inv r]; rfl
theorem tu_ints {H : Hp} {a : Addr} {l : List Nat} (h : H a = some (.tup (l.map iV))) (hl : l.length ≤ 1000) : Tu H (.ref a) (pdI l) := .tup h (by rw [List.length_map]; exact hl) (tus_ints l)
theorem tu_inv {H : Hp} {v : V} {l : List Nat} (h : Tu H v (pdI l)) : ∃ a, v = .ref a ∧ H a = some (.tup (l.map iV)) ∧ l.length ≤ 1000 := by
  unfold pdI at h
  cases h with
  | @tup a xs _ h1 h2 h3 =>
    have e := tus_inv h3
    subst e
    exact ⟨a, rfl, h1, by rwa [List.length_map] at h2⟩
theorem map_iV (l : List Nat) : l.map iV = (l.map fun n => ((n : Nat) : Int)).map V.int := by rw [List.map_map]; rfl
/-! ### the order -/
theorem asc_uniq : ∀ {l m : List Nat}, l.Pairwise (· < ·) → m.Pairwise (· < ·) → (∀ x, x ∈ l ↔ x ∈ m) → l = m
  | [], [], _, _, _ => rfl
  | [], b :: m, _, _, h => absurd ((h b).mpr (List.mem_cons_self ..)) (by simp)
  | a :: l, [], _, _, h => absurd ((h a).mp (List.mem_cons_self ..)) (by simp)
  | a :: l, b :: m, hl, hm, h => by
    rw [List.pairwise_cons] at hl hm
    have e : a = b := by
      rcases List.mem_cons.mp ((h a).mp (List.mem_cons_self ..)) with z | z
      · exact z
      · rcases List.mem_cons.mp ((h b).mpr (List.mem_cons_self ..)) with y | y
        · exact y.symm
        · have := hm.1 a z; have := hl.1 b y; omega
    subst e
    congr 1
    refine asc_uniq hl.2 hm.2 fun x => ⟨fun z => ?_, fun z => ?_⟩
    · rcases List.mem_cons.mp ((h x).mp (List.mem_cons_of_mem _ z)) with y | y
      · have := hl.1 x z; omega
      · exact y
    · rcases List.mem_cons.mp ((h x).mpr (List.mem_cons_of_mem _ z)) with y | y
      · have := hm.1 x z; omega
      · exact y
theorem asc_len : ∀ {l : List Nat} {n lo : Nat}, l.Pairwise (· < ·) → (∀ x ∈ l, lo ≤ x ∧ x < n) → l.length ≤ n - lo
  | [], _, _, _, _ => by simp
  | a :: l, n, lo, hl, h => by
    rw [List.pairwise_cons] at hl
    have z := asc_len (l := l) (n := n) (lo := a + 1) hl.2 (fun x hx => ⟨hl.1 x hx, (h x (List.mem_cons_of_mem _ hx)).2⟩)
    have y := h a (List.mem_cons_self ..)
    rw [List.length_cons]; omega
theorem rg_filter {n : Nat} {p : Nat → Bool} : ((List.range n).filter p).Pairwise (· < ·) := (List.pairwise_lt_range (n := n)).filter _
/-- ints from 0 on are numbers -/
theorem to_nats : ∀ {l : List Int}, (∀ x ∈ l, 0 ≤ x) → ∃ m : List Nat, l = m.map (fun n => ((n : Nat) : Int))
  | [], _ => ⟨[], rfl⟩
  | a :: l, h => by
    obtain ⟨m, e⟩ := to_nats (l := l) (fun x hx => h x (List.mem_cons_of_mem _ hx))
    have := h a (List.mem_cons_self ..)
    exact ⟨a.toNat :: m, by rw [e, List.map_cons]; congr 1; omega⟩
theorem asc_map {m : List Nat} (h : (m.map (fun n => ((n : Nat) : Int))).Pairwise (· < ·)) : m.Pairwise (· < ·) := by
  rw [List.pairwise_map] at h
  exact h.imp (fun z => by omega)
/-! ### kinds -/
/-- whether k lies under j -/
def abv (es : List (List Nat)) (k : Nat) (j : Nat) : Bool := decide (j = k) || (es.getD k []).attach.any (fun e => if h : e.1 < k then abv es e.1 j else false)
termination_by k
theorem abv_eq (es : List (List Nat)) (k j : Nat) : abv es k j = true ↔ j = k ∨ ∃ e ∈ es.getD k [], e < k ∧ abv es e j = true := by
  rw [abv, Bool.or_eq_true, decide_eq_true_iff, List.any_eq_true]
  constructor
  · rintro (h | ⟨⟨e, he⟩, _, h2⟩)
    · exact .inl h
    · by_cases c : e < k
      · rw [dif_pos c] at h2; exact .inr ⟨e, he, c, h2⟩
      · rw [dif_neg c] at h2; exact nomatch h2
  · rintro (h | ⟨e, he, c, h2⟩)
    · exact .inl h
    · exact .inr ⟨⟨e, he⟩, List.mem_attach .., by rw [dif_pos c]; exact h2⟩
theorem abv_le (es : List (List Nat)) : ∀ k j, abv es k j = true → j ≤ k := by
  intro k
  induction k using Nat.strongRecOn with
  | _ k ih =>
    intro j h
    rcases (abv_eq es k j).mp h with h | ⟨e, _, c, h⟩
    · omega
    · have := ih e c j h; omega
/-- the kinds under which k lies -/
def lot (es : List (List Nat)) (k : Nat) : List Nat := (List.range es.length).filter (abv es k)
theorem lot_mem {es : List (List Nat)} {k j : Nat} (hk : k < es.length) : j ∈ lot es k ↔ abv es k j = true := by
  unfold lot
  rw [List.mem_filter, List.mem_range]
  exact ⟨fun h => h.2, fun h => ⟨by have := abv_le es k j h; omega, h⟩⟩
theorem lot_asc (es : List (List Nat)) (k : Nat) : (lot es k).Pairwise (· < ·) := rg_filter
theorem lot_len (es : List (List Nat)) (k : Nat) : (lot es k).length ≤ es.length := by
  unfold lot
  have := List.length_filter_le (abv es k) (List.range es.length)
  rwa [List.length_range] at this
/-- right elders -/
structure Eld (es : List (List Nat)) (sv : Bool) : Prop where
  lo : 1 ≤ es.length
  hi : es.length ≤ 6
  asc : ∀ (k : Nat) (l : List Nat), es[k]? = some l → l.Pairwise (· < ·)
  low : ∀ (k : Nat) (l : List Nat), es[k]? = some l → ∀ x ∈ l, x < k
  one : ∀ (k : Nat) (l : List Nat), es[k]? = some l → sv = false → l.length ≤ 1
/-- right closed or hollow kinds -/
structure Som (n : Nat) (l : List Nat) : Prop where
  asc : l.Pairwise (· < ·)
  low : ∀ x ∈ l, x < n
theorem Som.len {n : Nat} {l : List Nat} (h : Som n l) : l.length ≤ n := by
  have := asc_len (lo := 0) h.asc (fun x hx => ⟨Nat.zero_le _, h.low x hx⟩)
  omega
theorem Som.filter {n : Nat} {p : Nat → Bool} : Som n ((List.range n).filter p) := ⟨rg_filter, fun x hx => List.mem_range.mp (List.mem_filter.mp hx).1⟩
theorem Eld.som {es : List (List Nat)} {sv : Bool} (h : Eld es sv) {k : Nat} {l : List Nat} (e : es[k]? = some l) : Som k l := ⟨h.asc k l e, h.low k l e⟩
end Kf

set_option Elab.async false
set_option linter.all false
set_option maxRecDepth 100000
set_option maxHeartbeats 4000000
/-! sorted: tuples of ints of any lengths, pairs of an int and such a tuple, sets of such tuples. -/
namespace Ku
open PySem PySem.Spec PyProof.Rows L2 Kg Kd SrtO Srt
/-! ### the order of tuples -/
abbrev lx := HT.lexLt
theorem lx_cons (x y : Int) (xs ys : List Int) : lx (x :: xs) (y :: ys) = if x = y then lx xs ys else decide (x < y) := rfl
theorem lx_irrefl : ∀ l : List Int, lx l l = false
  | [] => rfl
  | a :: l => by rw [lx_cons, if_pos rfl]; exact lx_irrefl l
theorem lx_tri : ∀ l m : List Int, l = m ∨ lx l m = true ∨ lx m l = true
  | [], [] => .inl rfl
  | [], _ :: _ => .inr (.inl rfl)
  | _ :: _, [] => .inr (.inr rfl)
  | a :: l, b :: m => by
    rw [lx_cons, lx_cons]
    rcases Int.lt_trichotomy a b with h | h | h
    · exact .inr (.inl (by rw [if_neg (by omega)]; exact decide_eq_true h))
    · subst h
      rw [if_pos rfl, if_pos rfl]
      rcases lx_tri l m with e | e | e
      · exact .inl (by rw [e])
      · exact .inr (.inl e)
      · exact .inr (.inr e)
    · exact .inr (.inr (by rw [if_neg (by omega)]; exact decide_eq_true h))
theorem lx_trans : ∀ {l m n : List Int}, lx l m = true → lx m n = true → lx l n = true
  | [], [], _, h, _ => nomatch h
  | [], _ :: _, [], _, h => nomatch h
  | [], _ :: _, _ :: _, _, _ => rfl
  | _ :: _, [], _, h, _ => nomatch h
  | _ :: _, _ :: _, [], _, h => nomatch h
  | a :: l, b :: m, c :: n, h, k => by
    rw [lx_cons] at h k ⊢
    by_cases e : a = b
    · rw [if_pos e] at h
      by_cases e2 : b = c
      · rw [if_pos e2] at k
        rw [if_pos (by omega)]
        exact lx_trans h k
      · rw [if_neg e2] at k
        rw [if_neg (by omega)]
        exact decide_eq_true (by have := of_decide_eq_true k; omega)
    · rw [if_neg e] at h
      have h' := of_decide_eq_true h
      by_cases e2 : b = c
      · rw [if_neg (by omega)]; exact decide_eq_true (by omega)
      · rw [if_neg e2] at k
        have k' := of_decide_eq_true k
        rw [if_neg (by omega)]; exact decide_eq_true (by omega)
theorem lx_asym {l m : List Int} (h : lx l m = true) : lx m l = false := by
  cases e : lx m l with
  | false => rfl
  | true => have := lx_trans h e; rw [lx_irrefl] at this; cases this
theorem swo_lx {α : Type} (k : α → List Int) : Swo fun v u => lx (k v) (k u) := by
  refine ⟨fun x y h => lx_asym h, fun x y z h1 h2 => ?_⟩
  cases e : lx (k z) (k x) with
  | false => rfl
  | true =>
    rcases lx_tri (k y) (k x) with g | g | g
    · rw [g, e] at h2; cases h2
    · rw [g] at h1; cases h1
    · have := lx_trans e g; rw [h2] at this; cases this
/-- first the int, then the tuple -/
def lp (p q : Int × List Int) : Bool := lx (p.1 :: p.2) (q.1 :: q.2)
theorem swo_lp {α : Type} (k : α → Int × List Int) : Swo fun v u => lp (k v) (k u) := swo_lx fun v => (k v).1 :: (k v).2
section
variable {prog : Program} {w : World} {A : Around} {E : Value → Shared → Prop} {s : Shared} {Q : Bool → Shared → Prop}
theorem lex_var {b : Bool} : ∀ {xs ys : List Value} {ns ms : List Int} (i : Nat) (fin : Bool), IntsAre xs ns → IntsAre ys ms → fin = decide (ns.length < ms.length) → Q (lx ns ms) s → PySem.W.KatLex prog w A b fin Q (xs.zip ys) i s
  | _, _, _, _, i, fin, .nil, .nil, e, h => PySem.W.kat_nil (by rw [e]; exact h)
  | _, _, _, _, i, fin, .nil, .cons _ _ _, e, h => PySem.W.kat_nil (by rw [e]; exact h)
  | _, _, _, _, i, fin, .cons _ _ _, .nil, e, h => PySem.W.kat_nil (by rw [e]; exact h)
  | _, _, _, _, i, fin, .cons (vs := xs) (ns := ns) x t r, .cons (vs := ys) (ns := ms) y u q, e, h => by
    rw [lx_cons] at h
    refine PySem.W.kat_cons (SeqAt.EqAt.int_int x t y u prog w _ _ ?_)
    refine PySem.W.kat_go (fun e1 => ?_) (fun e1 => ?_)
    · have ex : x = y := by simpa using e1
      rw [if_pos ex] at h
      exact PySem.W.kat_yes (lex_var (i + 1) fin r q (by rw [e]; simp) h)
    · have ex : ¬ x = y := by simpa using e1
      rw [if_neg ex] at h
      exact PySem.W.kat_no (TS.oneLt_ints _ h)
theorem tup_cmp {vs : List Value} {k : Value → List Int} (hp : ∀ v ∈ vs, TS.TupInts s.heap v (k v)) : SrtO.Cmp prog w A s (tuples' true) (fun p => p.1 ∈ vs) (lt2 fun v u => lx (k v) (k u)) := by
  intro p q hm hm'
  obtain ⟨a, xs, e, ⟨o, ho, hc, n, hd⟩, i1⟩ := hp _ hm
  obtain ⟨a', ys, e', ⟨o', ho', hc', n', hd'⟩, i2⟩ := hp _ hm'
  show wpAny (model prog w) A (keyLt' (tuples' true) p.1 q.1) (fun r s' => s' = s ∧ r = lx (k p.1) (k q.1)) (fun _ _ => False) s
  generalize k p.1 = ns at i1 ⊢
  generalize k q.1 = ms at i2 ⊢
  rw [e, e']
  refine PySem.W.kat_lt ho hd ho' hd' (lex_var 0 _ i1 i2 ?_ ⟨rfl, rfl⟩)
  have l1 := i1.length
  have l2 := i2.length
  rw [Array.length_toList] at l1 l2
  rw [l1, l2]
theorem firsts_tup {h : Heap} {k : Value → List Int} : ∀ vs : List Value, (∀ v ∈ vs, TS.TupInts h v (k v) ∧ k v ≠ []) → ∃ fs, PySem.W.KatTups h vs fs ∧ fs.length = vs.length ∧ ∀ f, f ∈ fs → ∃ n t, f = Value.int n t
  | [], _ => ⟨[], PySem.W.KatTups.nil, rfl, fun f hf => by simp at hf⟩
  | v :: vs, x => by
    obtain ⟨fs, kk, hl, hi⟩ := firsts_tup vs fun u hu => x u (List.mem_cons_of_mem _ hu)
    obtain ⟨⟨a, xs, rfl, ⟨o, ho, hc, n, hdt⟩, i⟩, hn⟩ := x v (List.mem_cons_self ..)
    obtain ⟨y, ys, e⟩ : ∃ y ys, xs.toList = y :: ys := by
      cases q : xs.toList with
      | nil => rw [q] at i; generalize k (.ref a) = kk at i hn; cases i; exact absurd rfl hn
      | cons y ys => exact ⟨y, ys, rfl⟩
    obtain ⟨m, t, hy⟩ := i.all y (by rw [e]; exact List.mem_cons_self ..)
    refine ⟨y :: fs, PySem.W.KatTups.cons ho hc hdt ?_ kk, by simp [hl], ?_⟩
    · have z := congrArg (fun l : List Value => l[0]?) e
      simpa using z
    · intro f hf
      rcases List.mem_cons.mp hf with rfl | hf
      · exact ⟨m, t, hy⟩
      · exact hi f hf
theorem tups_sortable {a : Addr} {vs : List Value} {k : Value → List Int} (h0 : 0 < vs.length) (hp : ∀ v ∈ vs, TS.TupInts s.heap v (k v) ∧ k v ≠ []) (ha : ∀ o, s.heap.get? a = some o → o.cls ≠ .type "tuple") : SortableO prog w A s a vs fun v u => lx (k v) (k u) := by
  intro h' keep
  have hp' : ∀ v ∈ vs, TS.TupInts h' v (k v) ∧ k v ≠ [] := fun v hm => ⟨(hp v hm).1.keeps fun b o e c => keep b o (fun z => by subst z; exact ha o e c) e, (hp v hm).2⟩
  obtain ⟨fs, h1, h2, h3⟩ := firsts_tup vs hp'
  refine ⟨tuples' true, fun Q E hq => ?_, tup_cmp fun v hv => (hp' v hv).1⟩
  refine PySem.W.kat_kind (T := .type "int") h1 (by omega) (fun f hm => ?_) (by rfl) ?_
  · obtain ⟨x, t, rfl⟩ := h3 f hm
    exact PySem.W.Looks.now
  · have e : (Value.type "int" != Value.type "tuple") = true := by first | decide +kernel | rfl | decide
    rw [e]
    exact hq
theorem reads_ints {h : Heap} : ∀ {vs : List Value} {ns : List Int}, IntsAre vs ns → ∃ as, ReadsAll h vs (ns.map PyData.int) as
  | _, _, .nil => ⟨_, .nil⟩
  | _, _, .cons x t r => by
    obtain ⟨as, q⟩ := reads_ints r
    exact ⟨_, .cons (.int x t) q⟩
theorem reads_tup {h : Heap} {v : Value} {ns : List Int} (x : TS.TupInts h v ns) : ∃ as, Reads h v (.tuple (ns.map PyData.int)) as := by
  obtain ⟨a, xs, rfl, ⟨o, ho, hc, n, hd⟩, i⟩ := x
  obtain ⟨as, q⟩ := reads_ints (h := h) i
  exact ⟨_, .tuple ho hc hd q⟩
theorem lay_ints : ∀ xs : List Int, PyData.canLayAll0 (xs.map PyData.int) = true
  | [] => rfl
  | x :: r => by
    show (PyData.canLay0 (.int x) && PyData.canLayAll0 (r.map PyData.int)) = true
    rw [lay_ints r]; rfl
theorem dep_ints : ∀ xs : List Int, PyData.depthAll (xs.map PyData.int) = 0
  | [] => rfl
  | x :: r => by
    show max (PyData.depth (.int x)) (PyData.depthAll (r.map PyData.int)) = 0
    rw [dep_ints r]; rfl
theorem eqv_ints : ∀ l m : List Int, PyData.eqvAll (l.map PyData.int) (m.map PyData.int) = decide (l = m)
  | [], [] => by simp [PyData.eqvAll]
  | [], _ :: _ => by simp [PyData.eqvAll]
  | _ :: _, [] => by simp [PyData.eqvAll]
  | a :: l, b :: m => by
    have z := eqv_ints l m
    simp only [List.map_cons, PyData.eqvAll, z, PyData.eqv]
    by_cases h : a = b
    · subst h; simp
    · simp [h]
theorem eqAt_tup {v u : Value} {ns ms : List Int} (x : TS.TupInts s.heap v ns) (y : TS.TupInts s.heap u ms) (hu : A.units + 1 < cLine) : SeqAt.EqAt A s v u (decide (ns = ms)) := by
  obtain ⟨as, r1⟩ := reads_tup x
  obtain ⟨bs, r2⟩ := reads_tup y
  have z := SeqAt.eqAt_reads _ _ A s v u as bs r1 r2 (lay_ints ns) (lay_ints ms) (by
    show A.units + min (PyData.depthAll (ns.map PyData.int) + 1) (PyData.depthAll (ms.map PyData.int) + 1) < cLine
    rw [dep_ints, dep_ints]; exact hu)
  rw [PyData.eqv, eqv_ints] at z
  exact z
/-- a pair of an int and a tuple of ints -/
def IsNT (h : Heap) (v : Value) (p : Int × List Int) : Prop := ∃ a o t b n, v = .ref a ∧ h.get? a = some o ∧ o.cls = .type "tuple" ∧ o.data = .seq #[.int p.1 t, .ref b] n ∧ TS.TupInts h (.ref b) p.2
theorem IsNT.keeps {h h' : Heap} {v : Value} {p : Int × List Int} (x : IsNT h v p) (k : ∀ b o, h.get? b = some o → o.cls = .type "tuple" → h'.get? b = some o) : IsNT h' v p := by
  obtain ⟨a, o, t, b, n, e, ho, hc, hd, y⟩ := x
  exact ⟨a, o, t, b, n, e, k _ _ ho hc, hc, hd, y.keeps k⟩
theorem nt_cmp {vs : List Value} {k : Value → Int × List Int} (hu : A.units + 1 < cLine) (hp : ∀ v ∈ vs, IsNT s.heap v (k v)) : SrtO.Cmp prog w A s (tuples' true) (fun p => p.1 ∈ vs) (lt2 fun v u => lp (k v) (k u)) := by
  intro p q hm hm'
  have h1 := hp _ hm
  have h2 := hp _ hm'
  show wpAny (model prog w) A (keyLt' (tuples' true) p.1 q.1) (fun r s' => s' = s ∧ r = lp (k p.1) (k q.1)) (fun _ _ => False) s
  generalize k p.1 = x at h1 ⊢
  generalize k q.1 = y at h2 ⊢
  obtain ⟨a, o, t, b, n, e, ho, hc, hd, hb⟩ := h1
  obtain ⟨a', o', t', b', n', e', ho', hc', hd', hb'⟩ := h2
  rw [e, e']
  refine PySem.W.kat_lt ho hd ho' hd' ?_
  show PySem.W.KatLex prog w A true (decide (2 < 2)) _ [(.int x.1 t, .int y.1 t'), (.ref b, .ref b')] 0 s
  refine PySem.W.kat_cons (SeqAt.EqAt.int_int x.1 t y.1 t' prog w _ _ ?_)
  refine PySem.W.kat_go (fun e1 => ?_) (fun e1 => ?_)
  · have ex : x.1 = y.1 := by simpa using e1
    have el : lp x y = lx x.2 y.2 := by unfold lp; rw [lx_cons, if_pos ex]
    rw [el]
    refine PySem.W.kat_yes (PySem.W.kat_cons (eqAt_tup hb hb' hu prog w _ _ ?_))
    refine PySem.W.kat_go (fun e2 => ?_) (fun e2 => ?_)
    · have ey := of_decide_eq_true e2
      exact PySem.W.kat_yes (PySem.W.kat_nil ⟨rfl, by rw [ey, lx_irrefl]; rfl⟩)
    · obtain ⟨c, xs, ec, tc, ic⟩ := hb
      obtain ⟨c', xs', ec', tc', ic'⟩ := hb'
      cases ec
      cases ec'
      exact PySem.W.kat_no (PySem.W.kat_one _ _ (HT.lt_tupInts tc tc' ic ic' (by omega) ⟨rfl, rfl⟩))
  · have ex : ¬ x.1 = y.1 := by simpa using e1
    have el : lp x y = decide (x.1 < y.1) := by unfold lp; rw [lx_cons, if_neg ex]
    rw [el]
    exact PySem.W.kat_no (TS.oneLt_ints _ ⟨rfl, rfl⟩)
theorem firsts_nt {h : Heap} {k : Value → Int × List Int} : ∀ vs : List Value, (∀ v ∈ vs, IsNT h v (k v)) → ∃ fs, PySem.W.KatTups h vs fs ∧ fs.length = vs.length ∧ ∀ f, f ∈ fs → ∃ n t, f = Value.int n t
  | [], _ => ⟨[], PySem.W.KatTups.nil, rfl, fun f hf => by simp at hf⟩
  | v :: vs, x => by
    obtain ⟨fs, kk, hl, hi⟩ := firsts_nt vs fun u hu => x u (List.mem_cons_of_mem _ hu)
    obtain ⟨a, o, t, b, n, e, ho, hc, hd, _⟩ := x v (List.mem_cons_self ..)
    rw [e]
    refine ⟨.int (k v).1 t :: fs, PySem.W.KatTups.cons ho hc hd rfl kk, by simp [hl], ?_⟩
    intro f hf
    rcases List.mem_cons.mp hf with rfl | hf
    · exact ⟨_, t, rfl⟩
    · exact hi f hf
theorem nts_sortable {a : Addr} {vs : List Value} {k : Value → Int × List Int} (hu : A.units + 1 < cLine) (h0 : 0 < vs.length) (hp : ∀ v ∈ vs, IsNT s.heap v (k v)) (ha : ∀ o, s.heap.get? a = some o → o.cls ≠ .type "tuple") : SortableO prog w A s a vs fun v u => lp (k v) (k u) := by
  intro h' keep
  have hp' : ∀ v ∈ vs, IsNT h' v (k v) := fun v hm => (hp v hm).keeps fun b o e c => keep b o (fun z => by subst z; exact ha o e c) e
  obtain ⟨fs, h1, h2, h3⟩ := firsts_nt vs hp'
  refine ⟨tuples' true, fun Q E hq => ?_, nt_cmp hu hp'⟩
  refine PySem.W.kat_kind (T := .type "int") h1 (by omega) (fun f hm => ?_) (by rfl) ?_
  · obtain ⟨x, t, rfl⟩ := h3 f hm
    exact PySem.W.Looks.now
  · have e : (Value.type "int" != Value.type "tuple") = true := by first | decide +kernel | rfl | decide
    rw [e]
    exact hq
end
/-! ### as rules of the layer -/
section
variable {X : Cx} {pins : List (Addr × Obj)} {σ : L2.St} {H : Hp} {s : Shared} {Q : VK}
theorem cr_by {a : Addr} {xs : List V} {lt : V → V → Bool} (O : Swo lt) (I : Inv X pins σ H s) (hs : SqL X.K H a xs) (hx : ∀ x ∈ xs, ∃ t, x = V.ref t)
    (hS : ∀ its : List Value, Vals xs its → 2 ≤ its.length → ∀ (h₁ : Heap) (d : Addr), h₁.get? d = some (seqObj "list" its.toArray 0) → (∀ b o, s.heap.get? b = some o → b ≠ d ∧ h₁.get? b = some o) → SortableO X.prog X.w X.A.in1.in1 { s with heap := h₁ } d its (fun u v => lt (backV u) (backV v)))
    (q : ∀ ys p, SrtO.Srtd lt ys → SrtO.Stb lt ys xs → H p = none → Q (.ref p) (upd H p (.lst ys))) : wpAny (model X.prog X.w) X.A (call (.builtin "sorted") [.ref a]) (EP X pins σ Q) X.xe s := by
  obtain ⟨its, rv, hl, hz⟩ := I.list hs
  obtain ⟨e1, e2⟩ := refs_back rv hx
  have O' : Swo fun u v => lt (backV u) (backV v) := ⟨fun x y => O.asym _ _, fun x y z => O.tr _ _ _⟩
  refine sorted_ord O' hl.isList (by rw [← rv.length]; exact hz) (fun h2 h₁ d hd kk => hS its rv h2 h₁ d hd kk) fun out h1 h2 => ?_
  have h3 : ∀ u ∈ out, ∃ a, u = Value.ref a := fun u hu => e2 u (h2.perm.mem_iff.mp hu)
  obtain ⟨n, hn⟩ := sortedAll_at s.heap its out.toArray
  have hb : SrtO.Stb lt (out.map backV) xs := by
    rw [e1]
    exact SrtO.Stb.map O backV h2
  refine ⟨.ref _, upd H (s.heap.objs.size + 1) (.lst (out.map backV)), I.laid (t' := s.toks) (fun b o e => sortedAll_old e) (Nat.le_succ _) ⟨?_, out, n, vals_back h3, hn⟩, rfl, q _ _ (SrtO.srtd_map h1) hb (I.hok.fresh (Nat.le_succ _))⟩
  rw [hb.len]
  exact hz
/-- sorted(xs), tuples of ints, none of them empty -/
def rSortL (K : PySem.W.Frag) : List V → Hp → VK → Prop := fun vs H Q => ∃ (a : Addr) (xs : List V) (k : V → List Int), vs = [V.ref a] ∧ SqL K H a xs ∧ (∀ x ∈ xs, k x ≠ [] ∧ ∃ t, x = V.ref t ∧ SqT K H t ((k x).map V.int)) ∧
  ∀ ys p, SrtO.Srtd (fun x y => lx (k x) (k y)) ys → SrtO.Stb (fun x y => lx (k x) (k y)) ys xs → H p = none → Q (.ref p) (upd H p (.lst ys))
theorem not_tup {h₁ : Heap} {d : Addr} {its : List Value} (hd : h₁.get? d = some (seqObj "list" its.toArray 0)) : ∀ o, h₁.get? d = some o → o.cls ≠ .type "tuple" := fun o e => by
  have e' : some o = some (seqObj "list" its.toArray 0) := e.symm.trans hd
  cases e'
  intro c
  exact absurd (Value.type.inj c) (by decide)
theorem cr_sortL : CallR X (.builtin "sorted") (rSortL X.K) := by
  intro pins s σ H vs us Q I r h
  obtain ⟨a, xs, k, rfl, hs, hx, q⟩ := h
  obtain ⟨u, rfl, ru⟩ := vals1 r
  obtain rfl : u = Value.ref a := ru
  refine cr_by (swo_lx k) I hs (fun x hm => by obtain ⟨_, t, e, _⟩ := hx x hm; exact ⟨t, e⟩) (fun its rv h2 h₁ d hd kk => ?_) q
  obtain ⟨e1, e2⟩ := refs_back rv (fun x hm => by obtain ⟨_, t, e, _⟩ := hx x hm; exact ⟨t, e⟩)
  refine tups_sortable (s := { s with heap := h₁ }) (k := fun u => k (backV u)) (by omega) (fun v hv => ?_) (not_tup hd)
  obtain ⟨t, rfl⟩ := e2 v hv
  have hm : V.ref t ∈ xs := by rw [e1]; exact List.mem_map.mpr ⟨_, hv, rfl⟩
  obtain ⟨nk, t', e, ht⟩ := hx _ hm
  cases e
  exact ⟨(tupI_raw I ht).keeps fun b o e _ => (kk b o e).2, nk⟩
/-- sorted(xs), pairs of an int and a tuple of ints -/
def rSortP (K : PySem.W.Frag) : List V → Hp → VK → Prop := fun vs H Q => ∃ (a : Addr) (xs : List V) (k : V → Int × List Int), vs = [V.ref a] ∧ SqL K H a xs ∧ (∀ x ∈ xs, ∃ t b, x = V.ref t ∧ H t = some (.tup [.int (k x).1, .ref b]) ∧ SqT K H b ((k x).2.map V.int)) ∧
  ∀ ys p, SrtO.Srtd (fun x y => lp (k x) (k y)) ys → SrtO.Stb (fun x y => lp (k x) (k y)) ys xs → H p = none → Q (.ref p) (upd H p (.lst ys))
theorem in2_units {A : Around} (h : A.units + 64 < cLine) : A.in1.in1.units + 1 < cLine := by
  have e : A.in1.in1.units ≤ A.units + 2 := by first | exact Nat.le_refl _ | (simp [Around.in1]; omega) | decide
  omega
theorem cr_sortP (hu : X.A.units + 64 < cLine) : CallR X (.builtin "sorted") (rSortP X.K) := by
  intro pins s σ H vs us Q I r h
  obtain ⟨a, xs, k, rfl, hs, hx, q⟩ := h
  obtain ⟨u, rfl, ru⟩ := vals1 r
  obtain rfl : u = Value.ref a := ru
  refine cr_by (swo_lp k) I hs (fun x hm => by obtain ⟨t, _, e, _⟩ := hx x hm; exact ⟨t, e⟩) (fun its rv h2 h₁ d hd kk => ?_) q
  obtain ⟨e1, e2⟩ := refs_back rv (fun x hm => by obtain ⟨t, _, e, _⟩ := hx x hm; exact ⟨t, e⟩)
  refine nts_sortable (s := { s with heap := h₁ }) (k := fun u => k (backV u)) (in2_units hu) (by omega) (fun v hv => ?_) (not_tup hd)
  obtain ⟨t, rfl⟩ := e2 v hv
  have hm : V.ref t ∈ xs := by rw [e1]; exact List.mem_map.mpr ⟨_, hv, rfl⟩
  obtain ⟨t', b, e, ht, hb⟩ := hx _ hm
  cases e
  obtain ⟨_, its2, r2, o, ho, hc, n, hd'⟩ := I.hok _ _ ht
  obtain ⟨u1, u2, rfl, ri, rj⟩ := vals2 r2
  obtain ⟨t1, rfl⟩ := ri
  cases (show u2 = Value.ref b from rj)
  exact (show IsNT s.heap (.ref t) (k (V.ref t)) from ⟨t, o, t1, b, n, rfl, ho, hc, hd', tupI_raw I hb⟩).keeps fun b o e _ => (kk b o e).2
end
end Ku

set_option Elab.async false
set_option linter.all false
set_option maxRecDepth 100000
set_option maxHeartbeats 4000000
/-! sorted of a set of tuples of ints, none of them empty. -/
namespace Ku
open PySem PySem.Spec PyProof.Rows L2 Kg Kd SrtO Srt
/-- the key at an address -/
def kOf (L : List (Addr × List Int)) : Value → List Int
  | .ref a => ((L.find? fun p => p.1 == a).map (·.2)).getD []
  | _ => []
theorem kOf_at {L : List (Addr × List Int)} (one : ∀ q ∈ L, ∀ r ∈ L, q.1 = r.1 → q = r) {p : Addr × List Int} (hp : p ∈ L) : kOf L (.ref p.1) = p.2 := by
  show ((L.find? fun q => q.1 == p.1).map (·.2)).getD [] = p.2
  cases e : L.find? fun q => q.1 == p.1 with
  | none => exact absurd (List.find?_eq_none.mp e p hp) (by simp)
  | some q =>
    have h1 := List.mem_of_find?_eq_some e
    have h2 := List.find?_some e
    have h3 : q = p := one q h1 p hp (by simpa using h2)
    rw [h3]; rfl
theorem strict_of {L : List (Addr × List Int)} (nd : (L.map (·.2)).Nodup) (h : L.Pairwise (fun q r => lx r.2 q.2 = false)) : L.Pairwise (fun q r => lx q.2 r.2 = true) := by
  have n2 : L.Pairwise (fun q r => q.2 ≠ r.2) := List.pairwise_map.mp nd
  refine (h.and n2).imp (fun {q r} z => ?_)
  rcases lx_tri q.2 r.2 with e | e | e
  · exact absurd e z.2
  · exact e
  · rw [z.1] at e; cases e
section
variable {P : Program} {w : World} {A : Around} {E : Value → Shared → Prop} {s : Shared}
theorem sorted_set {a : Addr} {L : List (Addr × List Int)} {es : Array (Int × Value)} {ep : Nat} {t : SetTable} {Q : Value → Shared → Prop} (R : SetTR P w s.heap a L es ep t) (hh : A.handled = none) (hB : ∀ p ∈ L, p.2 ≠ [])
    (hQ : ∀ s' p (out : Array Value) (c : Nat) (L' : List (Addr × List Int)), (∀ b o, s.heap.get? b = some o → s'.heap.get? b = some o) → s'.gens = s.gens → s'.os = s.os → s.heap.objs.size ≤ p →
      s'.heap.get? p = some (seqObj "list" out c) → out.toList = L'.map (fun q => Value.ref q.1) → L'.Perm L → L'.Pairwise (fun q r => lx q.2 r.2 = true) → Q (.ref p) s') :
    wpAny (model P w) A (call (.builtin "sorted") [.ref a]) Q E s := by
  obtain ⟨o, ho, hex, hd⟩ := R.ob
  have hsz := R.size
  have hfew := R.few
  refine Calls.call_function_entry kind_sorted plain_sorted entry_sorted (args_sorted1 _) ?_
  unfold Builtin.«sorted»
  refine wpAny_bind (m := checkCount "sorted" 1 1 _) (wpAny_pure ?_)
  refine wpAny_bind (collect_set (A := A.in1) hh ⟨o, ho, hex.1, hd⟩ R.fits (by unfold scanBound; omega) R.tab.ris R.led fun s1 vs k1 hz g1 o1 pm => ?_)
  have hes : es.toList.map (·.2) = L.map fun q => Value.ref q.1 := by
    rw [R.rows]
    unfold rowsOf
    rw [List.map_map] <;> rfl
  rw [hes] at pm
  have ord : ∀ vs : List Value, (∀ v ∈ vs, ∃ q ∈ L, v = Value.ref q.1) → ∃ L1 : List (Addr × List Int), vs = L1.map (fun q => Value.ref q.1) ∧ ∀ q ∈ L1, q ∈ L := by
    intro vs
    induction vs with
    | nil => intro _; exact ⟨[], rfl, fun q hq => (by cases hq)⟩
    | cons v vs ih =>
      intro hv
      obtain ⟨q, hq, e⟩ := hv v List.mem_cons_self
      obtain ⟨L1, e1, hs⟩ := ih fun u hu => hv u (List.mem_cons_of_mem _ hu)
      refine ⟨q :: L1, by rw [List.map_cons, e, e1], fun r hr => ?_⟩
      rcases List.mem_cons.mp hr with z | z
      · rw [z]; exact hq
      · exact hs r z
  have one : ∀ q ∈ L, ∀ r ∈ L, q.1 = r.1 → q = r := fun q hq r hr e => by
    have a1 := R.tup q hq
    have a2 := R.tup r hr
    rw [e] at a1
    have e2 : q.2 = r.2 := a1.inj a2
    exact Prod.ext e e2
  have perm_of : ∀ L1 : List (Addr × List Int), (∀ q ∈ L1, q ∈ L) → (L1.map (fun q => Value.ref q.1)).Perm (L.map fun q => Value.ref q.1) → L1.Perm L := by
    intro L1 hs pm1
    have nL : L.Nodup := nodup_of_map R.nd
    have nref : (L.map fun q => Value.ref q.1).Nodup := by
      refine List.pairwise_map.mpr (List.Pairwise.imp_of_mem (fun {q r} hq hr hne e => ?_) nL)
      injection e with e
      exact hne (one q hq r hr e)
    have n1 : L1.Nodup := nodup_of_map (pm1.nodup_iff.mpr nref)
    refine (List.perm_ext_iff_of_nodup n1 nL).mpr fun q => ⟨hs q, fun hq => ?_⟩
    have hm : Value.ref q.1 ∈ L1.map (fun q => Value.ref q.1) := pm1.mem_iff.mpr (List.mem_map.mpr ⟨q, hq, rfl⟩)
    obtain ⟨r, hr, e⟩ := List.mem_map.mp hm
    injection e with e
    rw [← one r (hs r hr) q hq e]
    exact hr
  have hvl : vs.length < 64 := by rw [pm.length_eq, List.length_map]; exact hfew
  have hvz : vs.length ≤ sizeLine := by rw [sizeLine_eq]; omega
  refine wpAny_bind (wpAny_newList ?_ hvz)
  have hoL : (s1.heap.push (seqObj "list" vs.toArray 0)).get? s1.heap.objs.size = some (seqObj "list" vs.toArray 0) := Heap.get?_push_size _ rfl
  have tk : ∀ q ∈ L, TS.TupInts (s1.heap.push (seqObj "list" vs.toArray 0)) (.ref q.1) q.2 := fun q hq => tupInts_of (P := P) (w := w) (isT_keep (R.tup q hq) fun b u e => Heap.get?_push_of_some _ (k1 b u e))
  have x : ∀ v ∈ vs, TS.TupInts (s1.heap.push (seqObj "list" vs.toArray 0)) v (kOf L v) ∧ kOf L v ≠ [] := fun v hv => by
    obtain ⟨q, hq, e⟩ := List.mem_map.mp (pm.mem_iff.mp hv)
    rw [← e, kOf_at one hq]
    exact ⟨tk q hq, hB q hq⟩
  refine wpAny_bind (wpAny_holding (wpAny_call_entry slot_list_sort (s := { s1 with heap := s1.heap.push (seqObj "list" vs.toArray 0) }) ⟨_, hoL, rfl⟩ entry_list_sort (list_sort_ord (swo_lx (kOf L)) hoL hvz
    (fun h2 => tups_sortable (s := { s1 with heap := s1.heap.push (seqObj "list" vs.toArray 0) }) (by omega) x (not_tup hoL)) fun out h1 h2 => ⟨_, rfl, ?_⟩) (args_list_sort _)))
  obtain ⟨c, hc⟩ := sortedHeap_at (vs := vs) (out := out.toArray) hoL
  obtain ⟨L', e', hs'⟩ := ord out fun v hv => by
    obtain ⟨q, hq, e⟩ := List.mem_map.mp (pm.mem_iff.mp (h2.perm.mem_iff.mp hv))
    exact ⟨q, hq, e.symm⟩
  have pL : L'.Perm L := perm_of L' hs' (by rw [← e']; exact h2.perm.trans pm)
  have pw : L'.Pairwise (fun q r => lx q.2 r.2 = true) := by
    refine strict_of ((pL.map (·.2)).nodup_iff.mpr R.nd) ?_
    rw [e'] at h1
    refine List.Pairwise.imp_of_mem (fun {q r} hq hr hle => ?_) (List.pairwise_map.mp h1)
    have z : lx (kOf L (.ref r.1)) (kOf L (.ref q.1)) = false := hle
    rw [kOf_at one (hs' r hr), kOf_at one (hs' q hq)] at z
    exact z
  refine wpAny_pure ⟨_, rfl, hQ _ s1.heap.objs.size out.toArray c L' (fun b u e => ?_) g1 o1 hz hc (by simpa using e') pL pw⟩
  have q := k1 b u e
  have hlt := Heap.lt_size q
  show (sortedHeap (s1.heap.push (seqObj "list" vs.toArray 0)) s1.heap.objs.size vs out.toArray).get? b = some u
  rw [sortedHeap_old (Nat.ne_of_lt hlt) (by rw [size_push']; exact Nat.lt_succ_of_lt hlt)]
  exact Heap.get?_push_of_some _ q
end
section
variable {X : Cx}
def rSortS (K : PySem.W.Frag) (P : Program) (w : World) : List V → Hp → VK → Prop := fun vs H Q => ∃ (a : Addr) (L : List (Addr × List Int)), vs = [V.ref a] ∧ H a = some (SetTO P w a L) ∧ (∀ p ∈ L, SqT K H p.1 (p.2.map V.int) ∧ p.2 ≠ []) ∧
  ∀ (L' : List (Addr × List Int)) (p : Addr), L'.Perm L → L'.Pairwise (fun q r => lx q.2 r.2 = true) → L'.length < 64 → H p = none → Q (.ref p) (upd H p (.lst (L'.map fun q => V.ref q.1)))
theorem cr_sortS (hc : X.calm = true) : CallR X (.builtin "sorted") (rSortS X.K X.prog X.w) := by
  intro pins s σ H vs us Q I r h
  obtain ⟨a, L, rfl, ha, hk, q⟩ := h
  have R0 : SetT0 X.prog X.w s.heap a L := (I.hok a _ ha).1
  obtain ⟨es, ep, t, R⟩ := R0.full fun p hp => I.isT (hk p hp).1
  rw [Vals.ref1 r]
  refine sorted_set R (I.ok.hd hc) (fun p hp => (hk p hp).2) fun s' p out c L' k g o hp hg hout pm pw => ?_
  have hfew : L'.length < 64 := by rw [pm.length_eq]; exact R.few
  have hlen : (L'.map fun q => V.ref q.1).length ≤ sizeLine := by rw [List.length_map, sizeLine_eq]; omega
  have hn : H p = none := I.hok.fresh hp
  have hv : Vals (L'.map fun q => V.ref q.1) out.toList := by rw [hout]; exact vals_of_refs L'
  have J : Inv X pins σ (upd H p (.lst (L'.map fun q => V.ref q.1))) { s with heap := s'.heap, gens := s'.gens, drawn := s'.drawn, toks := s'.toks } :=
    I.call (ch := []) (Un.laid k hp hn) (I.hok.laid k hp ⟨hlen, out.toList, c, hv, hg⟩) (by rw [g]; exact I.bare) (fun _ z => nomatch z)
  have e : s' = { s with heap := s'.heap, gens := s'.gens, drawn := s'.drawn, toks := s'.toks } := by
    cases s'
    cases s
    cases o
    rfl
  rw [e]
  exact ⟨.ref p, _, J, rfl, q L' p pm pw hfew hn⟩
end
end Ku

set_option Elab.async false
set_option linter.all false
set_option maxRecDepth 100000
set_option maxHeartbeats 4000000
/-! Lots, by themselves. -/
namespace Kf
open PySem PySem.Spec PyProof.Rows L2 Kg Kd
/-- numbers as ints -/
def ci (l : List Nat) : List Int := l.map fun n => ((n : Nat) : Int)
theorem ci_V (l : List Nat) : (ci l).map V.int = l.map iV := (map_iV l).symm
theorem ci_inj : ∀ {l m : List Nat}, ci l = ci m → l = m
  | [], [], _ => rfl
  | [], _ :: _, h => nomatch h
  | _ :: _, [], h => nomatch h
  | a :: l, b :: m, h => by
    unfold ci at h
    rw [List.map_cons, List.map_cons, List.cons.injEq] at h
    have e : a = b := by omega
    rw [e, ci_inj (l := l) (m := m) h.2]
theorem ci_nil {l : List Nat} : ci l = [] ↔ l = [] := by unfold ci; cases l <;> simp
def lxN (l m : List Nat) : Bool := Ku.lx (ci l) (ci m)
def lpN (p q : Nat × List Nat) : Bool := Ku.lp ((p.1 : Nat), ci p.2) ((q.1 : Nat), ci q.2)
theorem lxN_irrefl (l : List Nat) : lxN l l = false := Ku.lx_irrefl _
theorem lxN_asym {l m : List Nat} (h : lxN l m = true) : lxN m l = false := Ku.lx_asym h
theorem lpN_irrefl (p : Nat × List Nat) : lpN p p = false := Ku.lx_irrefl _
theorem lpN_asym {p q : Nat × List Nat} (h : lpN p q = true) : lpN q p = false := Ku.lx_asym h
/-- two lists in a strict order with the same items are one -/
theorem ord_uniq {α : Type} {lt : α → α → Bool} (irr : ∀ a, lt a a = false) (asy : ∀ a b, lt a b = true → lt b a = false) : ∀ {l m : List α}, l.Pairwise (fun a b => lt a b = true) → m.Pairwise (fun a b => lt a b = true) → (∀ x, x ∈ l ↔ x ∈ m) → l = m
  | [], [], _, _, _ => rfl
  | [], b :: m, _, _, h => absurd ((h b).mpr (List.mem_cons_self ..)) (by simp)
  | a :: l, [], _, _, h => absurd ((h a).mp (List.mem_cons_self ..)) (by simp)
  | a :: l, b :: m, hl, hm, h => by
    rw [List.pairwise_cons] at hl hm
    have e : a = b := by
      rcases List.mem_cons.mp ((h a).mp (List.mem_cons_self ..)) with z | z
      · exact z
      · rcases List.mem_cons.mp ((h b).mpr (List.mem_cons_self ..)) with y | y
        · exact y.symm
        · have h1 := hm.1 a z
          have h2 := hl.1 b y
          rw [asy _ _ h1] at h2
          cases h2
    subst e
    congr 1
    refine ord_uniq irr asy hl.2 hm.2 fun x => ⟨fun z => ?_, fun z => ?_⟩
    · rcases List.mem_cons.mp ((h x).mp (List.mem_cons_of_mem _ z)) with y | y
      · have := hl.1 x z; rw [y, irr] at this; cases this
      · exact y
    · rcases List.mem_cons.mp ((h x).mpr (List.mem_cons_of_mem _ z)) with y | y
      · have := hm.1 x z; rw [y, irr] at this; cases this
      · exact y
/-- the kinds under which something of these kinds lies -/
def lotS (es : List (List Nat)) (ks : List Nat) : List Nat := (List.range es.length).filter (fun j => ks.any (fun k => abv es k j))
theorem lotS_one (es : List (List Nat)) (k : Nat) : lotS es [k] = lot es k := by
  unfold lotS lot
  congr 1
  funext j
  simp
theorem lotS_som (es : List (List Nat)) (ks : List Nat) : Som es.length (lotS es ks) := Som.filter
theorem lot_som (es : List (List Nat)) (k : Nat) : Som es.length (lot es k) := Som.filter
theorem abv_self (es : List (List Nat)) (k : Nat) : abv es k k = true := (abv_eq es k k).mpr (.inl rfl)
theorem lotS_ne {es : List (List Nat)} {ks : List Nat} (h : ks ≠ []) (lo : ∀ k ∈ ks, k < es.length) : lotS es ks ≠ [] := by
  cases ks with
  | nil => exact absurd rfl h
  | cons k ks =>
    have hm : k ∈ lotS es (k :: ks) := by
      unfold lotS
      rw [List.mem_filter, List.mem_range]
      exact ⟨lo k (List.mem_cons_self ..), List.any_eq_true.mpr ⟨k, List.mem_cons_self .., abv_self es k⟩⟩
    intro z
    rw [z] at hm
    cases hm
theorem lot_ne {es : List (List Nat)} {k : Nat} (h : k < es.length) : lot es k ≠ [] := by
  rw [← lotS_one]
  exact lotS_ne (by simp) (fun j hj => by rw [List.mem_singleton.mp hj]; exact h)
/-- the lot of a kind with things -/
def kn (es : List (List Nat)) (ho : List Nat) (l : List Nat) : Bool := (List.range es.length).any (fun k => !decide (k ∈ ho) && decide (l = lot es k))
theorem kn_iff {es : List (List Nat)} {ho l : List Nat} : kn es ho l = true ↔ ∃ k, k < es.length ∧ k ∉ ho ∧ l = lot es k := by
  unfold kn
  rw [List.any_eq_true]
  constructor
  · rintro ⟨k, h1, h2⟩
    rw [Bool.and_eq_true, Bool.not_eq_true', decide_eq_false_iff_not, decide_eq_true_iff] at h2
    exact ⟨k, List.mem_range.mp h1, h2.1, h2.2⟩
  · rintro ⟨k, h1, h2, h3⟩
    exact ⟨k, List.mem_range.mpr h1, by rw [Bool.and_eq_true, Bool.not_eq_true', decide_eq_false_iff_not, decide_eq_true_iff]; exact ⟨h2, h3⟩⟩
/-- elders of one new kind that are allowed (any number of them at all) -/
def rt (cl : List Nat) (sv : Bool) (ks : List Nat) : Bool := (ks.filter (fun k => decide (k ∈ cl))).isEmpty && (decide (ks.length = 1) || sv)
/-- a late lot l with the fewest elders m -/
def Late (es : List (List Nat)) (cl ho : List Nat) (sv : Bool) (p : Nat × List Nat) : Prop := kn es ho p.2 = false ∧ (∃ ks, ks ≠ [] ∧ Som es.length ks ∧ rt cl sv ks = true ∧ lotS es ks = p.2 ∧ ks.length = p.1) ∧ ∀ ks, ks ≠ [] → Som es.length ks → rt cl sv ks = true → lotS es ks = p.2 → p.1 ≤ ks.length
structure LotsP (es : List (List Nat)) (cl ho : List Nat) (sv : Bool) (A : List (List Nat)) (B : List (Nat × List Nat)) : Prop where
  oa : A.Pairwise (fun a b => lxN a b = true)
  ma : ∀ l, l ∈ A ↔ kn es ho l = true
  ob : B.Pairwise (fun a b => lpN a b = true)
  mb : ∀ p, p ∈ B ↔ Late es cl ho sv p
/-- all lots, in their order -/
def IsLots (es : List (List Nat)) (cl ho : List Nat) (sv : Bool) (ls : List (List Nat)) : Prop := ∃ A B, ls = A ++ B.map (·.2) ∧ LotsP es cl ho sv A B
theorem IsLots.uniq {es : List (List Nat)} {cl ho : List Nat} {sv : Bool} {ls ms : List (List Nat)} (h : IsLots es cl ho sv ls) (k : IsLots es cl ho sv ms) : ls = ms := by
  obtain ⟨A, B, rfl, h⟩ := h
  obtain ⟨C, D, rfl, k⟩ := k
  rw [ord_uniq lxN_irrefl (fun _ _ => lxN_asym) h.oa k.oa (fun x => (h.ma x).trans (k.ma x).symm), ord_uniq lpN_irrefl (fun _ _ => lpN_asym) h.ob k.ob (fun x => (h.mb x).trans (k.mb x).symm)]
theorem IsLots.mem {es : List (List Nat)} {cl ho : List Nat} {sv : Bool} {ls : List (List Nat)} (h : IsLots es cl ho sv ls) (l : List Nat) : l ∈ ls ↔ kn es ho l = true ∨ ∃ m, Late es cl ho sv (m, l) := by
  obtain ⟨A, B, rfl, h⟩ := h
  rw [List.mem_append, h.ma l, List.mem_map]
  constructor
  · rintro (z | ⟨⟨m, l'⟩, z, rfl⟩)
    · exact .inl z
    · exact .inr ⟨m, (h.mb _).mp z⟩
  · rintro (z | ⟨m, z⟩)
    · exact .inl z
    · exact .inr ⟨(m, l), (h.mb _).mpr z, rfl⟩
theorem IsLots.som {es : List (List Nat)} {cl ho : List Nat} {sv : Bool} {ls : List (List Nat)} (h : IsLots es cl ho sv ls) {l : List Nat} (hl : l ∈ ls) : Som es.length l ∧ l ≠ [] := by
  rcases (h.mem l).mp hl with z | ⟨m, _, ⟨ks, h1, h2, _, h4, _⟩, _⟩
  · obtain ⟨k, h1, _, rfl⟩ := kn_iff.mp z
    exact ⟨lot_som es k, lot_ne h1⟩
  · have e : lotS es ks = l := h4
    rw [← e]
    exact ⟨lotS_som es ks, lotS_ne h1 h2.low⟩
/-! ### sets of kinds by their codes -/
def ksOf (n c : Nat) : List Nat := (List.range n).filter (fun k => decide (c / 2 ^ k % 2 = 1))
theorem ksOf_som (n c : Nat) : Som n (ksOf n c) := Som.filter
theorem bits_of (P : Nat → Bool) : ∀ n, ∃ c, c < 2 ^ n ∧ ∀ k, k < n → c.testBit k = P k
  | 0 => ⟨0, by decide, fun k hk => absurd hk (Nat.not_lt_zero k)⟩
  | n + 1 => by
    obtain ⟨c, h1, h2⟩ := bits_of P n
    cases e : P n with
    | false =>
      refine ⟨c, by rw [Nat.pow_succ]; omega, fun k hk => ?_⟩
      by_cases z : k < n
      · exact h2 k z
      · have : k = n := by omega
        rw [this, Nat.testBit_lt_two_pow h1, e]
    | true =>
      refine ⟨2 ^ n + c, by rw [Nat.pow_succ]; omega, fun k hk => ?_⟩
      by_cases z : k < n
      · rw [Nat.testBit_two_pow_add_gt z]; exact h2 k z
      · have : k = n := by omega
        rw [this, Nat.testBit_two_pow_add_eq, Nat.testBit_lt_two_pow h1, e]; rfl
theorem tb (c k : Nat) : c.testBit k = decide (c / 2 ^ k % 2 = 1) := Nat.testBit_eq_decide_div_mod_eq
theorem ksOf_all {n : Nat} {ks : List Nat} (h : Som n ks) : ∃ c, c < 2 ^ n ∧ ksOf n c = ks := by
  obtain ⟨c, h1, h2⟩ := bits_of (fun k => decide (k ∈ ks)) n
  refine ⟨c, h1, asc_uniq (ksOf_som n c).asc h.asc fun k => ?_⟩
  unfold ksOf
  rw [List.mem_filter, List.mem_range, ← tb]
  constructor
  · rintro ⟨a, b⟩
    rw [h2 k a] at b
    exact of_decide_eq_true b
  · intro a
    have := h.low k a
    exact ⟨this, by rw [h2 k this]; exact decide_eq_true a⟩
theorem ksOf_zero (n : Nat) : ksOf n 0 = [] := by
  unfold ksOf
  rw [List.filter_eq_nil_iff]
  intro k _
  simp
theorem ksOf_ne {n c : Nat} (h : 1 ≤ c) (hc : c < 2 ^ n) : ksOf n c ≠ [] := by
  intro z
  have all : ∀ k, c.testBit k = false := by
    intro k
    by_cases hk : k < n
    · cases e : c.testBit k with
      | false => rfl
      | true =>
        have hm : k ∈ ksOf n c := by
          unfold ksOf
          rw [List.mem_filter, List.mem_range, ← tb]
          exact ⟨hk, e⟩
        rw [z] at hm; cases hm
    · exact Nat.testBit_lt_two_pow (Nat.lt_of_lt_of_le hc (Nat.pow_le_pow_right (by decide) (by omega)))
  have : c = 0 := Nat.eq_of_testBit_eq (fun k => by rw [all k, Nat.zero_testBit])
  omega
/-- the late lots, code by code -/
def stp (es : List (List Nat)) (cl ho : List Nat) (sv : Bool) (m : List Nat → Option Nat) (c : Nat) : List Nat → Option Nat :=
  if (rt cl sv (ksOf es.length c) && !kn es ho (lotS es (ksOf es.length c))) = true then fun l => if l = lotS es (ksOf es.length c) then some (min ((m l).getD 9) (ksOf es.length c).length) else m l else m
def mmU (es : List (List Nat)) (cl ho : List Nat) (sv : Bool) : Nat → List Nat → Option Nat
  | 0 => fun _ => none
  | i + 1 => stp es cl ho sv (mmU es cl ho sv i) (i + 1)
structure Up (es : List (List Nat)) (cl ho : List Nat) (sv : Bool) (i m : Nat) (l : List Nat) : Prop where
  nk : kn es ho l = false
  ex : ∃ c, 1 ≤ c ∧ c ≤ i ∧ rt cl sv (ksOf es.length c) = true ∧ lotS es (ksOf es.length c) = l ∧ (ksOf es.length c).length = m
  le : ∀ c, 1 ≤ c → c ≤ i → rt cl sv (ksOf es.length c) = true → lotS es (ksOf es.length c) = l → m ≤ (ksOf es.length c).length
theorem ksOf_len (n c : Nat) : (ksOf n c).length ≤ n := (ksOf_som n c).len
theorem mmU_iff {es : List (List Nat)} {cl ho : List Nat} {sv : Bool} (n6 : es.length ≤ 6) : ∀ (i m : Nat) (l : List Nat), mmU es cl ho sv i l = some m ↔ Up es cl ho sv i m l
  | 0, m, l => ⟨fun h => (nomatch h), fun h => by obtain ⟨c, h1, h2, _⟩ := h.ex; omega⟩
  | i + 1, m, l => by
    have ih := mmU_iff (es := es) (cl := cl) (ho := ho) (sv := sv) n6 i
    show stp es cl ho sv (mmU es cl ho sv i) (i + 1) l = some m ↔ _
    unfold stp
    by_cases c : (rt cl sv (ksOf es.length (i + 1)) && !kn es ho (lotS es (ksOf es.length (i + 1)))) = true
    · rw [if_pos c]
      rw [Bool.and_eq_true, Bool.not_eq_true'] at c
      by_cases e : l = lotS es (ksOf es.length (i + 1))
      · show (if l = _ then _ else _) = some m ↔ _
        rw [if_pos e]
        have kl := ksOf_len es.length (i + 1)
        cases g : mmU es cl ho sv i l with
        | none =>
          have no : ∀ c, 1 ≤ c → c ≤ i → rt cl sv (ksOf es.length c) = true → lotS es (ksOf es.length c) = l → False := by
            intro c0 h1 h2 h3 h4
            -- the least of them
            have : ∃ m, Up es cl ho sv i m l := by
              have P : ∀ b, (∃ c, 1 ≤ c ∧ c ≤ i ∧ rt cl sv (ksOf es.length c) = true ∧ lotS es (ksOf es.length c) = l ∧ (ksOf es.length c).length ≤ b) → ∃ m, Up es cl ho sv i m l := by
                intro b
                induction b with
                | zero =>
                  rintro ⟨c1, a1, a2, a3, a4, a5⟩
                  exact ⟨0, ⟨by rw [e]; exact c.2, ⟨c1, a1, a2, a3, a4, by omega⟩, fun _ _ _ _ _ => Nat.zero_le _⟩⟩
                | succ b ihb =>
                  rintro ⟨c1, a1, a2, a3, a4, a5⟩
                  by_cases z : ∃ c, 1 ≤ c ∧ c ≤ i ∧ rt cl sv (ksOf es.length c) = true ∧ lotS es (ksOf es.length c) = l ∧ (ksOf es.length c).length ≤ b
                  · exact ihb z
                  · refine ⟨b + 1, ⟨by rw [e]; exact c.2, ⟨c1, a1, a2, a3, a4, ?_⟩, fun c2 b1 b2 b3 b4 => ?_⟩⟩
                    · by_cases y : (ksOf es.length c1).length ≤ b
                      · exact absurd ⟨c1, a1, a2, a3, a4, y⟩ z
                      · omega
                    · by_cases y : (ksOf es.length c2).length ≤ b
                      · exact absurd ⟨c2, b1, b2, b3, b4, y⟩ z
                      · omega
              exact P _ ⟨c0, h1, h2, h3, h4, Nat.le_refl _⟩
            obtain ⟨m', u⟩ := this
            rw [(ih m' l).mpr u] at g
            cases g
          show some (min 9 _) = some m ↔ _
          rw [Nat.min_eq_right (by omega), Option.some.injEq]
          constructor
          · intro h
            refine ⟨by rw [e]; exact c.2, ⟨i + 1, by omega, Nat.le_refl _, c.1, e.symm, h⟩, fun c1 a1 a2 a3 a4 => ?_⟩
            by_cases z : c1 ≤ i
            · exact (no c1 a1 z a3 a4).elim
            · have : c1 = i + 1 := by omega
              rw [this]; omega
          · intro u
            obtain ⟨c1, a1, a2, a3, a4, a5⟩ := u.ex
            by_cases z : c1 ≤ i
            · exact (no c1 a1 z a3 a4).elim
            · have : c1 = i + 1 := by omega
              rw [this] at a5; exact a5
        | some m0 =>
          have u0 := (ih m0 l).mp g
          show some (min m0 _) = some m ↔ _
          rw [Option.some.injEq]
          have best : Up es cl ho sv (i + 1) (min m0 (ksOf es.length (i + 1)).length) l := by
            refine ⟨u0.nk, ?_, fun c1 a1 a2 a3 a4 => ?_⟩
            · by_cases z : m0 ≤ (ksOf es.length (i + 1)).length
              · obtain ⟨c1, a1, a2, a3, a4, a5⟩ := u0.ex
                exact ⟨c1, a1, by omega, a3, a4, by omega⟩
              · exact ⟨i + 1, by omega, Nat.le_refl _, c.1, e.symm, by omega⟩
            · by_cases z : c1 ≤ i
              · have := u0.le c1 a1 z a3 a4; omega
              · have : c1 = i + 1 := by omega
                rw [this]; omega
          constructor
          · intro h; rw [← h]; exact best
          · intro u
            obtain ⟨c1, a1, a2, a3, a4, a5⟩ := u.ex
            obtain ⟨c2, b1, b2, b3, b4, b5⟩ := best.ex
            have h1 := best.le c1 a1 a2 a3 a4
            have h2 := u.le c2 b1 b2 b3 b4
            omega
      · show (if l = _ then _ else _) = some m ↔ _
        rw [if_neg e, ih m l]
        constructor
        · intro u
          obtain ⟨c1, a1, a2, a3⟩ := u.ex
          refine ⟨u.nk, ⟨c1, a1, by omega, a3⟩, fun c2 b1 b2 b3 b4 => ?_⟩
          by_cases z : c2 ≤ i
          · exact u.le c2 b1 z b3 b4
          · have : c2 = i + 1 := by omega
            rw [this] at b4; exact absurd b4.symm e
        · intro u
          obtain ⟨c1, a1, a2, a3, a4, a5⟩ := u.ex
          have z : c1 ≤ i := by
            by_cases z : c1 ≤ i
            · exact z
            · have : c1 = i + 1 := by omega
              rw [this] at a4; exact absurd a4.symm e
          exact ⟨u.nk, ⟨c1, a1, z, a3, a4, a5⟩, fun c2 b1 b2 b3 b4 => u.le c2 b1 (by omega) b3 b4⟩
    · rw [if_neg c, ih m l]
      have c' : rt cl sv (ksOf es.length (i + 1)) = true → kn es ho (lotS es (ksOf es.length (i + 1))) = true := by
        intro h
        cases k : kn es ho (lotS es (ksOf es.length (i + 1))) with
        | true => rfl
        | false => exact absurd (by rw [h, k]; rfl) c
      constructor
      · intro u
        obtain ⟨c1, a1, a2, a3⟩ := u.ex
        refine ⟨u.nk, ⟨c1, a1, by omega, a3⟩, fun c2 b1 b2 b3 b4 => ?_⟩
        by_cases z : c2 ≤ i
        · exact u.le c2 b1 z b3 b4
        · have : c2 = i + 1 := by omega
          rw [this] at b3 b4
          have := c' b3
          rw [b4, u.nk] at this
          cases this
      · intro u
        obtain ⟨c1, a1, a2, a3, a4, a5⟩ := u.ex
        have z : c1 ≤ i := by
          by_cases z : c1 ≤ i
          · exact z
          · have : c1 = i + 1 := by omega
            rw [this] at a3 a4
            have := c' a3
            rw [a4, u.nk] at this
            cases this
        exact ⟨u.nk, ⟨c1, a1, z, a3, a4, a5⟩, fun c2 b1 b2 b3 b4 => u.le c2 b1 (by omega) b3 b4⟩
theorem late_iff {es : List (List Nat)} {cl ho : List Nat} {sv : Bool} (n6 : es.length ≤ 6) (m : Nat) (l : List Nat) : mmU es cl ho sv (2 ^ es.length - 1) l = some m ↔ Late es cl ho sv (m, l) := by
  have p1 : 1 ≤ 2 ^ es.length := Nat.one_le_two_pow
  rw [mmU_iff n6]
  constructor
  · intro u
    obtain ⟨c, h1, h2, h3, h4, h5⟩ := u.ex
    refine ⟨u.nk, ⟨_, ksOf_ne h1 (by omega), ksOf_som _ _, h3, h4, h5⟩, fun ks k1 k2 k3 k4 => ?_⟩
    obtain ⟨c2, b1, b2⟩ := ksOf_all k2
    have c0 : 1 ≤ c2 := by
      cases c2 with
      | zero => rw [ksOf_zero] at b2; exact absurd b2.symm k1
      | succ _ => omega
    subst b2
    exact u.le c2 c0 (by omega) k3 k4
  · rintro ⟨nk, ⟨ks, k1, k2, k3, k4, k5⟩, le⟩
    obtain ⟨c2, b1, b2⟩ := ksOf_all k2
    have c0 : 1 ≤ c2 := by
      cases c2 with
      | zero => rw [ksOf_zero] at b2; exact absurd b2.symm k1
      | succ _ => omega
    subst b2
    exact ⟨nk, ⟨c2, c0, by omega, k3, k4, k5⟩, fun c h1 h2 h3 h4 => le _ (ksOf_ne h1 (by omega)) (ksOf_som _ _) h3 h4⟩
/-! ### a dict by tuples of kinds -/
def kL (l : List Nat) : List Key := l.map fun n => Sum.inl ((n : Nat) : Int)
theorem kL_V (l : List Nat) : (kL l).map kV = l.map iV := by unfold kL; rw [List.map_map]; rfl
theorem kL_inj : ∀ {l m : List Nat}, kL l = kL m → l = m
  | [], [], _ => rfl
  | [], _ :: _, h => nomatch h
  | _ :: _, [], h => nomatch h
  | a :: l, b :: m, h => by
    unfold kL at h
    rw [List.map_cons, List.map_cons, List.cons.injEq, Sum.inl.injEq] at h
    have e : a = b := by omega
    rw [e, kL_inj (l := l) (m := m) h.2]
structure Dv (kvs : List (List Key × V)) (m : List Nat → Option Nat) : Prop where
  ks : ∀ p ∈ kvs, ∃ l n, p = (kL l, V.int ((n : Nat) : Int)) ∧ m l = some n
  all : ∀ l n, m l = some n → (kL l, V.int ((n : Nat) : Int)) ∈ kvs
  nd : (kvs.map (·.1)).Nodup
theorem Dv.nil : Dv [] (fun _ => none) := ⟨fun p h => (nomatch h), fun l n h => (nomatch h), List.nodup_nil⟩
theorem Dv.val {kvs : List (List Key × V)} {m : List Nat → Option Nat} (D : Dv kvs m) (l : List Nat) : valV kvs (kL l) = (m l).map (fun n => V.int ((n : Nat) : Int)) := by
  unfold valV
  cases e : kvs.find? fun kv => decide (kv.1 = kL l) with
  | none =>
    cases g : m l with
    | none => rfl
    | some n => exact absurd (List.find?_eq_none.mp e _ (D.all l n g)) (by simp)
  | some q =>
    have h1 := List.mem_of_find?_eq_some e
    have h2 : q.1 = kL l := by simpa using List.find?_some e
    obtain ⟨l', n, rfl, g⟩ := D.ks q h1
    have e2 : l' = l := kL_inj h2
    rw [e2] at g
    rw [g]; rfl
theorem nodup_map_keys {kvs : List (List Key × V)} {k : List Key} {v : V} : (kvs.map fun kv => if kv.1 = k then (kv.1, v) else kv).map (·.1) = kvs.map (·.1) := by
  rw [List.map_map]
  congr 1
  funext kv
  show (if kv.1 = k then (kv.1, v) else kv).1 = kv.1
  split <;> rfl
theorem Dv.put {kvs : List (List Key × V)} {m : List Nat → Option Nat} (D : Dv kvs m) (l : List Nat) (n : Nat) : Dv (putK kvs (kL l) (V.int ((n : Nat) : Int))) (fun l' => if l' = l then some n else m l') := by
  by_cases c : (kvs.any fun kv => decide (kv.1 = kL l)) = true
  · have e : putK kvs (kL l) (V.int ((n : Nat) : Int)) = kvs.map (fun kv => if kv.1 = kL l then (kv.1, V.int ((n : Nat) : Int)) else kv) := by unfold putK; rw [if_pos c]
    rw [e]
    refine ⟨fun p hp => ?_, fun l' n' h => ?_, by rw [nodup_map_keys]; exact D.nd⟩
    · obtain ⟨q, hq, rfl⟩ := List.mem_map.mp hp
      obtain ⟨l', n', rfl, g⟩ := D.ks q hq
      by_cases z : l' = l
      · subst z
        exact ⟨l', n, by rw [if_pos rfl], by rw [if_pos rfl]⟩
      · exact ⟨l', n', by rw [if_neg (fun y => z (kL_inj y))], by rw [if_neg z]; exact g⟩
    · by_cases z : l' = l
      · subst z
        rw [if_pos rfl] at h
        cases h
        obtain ⟨q, hq, hk⟩ := List.any_eq_true.mp c
        exact List.mem_map.mpr ⟨q, hq, by rw [if_pos (of_decide_eq_true hk), of_decide_eq_true hk]⟩
      · rw [if_neg z] at h
        exact List.mem_map.mpr ⟨_, D.all l' n' h, by rw [if_neg (fun y => z (kL_inj y))]⟩
  · have e : putK kvs (kL l) (V.int ((n : Nat) : Int)) = kvs ++ [(kL l, V.int ((n : Nat) : Int))] := by unfold putK; rw [if_neg c]
    have nm : m l = none := by
      cases g : m l with
      | none => rfl
      | some k => exact absurd (List.any_eq_true.mpr ⟨_, D.all l k g, decide_eq_true rfl⟩) c
    rw [e]
    refine ⟨fun p hp => ?_, fun l' n' h => ?_, ?_⟩
    · rcases List.mem_append.mp hp with y | y
      · obtain ⟨l', n', rfl, g⟩ := D.ks p y
        have z : l' ≠ l := fun z => by rw [z, nm] at g; cases g
        exact ⟨l', n', rfl, by rw [if_neg z]; exact g⟩
      · rw [List.mem_singleton.mp y]
        exact ⟨l, n, rfl, by rw [if_pos rfl]⟩
    · by_cases z : l' = l
      · subst z
        rw [if_pos rfl] at h
        cases h
        exact List.mem_append_right _ (List.mem_singleton.mpr rfl)
      · rw [if_neg z] at h
        exact List.mem_append_left _ (D.all l' n' h)
    · rw [List.map_append]
      refine List.nodup_append.mpr ⟨D.nd, by simp, fun a ha b hb => ?_⟩
      rw [List.map_cons, List.map_nil, List.mem_singleton] at hb
      intro z
      obtain ⟨q, hq, hqa⟩ := List.mem_map.mp ha
      exact c (List.any_eq_true.mpr ⟨q, hq, decide_eq_true (by rw [hqa, z, hb])⟩)
end Kf

set_option Elab.async false
set_option linter.all false
set_option maxRecDepth 100000
set_option maxHeartbeats 4000000
/-! Trees and rows, by themselves. -/
namespace Kf
open PySem PySem.Spec PyProof.Rows L2 Kg Kd
inductive Tr
  | ans (n : Nat)
  | tst (k : Nat) (y n : Tr)
namespace Tr
def d : Tr → PyData
  | .ans n => .int ((n : Nat) : Int)
  | .tst k y n => .tuple [.int ((k : Nat) : Int), y.d, n.d]
def size : Tr → Nat
  | .ans _ => 0
  | .tst _ y n => 1 + y.size + n.size
def dep : Tr → Nat
  | .ans _ => 0
  | .tst _ y n => 1 + max y.dep n.dep
def ok (m : Nat) : Tr → Prop
  | .ans a => a ≤ 9
  | .tst k y n => k < m ∧ y.ok m ∧ n.ok m
def answer (lot : List Nat) : Tr → Nat
  | .ans a => a
  | .tst k y n => if k ∈ lot then y.answer lot else n.answer lot
theorem answer_le {m : Nat} {lot : List Nat} : ∀ {t : Tr}, t.ok m → t.answer lot ≤ 9
  | .ans _, h => h
  | .tst k y n, h => by
    show (if k ∈ lot then y.answer lot else n.answer lot) ≤ 9
    split
    · exact answer_le h.2.1
    · exact answer_le h.2.2
theorem size_dep : ∀ t : Tr, t.dep ≤ t.size
  | .ans _ => Nat.le_refl _
  | .tst k y n => by
    have := size_dep y
    have := size_dep n
    show 1 + max y.dep n.dep ≤ 1 + y.size + n.size
    omega
theorem d_dep : ∀ t : Tr, t.d.depth = t.dep
  | .ans _ => rfl
  | .tst k y n => by
    show max 0 (max y.d.depth (max n.d.depth 0)) + 1 = 1 + max y.dep n.dep
    rw [d_dep y, d_dep n]; omega
theorem d_lay : ∀ t : Tr, PyData.canLay0 t.d = true
  | .ans _ => rfl
  | .tst k y n => by
    show (true && (PyData.canLay0 y.d && (PyData.canLay0 n.d && true))) = true
    rw [d_lay y, d_lay n]; rfl
theorem d_inj : ∀ {t u : Tr}, t.d = u.d → t = u
  | .ans a, .ans b, h => by
    have e : ((a : Nat) : Int) = (b : Nat) := PyData.int.inj h
    have : a = b := by omega
    rw [this]
  | .ans _, .tst _ _ _, h => nomatch h
  | .tst _ _ _, .ans _, h => nomatch h
  | .tst k y n, .tst k' y' n', h => by
    have h1 := PyData.tuple.inj h
    rw [List.cons.injEq, List.cons.injEq, List.cons.injEq] at h1
    have e : ((k : Nat) : Int) = (k' : Nat) := PyData.int.inj h1.1
    have : k = k' := by omega
    rw [this, d_inj h1.2.1, d_inj h1.2.2.1]
end Tr
abbrev Row := List (Nat × Bool) × Nat
def needD (p : Nat × Bool) : PyData := .tuple [.int ((p.1 : Nat) : Int), .bool p.2]
def rwD (r : Row) : PyData := .tuple [.tuple (r.1.map needD), .int ((r.2 : Nat) : Int)]
def rowsD (rs : List Row) : PyData := .tuple (rs.map rwD)
def holds (lot : List Nat) (needs : List (Nat × Bool)) : Bool := needs.all (fun p => decide (p.1 ∈ lot) == p.2)
def chosenR (lot : List Nat) (rs : List Row) : Option Nat := rs.findIdx? (fun r => holds lot r.1)
def answerR (lot : List Nat) (rs : List Row) : Nat := ((rs.find? (fun r => holds lot r.1)).map (·.2)).getD 0
structure RowOk (n : Nat) (r : Row) : Prop where
  few : r.1.length ≤ 3
  asc : (r.1.map (·.1)).Pairwise (· < ·)
  low : ∀ p ∈ r.1, p.1 < n
  ans : r.2 ≤ 9
structure RowsOk (n : Nat) (rs : List Row) : Prop where
  few : rs.length ≤ 6
  each : ∀ r ∈ rs, RowOk n r
inductive Ch
  | tree (t : Tr)
  | rows (rs : List Row)
namespace Ch
def d : Ch → PyData
  | .tree t => t.d
  | .rows rs => rowsD rs
def ok (n : Nat) : Ch → Prop
  | .tree t => t.ok n ∧ t.size ≤ 12
  | .rows rs => RowsOk n rs
def answer (lot : List Nat) : Ch → Nat
  | .tree t => t.answer lot
  | .rows rs => answerR lot rs
theorem answer_le {n : Nat} {lot : List Nat} {c : Ch} (h : c.ok n) : c.answer lot ≤ 9 := by
  cases c with
  | tree t => exact Tr.answer_le h.1
  | rows rs =>
    show ((rs.find? (fun r => holds lot r.1)).map (·.2)).getD 0 ≤ 9
    cases e : rs.find? (fun r => holds lot r.1) with
    | none => exact Nat.zero_le _
    | some r => exact (h.each r (List.mem_of_find?_eq_some e)).ans
end Ch
theorem tu_need {H : Hp} {v : V} {p : Nat × Bool} (h : Tu H v (needD p)) : ∃ a, v = .ref a ∧ H a = some (.tup [.int ((p.1 : Nat) : Int), .bl p.2]) := by
  unfold needD at h
  cases h with
  | @tup a xs _ h1 h2 h3 =>
    cases h3 with
    | cons k1 k2 =>
      cases k2 with
      | cons k3 k4 =>
        cases k4
        cases k1
        cases k3
        exact ⟨a, rfl, h1⟩
theorem tu_row {H : Hp} {v : V} {r : Row} (h : Tu H v (rwD r)) : ∃ a b xs, v = .ref a ∧ H a = some (.tup [.ref b, .int ((r.2 : Nat) : Int)]) ∧ H b = some (.tup xs) ∧ TuAll H xs (r.1.map needD) ∧ xs.length = r.1.length := by
  unfold rwD at h
  cases h with
  | @tup a ys _ h1 h2 h3 =>
    cases h3 with
    | cons k1 k2 =>
      cases k2 with
      | cons k3 k4 =>
        cases k4
        cases k3
        cases k1 with
        | @tup b xs _ g1 g2 g3 => exact ⟨a, b, xs, rfl, h1, g1, g3, by rw [g3.length, List.length_map]⟩
theorem tu_rows {H : Hp} {v : V} {rs : List Row} (h : Tu H v (rowsD rs)) : ∃ a xs, v = .ref a ∧ H a = some (.tup xs) ∧ TuAll H xs (rs.map rwD) ∧ xs.length = rs.length := by
  unfold rowsD at h
  cases h with
  | @tup a xs _ h1 h2 h3 => exact ⟨a, xs, rfl, h1, h3, by rw [h3.length, List.length_map]⟩
theorem tu_ans {H : Hp} {v : V} {n : Nat} (h : Tu H v (Tr.ans n).d) : v = .int ((n : Nat) : Int) := by
  have h' : Tu H v (.int ((n : Nat) : Int)) := h
  cases h'
  rfl
theorem tu_tst {H : Hp} {v : V} {k : Nat} {y n : Tr} (h : Tu H v (Tr.tst k y n).d) : ∃ a v1 v2, v = .ref a ∧ H a = some (.tup [.int ((k : Nat) : Int), v1, v2]) ∧ Tu H v1 y.d ∧ Tu H v2 n.d := by
  have h' : Tu H v (.tuple [.int ((k : Nat) : Int), y.d, n.d]) := h
  cases h' with
  | @tup a xs _ h1 h2 h3 =>
    cases h3 with
    | cons k1 k2 =>
      cases k2 with
      | cons k3 k4 =>
        cases k4 with
        | cons k5 k6 =>
          cases k6
          cases k1
          exact ⟨a, _, _, rfl, h1, k3, k5⟩
end Kf

set_option Elab.async false
set_option linter.all false
set_option maxRecDepth 100000
set_option maxHeartbeats 4000000
/-! Trees and rows among all data. -/
namespace Kf
open PySem PySem.Spec PyProof.Rows L2 Kg Kd
/-- how many triples a tree has, -1 for no tree -/
def sizeD (m : Int) : PyData → Int
  | .int i => if 0 ≤ i ∧ i ≤ 9 then 0 else -1
  | .tuple [.int k, y, n] => if 0 ≤ k ∧ k < m then (if 0 ≤ sizeD m y ∧ 0 ≤ sizeD m n then 1 + sizeD m y + sizeD m n else -1) else -1
  | _ => -1
theorem sizeD_int (m i : Int) : sizeD m (.int i) = if 0 ≤ i ∧ i ≤ 9 then 0 else -1 := by rw [sizeD]
theorem sizeD_tri (m k : Int) (y n : PyData) : sizeD m (.tuple [.int k, y, n]) = if 0 ≤ k ∧ k < m then (if 0 ≤ sizeD m y ∧ 0 ≤ sizeD m n then 1 + sizeD m y + sizeD m n else -1) else -1 := by rw [sizeD]
theorem sizeD_len {m : Int} : ∀ {ds : List PyData}, ds.length ≠ 3 → sizeD m (.tuple ds) = -1
  | [], _ => by rw [sizeD]; all_goals simp
  | [_], _ => by rw [sizeD]; all_goals simp
  | [_, _], _ => by rw [sizeD]; all_goals simp
  | [_, _, _], h => absurd rfl h
  | _ :: _ :: _ :: _ :: _, _ => by rw [sizeD]; all_goals simp
theorem sizeD_tree {m : Nat} : ∀ {t : Tr}, t.ok m → sizeD m t.d = ((t.size : Nat) : Int)
  | .ans a, h => by
    have h9 : a ≤ 9 := h
    show sizeD m (.int ((a : Nat) : Int)) = 0
    rw [sizeD_int, if_pos (by omega)]
  | .tst k y n, h => by
    obtain ⟨h1, h2, h3⟩ := h
    show sizeD m (.tuple [.int ((k : Nat) : Int), y.d, n.d]) = ((1 + y.size + n.size : Nat) : Int)
    rw [sizeD_tri, sizeD_tree h2, sizeD_tree h3, if_pos (by omega), if_pos (by omega)]
    omega
theorem tree_of_size {m : Nat} (d : PyData) (h : 0 ≤ sizeD m d) : ∃ t : Tr, t.d = d ∧ t.ok m ∧ sizeD m d = ((t.size : Nat) : Int) := by
  match d with
  | .int i =>
    rw [sizeD_int] at h ⊢
    by_cases c : 0 ≤ i ∧ i ≤ 9
    · rw [if_pos c]
      refine ⟨.ans i.toNat, ?_, (by show i.toNat ≤ 9; omega), rfl⟩
      show PyData.int ((i.toNat : Nat) : Int) = .int i
      rw [show ((i.toNat : Nat) : Int) = i by omega]
    · rw [if_neg c] at h; omega
  | .tuple [.int k, y, n] =>
    rw [sizeD_tri] at h ⊢
    by_cases c : 0 ≤ k ∧ k < (m : Nat)
    · rw [if_pos c] at h ⊢
      by_cases c2 : 0 ≤ sizeD m y ∧ 0 ≤ sizeD m n
      · rw [if_pos c2] at h ⊢
        obtain ⟨t1, e1, o1, s1⟩ := tree_of_size y c2.1
        obtain ⟨t2, e2, o2, s2⟩ := tree_of_size n c2.2
        refine ⟨.tst k.toNat t1 t2, ?_, ⟨by omega, o1, o2⟩, ?_⟩
        · show PyData.tuple [.int ((k.toNat : Nat) : Int), t1.d, t2.d] = _
          rw [show ((k.toNat : Nat) : Int) = k by omega, e1, e2]
        · show _ = ((1 + t1.size + t2.size : Nat) : Int)
          rw [s1, s2]; omega
      · rw [if_neg c2] at h; omega
    · rw [if_neg c] at h; omega
  | .none => unfold sizeD at h; omega
  | .bool _ => unfold sizeD at h; omega
  | .str _ => unfold sizeD at h; omega
  | .list _ => unfold sizeD at h; omega
  | .dict _ => unfold sizeD at h; omega
  | .tuple [] => unfold sizeD at h; omega
  | .tuple [_] => rw [sizeD_len (by simp)] at h; omega
  | .tuple [_, _] => rw [sizeD_len (by simp)] at h; omega
  | .tuple (_ :: _ :: _ :: _ :: _) => rw [sizeD_len (by simp)] at h; omega
  | .tuple [.none, _, _] => unfold sizeD at h; omega
  | .tuple [.bool _, _, _] => unfold sizeD at h; omega
  | .tuple [.str _, _, _] => unfold sizeD at h; omega
  | .tuple [.list _, _, _] => unfold sizeD at h; omega
  | .tuple [.tuple _, _, _] => unfold sizeD at h; omega
  | .tuple [.dict _, _, _] => unfold sizeD at h; omega
theorem sizeD_non {m : Int} : ∀ {d : PyData}, (isInt d && !isBool d) = false → isTup d = false → sizeD m d = -1
  | .int i, h, _ => nomatch h
  | .tuple _, _, h => nomatch h
  | .none, _, _ => by rw [sizeD]; all_goals simp
  | .bool _, _, _ => by rw [sizeD]; all_goals simp
  | .str _, _, _ => by rw [sizeD]; all_goals simp
  | .list _, _, _ => by rw [sizeD]; all_goals simp
  | .dict _, _, _ => by rw [sizeD]; all_goals simp
theorem sizeD_first {m : Int} {y n : PyData} : ∀ {d : PyData}, (isInt d && !isBool d) = false → sizeD m (.tuple [d, y, n]) = -1
  | .int i, h => nomatch h
  | .tuple _, _ => by rw [sizeD]; all_goals simp
  | .none, _ => by rw [sizeD]; all_goals simp
  | .bool _, _ => by rw [sizeD]; all_goals simp
  | .str _, _ => by rw [sizeD]; all_goals simp
  | .list _, _ => by rw [sizeD]; all_goals simp
  | .dict _, _ => by rw [sizeD]; all_goals simp
end Kf

set_option Elab.async false
set_option linter.all false
set_option maxRecDepth 100000
set_option maxHeartbeats 4000000
namespace Kc
open PySem PySem.Spec PyProof.Rows L2 Kg Kd Kr Kf
abbrev sNum : Stmt := topS 4
theorem scNum : FnScope ["value"] ["value"] (defScope sNum) := ⟨rfl, rfl, rfl, by decide +kernel, rfl, by decide +kernel, by decide +kernel⟩
/-! ### x is not False, whatever x is -/
theorem op_notBv {X : Cx} : OpR X (compareOp .IsNot) (fun x y H Q => ∃ b : Bool, y = .bl b ∧ Q (.bl (!decide (x = .bl b))) H) := by
  intro pins s σ H x y v u Q I rx ry h
  obtain ⟨b, rfl, q⟩ := h
  cases (show u = Value.bool b from ry)
  cases x with
  | bl a =>
    cases (show v = Value.bool a from rx)
    by_cases e : a = b
    · subst e
      exact wpAny_isNot_self rfl ⟨.bl false, H, I, rfl, by simpa using q⟩
    · exact wpAny_isNot_other rfl (fun z => e (Value.bool.inj z)) ⟨.bl true, H, I, rfl, by simpa [e] using q⟩
  | non => cases (show v = Value.none from rx); exact wpAny_isNot_other rfl (fun z => nomatch z) ⟨.bl true, H, I, rfl, by simpa using q⟩
  | int i => obtain ⟨t, rfl⟩ := rx; exact wpAny_isNot_other rfl (fun z => nomatch z) ⟨.bl true, H, I, rfl, by simpa using q⟩
  | str i => obtain ⟨t, rfl⟩ := rx; exact wpAny_isNot_other rfl (fun z => nomatch z) ⟨.bl true, H, I, rfl, by simpa using q⟩
  | byt i => obtain ⟨t, rfl⟩ := rx; exact wpAny_isNot_other rfl (fun z => nomatch z) ⟨.bl true, H, I, rfl, by simpa using q⟩
  | flt i => obtain ⟨t, rfl⟩ := rx; exact wpAny_isNot_other rfl (fun z => nomatch z) ⟨.bl true, H, I, rfl, by simpa using q⟩
  | ref a => cases (show v = Value.ref a from rx); exact wpAny_isNot_other rfl (fun z => nomatch z) ⟨.bl true, H, I, rfl, by simpa using q⟩
  | ty n => cases (show v = Value.type n from rx); exact wpAny_isNot_other rfl (fun z => nomatch z) ⟨.bl true, H, I, rfl, by simpa using q⟩
theorem op_isBv {X : Cx} : OpR X (compareOp .Is) (fun x y H Q => ∃ b : Bool, y = .bl b ∧ Q (.bl (decide (x = .bl b))) H) := by
  intro pins s σ H x y v u Q I rx ry h
  obtain ⟨b, rfl, q⟩ := h
  cases (show u = Value.bool b from ry)
  cases x with
  | bl a =>
    cases (show v = Value.bool a from rx)
    by_cases e : a = b
    · subst e
      exact wpAny_is_self rfl ⟨.bl true, H, I, rfl, by simpa using q⟩
    · exact wpAny_is_other rfl (fun z => e (Value.bool.inj z)) ⟨.bl false, H, I, rfl, by simpa [e] using q⟩
  | non => cases (show v = Value.none from rx); exact wpAny_is_other rfl (fun z => nomatch z) ⟨.bl false, H, I, rfl, by simpa using q⟩
  | int i => obtain ⟨t, rfl⟩ := rx; exact wpAny_is_other rfl (fun z => nomatch z) ⟨.bl false, H, I, rfl, by simpa using q⟩
  | str i => obtain ⟨t, rfl⟩ := rx; exact wpAny_is_other rfl (fun z => nomatch z) ⟨.bl false, H, I, rfl, by simpa using q⟩
  | byt i => obtain ⟨t, rfl⟩ := rx; exact wpAny_is_other rfl (fun z => nomatch z) ⟨.bl false, H, I, rfl, by simpa using q⟩
  | flt i => obtain ⟨t, rfl⟩ := rx; exact wpAny_is_other rfl (fun z => nomatch z) ⟨.bl false, H, I, rfl, by simpa using q⟩
  | ref a => cases (show v = Value.ref a from rx); exact wpAny_is_other rfl (fun z => nomatch z) ⟨.bl false, H, I, rfl, by simpa using q⟩
  | ty n => cases (show v = Value.type n from rx); exact wpAny_is_other rfl (fun z => nomatch z) ⟨.bl false, H, I, rfl, by simpa using q⟩
theorem iteD {c : Bool} {A B : Prop} (h : c = true) (a : A) : if c = true then A else B := by rw [if_pos h]; exact a
theorem iteE {c : Bool} {A B : Prop} (h : c = false) (b : B) : if c = true then A else B := by rw [h, if_neg Bool.false_ne_true]; exact b
def isNum (d : PyData) : Bool := isInt d && !isBool d
def spNum : Sp := fun vs H Q _ => ∃ (v : V) (d : PyData), vs = [v] ∧ Da Kd.nil H v d ∧ Q (.bl (isNum d)) H
theorem num_int : ∀ {d : PyData}, isNum d = true → ∃ i, d = .int i
  | .int i, _ => ⟨i, rfl⟩
  | .none, h => nomatch h
  | .bool _, h => nomatch h
  | .str _, h => nomatch h
  | .list _, h => nomatch h
  | .tuple _, h => nomatch h
  | .dict _, h => nomatch h
theorem tup_is : ∀ {d : PyData}, isTup d = true → ∃ ds, d = .tuple ds
  | .tuple ds, _ => ⟨ds, rfl⟩
  | .int _, h => nomatch h
  | .none, h => nomatch h
  | .bool _, h => nomatch h
  | .str _, h => nomatch h
  | .list _, h => nomatch h
  | .dict _, h => nomatch h
theorem da_int {av : Addr → Prop} {H : Hp} {v : V} {i : Int} (h : Da av H v (.int i)) : v = .int i := by cases h; rfl
theorem da_tup {av : Addr → Prop} {H : Hp} {v : V} {ds : List PyData} (h : Da av H v (.tuple ds)) : ∃ a xs, v = .ref a ∧ H a = some (.tup xs) ∧ xs.length = ds.length ∧ DaAll av H xs ds ∧ ¬ av a ∧ xs.length ≤ 1000 := by
  cases h with
  | @tup a xs _ na ha hal hA => exact ⟨a, xs, rfl, ha, hA.length, hA, na, hal⟩
theorem da_tst {av : Addr → Prop} {H : Hp} {v : V} {k : Nat} {y n : Tr} (h : Da av H v (Tr.tst k y n).d) : ∃ a v1 v2, v = .ref a ∧ H a = some (.tup [.int ((k : Nat) : Int), v1, v2]) ∧ Da av H v1 y.d ∧ Da av H v2 n.d := by
  obtain ⟨a, xs, rfl, ha, xl, hA, _, _⟩ := da_tup (show Da av H v (.tuple [.int ((k : Nat) : Int), y.d, n.d]) from h)
  match xs, hA with
  | [v0, v1, v2], .cons h0 (.cons h1 (.cons h2 .nil)) =>
    have e := da_int h0
    subst e
    exact ⟨a, v1, v2, rfl, ha, h1, h2⟩
theorem da_two {av : Addr → Prop} {H : Hp} {v : V} {ds : List PyData} (h : Da av H v (.tuple ds)) (l : ds.length = 2) : ∃ a d0 d1 v0 v1, ds = [d0, d1] ∧ v = .ref a ∧ H a = some (.tup [v0, v1]) ∧ Da av H v0 d0 ∧ Da av H v1 d1 := by
  obtain ⟨a, xs, rfl, ha, xl, hA, _, _⟩ := da_tup h
  match ds, l, hA with
  | [d0, d1], _, .cons (v := v0) h0 (.cons (v := v1) h1 .nil) => exact ⟨a, d0, d1, v0, v1, rfl, rfl, ha, h0, h1⟩
structure Bm (mg : Str → Option Value) : Prop where
  set : mg "set" = none
  sorted : mg "sorted" = none
  enum : mg "enumerate" = none
def lotsT (es : List (List Nat)) : List (List Nat) := (List.range es.length).map (lot es)
theorem get_map {α β : Type} {f : α → β} {l : List α} {i : Nat} {x : α} (h : l[i]? = some x) : (l.map f)[i]? = some (f x) := by rw [List.getElem?_map, h]; rfl
/-- the four parts in a list at l -/
structure Fo (H : Hp) (l : Addr) (es : List (List Nat)) (cl ho : List Nat) (sv : Bool) : Prop where
  ex : ∃ e c h, H l = some (.lst [e, c, h, .bl sv]) ∧ Tu H e (pdE es) ∧ Tu H c (pdI cl) ∧ Tu H h (pdI ho)
  el : Eld es sv
  cl : Som es.length cl
  ho : Som es.length ho
theorem Fo.keep {H H' : Hp} {l : Addr} {es : List (List Nat)} {cl ho : List Nat} {sv : Bool} (k : Fo H l es cl ho sv) (f : KF H H') (z : ∀ xs, H l = some (.lst xs) → H' l = some (.lst xs)) : Fo H' l es cl ho sv := by
  obtain ⟨⟨e, c, h, h1, h2, h3, h4⟩, h6, h7, h8⟩ := k
  exact ⟨⟨e, c, h, z _ h1, h2.keep f, h3.keep f, h4.keep f⟩, h6, h7, h8⟩
theorem Fo.same {H H' : Hp} {l : Addr} {es : List (List Nat)} {cl ho : List Nat} {sv : Bool} (k : Fo H l es cl ho sv) (s : Same H H') : Fo H' l es cl ho sv := k.keep (.of_same s) fun _ z => s _ _ z
section
variable {P : Program} {w : World} {K : PySem.W.Frag} {mg : Str → Option Value} {base : Heap} {f : Addr} {fd : FuncData} {k : Nat}
theorem ok_num (F : Fun K "is_number" "is_number" sNum f fd) (B : Bl mg) : FnOk P w K mg base CX0 (k + 1) f fd ["value"] spNum := by
  refine F.ok scNum (fun vs H Q E h => ?_) (fun cdv A outer s H vs Q E hr h => ?_)
  · obtain ⟨v, d, rfl, _⟩ := h
    rfl
  · obtain ⟨v, d, rfl, hd, q⟩ := h
    refine ⟨_, pss_one (ps_ret (pe_and (pe_callB call_isi (by rfl) B.isi boot_isinstance (pa_cons (pv 0) (pa_cons (pe_bltn (v := .ty "int") (by rfl) B.int PyProof.Rows.boot_int rfl) pa_nil))) (pe_one (pe_not (pe_callB call_isi (by rfl) B.isi boot_isinstance (pa_cons (pv 0) (pa_cons (pe_bltn (v := .ty "bool") (by rfl) B.bool PyProof.Rows.boot_bool rfl) pa_nil))))))), ?_⟩
    refine ⟨_, rfl, _, _, _, _, isInt d, rfl, .ty _, hd.ty, kit_ty (kt_int d), _, rfl, ?_⟩
    have e : isNum d = (isInt d && !isBool d) := rfl
    rw [e] at q
    cases hi : isInt d with
    | true =>
      rw [hi] at q
      exact iteT ⟨_, rfl, _, _, _, _, isBool d, rfl, .ty _, hd.ty, kit_ty (kt_bool d), _, rfl, q⟩
    | false =>
      rw [hi] at q
      exact iteF q
end
end Kc

set_option Elab.async false
set_option linter.all false
set_option maxRecDepth 100000
set_option maxHeartbeats 4000000
/-! Own __len__, __eq__, __str__ of an instance. -/
namespace Ko
open PySem PySem.Spec PyProof.Rows L2 Kg Kd
section
variable {X : Cx} {pins : List (Addr × Obj)} {σ : L2.St} {H : Hp} {s : Shared} {g C : Addr} {fd : FuncData} {ps : List Str} {sp : Sp} {n : Nat}
theorem run_atK {A : Around} {Q : VK} {us : List Value} {ws : List V} (F : FnOk X.prog X.w X.K X.mg X.base CX0 n g fd ps sp) (hr : Room n A) (e0 : Env0 X.prog X.w X.K X.mg X.base A X.stack s H) (hb : Binds X.K fd ps []) (I : Inv X pins σ H s) (r : Vals ws us) (h : sp ws H Q E0) :
    codeAny (model X.prog X.w) A (.call (.ref g) ⟨us, []⟩) (fun r s' => match r with | .ok (.ret v) => EP X pins σ Q v s' | .ok _ => False | .error e => X.xe e s') s := by
  have hl : us.length = ps.length := r.length.symm.trans (F.len _ _ _ _ h)
  have bi := hb s us I.kIn (by rw [List.append_nil]; exact hl)
  rw [List.append_nil] at bi
  refine codeAny_mono (F.run A X.stack s H ⟨us, []⟩ us ws Q E0 hr e0 bi r h) fun r s' hq => ?_
  cases r with
  | error e => exact hq.elim
  | ok fl =>
    cases fl with
    | ret u => exact I.after hq
    | next => exact False.elim hq
    | brk => exact False.elim hq
    | cont => exact False.elim hq
theorem inst_ins {a dx : Addr} {fs : List (Str × V)} (I : Inv X pins σ H s) (e : H a = some (.ins C dx fs)) : ∃ od, PySem.W.InstAt s.heap a (PySem.W.instObj C dx) C (some od) := by
  obtain ⟨_, _, _, ho, mA, hn, _⟩ := (show ObjOk X.prog X.w H s.heap a (.ins C dx fs) from I.hok a _ e)
  obtain ⟨od, hd, _⟩ := lookIn_ns hn
  exact ⟨od, ho, rfl, rfl, hd⟩
/-- len(o), o an instance whose class has its own __len__ -/
def rLenO (C : Addr) (sp : Sp) : List V → Hp → VK → Prop := fun xs H Q => ∃ a dx fs, xs = [V.ref a] ∧ H a = some (.ins C dx fs) ∧ sp [.ref a] H (fun z H' => ∃ i : Int, z = .int i ∧ 0 ≤ i ∧ i < 2 ^ 62 ∧ Q (.int i) H') E0
theorem call_lenO (hs : PySem.W.findIn X.K (.ref C) "__len__" = some (some (.ref g))) (hf : PySem.W.isFn X.K (.ref g) = true) (F : FnOk X.prog X.w X.K X.mg X.base CX0 n g fd ps sp) (hr : Room (n + 1) X.A) (hb : Binds X.K fd ps []) : CallR X (.builtin "len") (rLenO C sp) := by
  intro pins s σ H xs us Q I r h
  obtain ⟨a, dx, fs, rfl, ha, q⟩ := h
  obtain ⟨u, rfl, ru⟩ := r.one
  cases (show u = Value.ref a from ru)
  obtain ⟨od, J⟩ := inst_ins I ha
  refine Calls.call_function_entry kind_len plain_len entry_len (args_len1 _) ?_
  unfold Builtin.«len»
  refine wpAny_bind (m := oneArg "len" _) (wpAny_pure ?_)
  refine wpAny_bind (m := callSpecial? (.ref a) (PySem.Str.ofString "__len__")) (PySem.W.special_fn I.kIn J hs (beq_iff_eq.mp hf) (wpAny_mono (wpAny_call (run_atK (us := [.ref a]) (ws := [.ref a]) F (Room.in1 hr) I.env0.in1 hb I (.cons rfl .nil) q)) (fun w s' z => ?_) fun _ _ x => x))
  obtain ⟨z', H', I', rz, i, ei, i0, i1, qz⟩ := z
  subst ei
  obtain ⟨t, e⟩ := (show ∃ t, w = Value.int i t from rz)
  cases e
  refine wpAny_bind (wpAny_holding (wpAny_pure ?_))
  refine wpAny_bind (wpAny_letGo ?_)
  show wpAny _ _ (if i < 0 then _ else _) _ _ _
  rw [if_neg (by omega)]
  show wpAny _ _ (if i ≥ 2 ^ 63 then _ else _) _ _ _
  rw [if_neg (by omega)]
  exact wpAny_bind (wpAny_mkInt (wpAny_pure ⟨_, rfl, .int i, H', I'.tok _, ⟨_, rfl⟩, qz⟩))
/-- o == y by the own __eq__ -/
def rEqO (K : PySem.W.Frag) (C : Addr) (sp : Sp) : R2 := fun x y H Q => ∃ a dx fs tb, x = .ref a ∧ H a = some (.ins C dx fs) ∧ TyX K H y tb ∧ PySem.W.notFirst K C tb = true ∧ sp [x, y] H Q E0
theorem op_eqO (hs : PySem.W.findIn X.K (.ref C) "__eq__" = some (some (.ref g))) (hf : PySem.W.isFn X.K (.ref g) = true) (F : FnOk X.prog X.w X.K X.mg X.base CX0 n g fd ps sp) (hr : Room n X.A) (hb : Binds X.K fd ps []) : OpR X (compareOp .Eq) (rEqO X.K C sp) := by
  intro pins s σ H x y v u Q I rx ry h
  obtain ⟨a, dx, fs, tb, rfl, ha, ty, hn, q⟩ := h
  cases (show v = Value.ref a from rx)
  obtain ⟨od, J⟩ := inst_ins I ha
  obtain ⟨Pk, kx, hp, _⟩ := kit_of I ry ty
  obtain ⟨m, hF⟩ := I.fr
  show wpAny _ _ (richCompare .Eq (.ref a) u) _ _ _
  refine PySem.W.cmp_K (op := .Eq) (tb := tb) hr.units0 hF I.ok.mod.kin J (kx.ty _ _ I.kIn hp) hn hs hf ?_
  refine wpAny_mono (wpAny_call (run_atK (us := [.ref a, u]) (ws := [.ref a, y]) F hr I.env0 hb I (.cons rfl (.cons ry .nil)) q)) (fun w s' z => ?_) fun _ _ x => x
  obtain ⟨z', H', I', rz, qz⟩ := z
  exact SlX.cmpback rz ⟨z', H', I', rz, qz⟩
/-- callSpecialIfBound? where the class has the builtin's -/
theorem ifBoundB {A : Around} {E : Value → Shared → Prop} {M : Model} {K : PySem.W.Frag} {a : Addr} {ox : Obj} {od : Option Obj} {name : Str} {T id : String} {args : List Value} {Q : Option Value → Shared → Prop} (S : Slot T name id) (Y : K.In s.heap) (J : PySem.W.InstAt s.heap a ox C od) (hs : PySem.W.findIn K (.ref C) name = some (some (.builtin id)))
    (h : wpAny M A (call (.builtin id) (.ref a :: args)) (fun v => Q (some v)) E s) : wpAny M A (callSpecialIfBound? (.ref a) name args) Q E s := by
  simp only [callSpecialIfBound?, bindSpecialIfBound?]
  refine wpAny_holding (wpAny_bind (wpAny_bind (wpAny_bind (J.type.here ((PySem.W.looks_findIn Y hs).here ?_)))))
  refine wpAny_bind (wpAny_askSetting (wpAny_ite ?_))
  have fin : wpAny M A (call (.builtin id) ([.ref a] ++ args) >>= fun v => pure (some v)) Q E s := wpAny_bind (wpAny_mono h (fun v s' h' => wpAny_pure h') fun _ _ h' => h')
  split
  · rw [S.bind]
    exact wpAny_bind (wpAny_pure (wpAny_pure (by exact fin)))
  · refine wpAny_tryCatch ?_
    rw [S.bind]
    exact wpAny_bind (wpAny_pure (wpAny_pure (by exact fin)))
/-- o != y by the own __eq__ -/
def rNeO (K : PySem.W.Frag) (C : Addr) (sp : Sp) : R2 := fun x y H Q => ∃ a dx fs tb, x = .ref a ∧ H a = some (.ins C dx fs) ∧ TyX K H y tb ∧ PySem.W.notFirst K C tb = true ∧ sp [x, y] H (fun z H' => ∃ b, z = .bl b ∧ Q (.bl (!b)) H') E0
theorem op_neO (hs : PySem.W.findIn X.K (.ref C) "__eq__" = some (some (.ref g))) (hf : PySem.W.isFn X.K (.ref g) = true) (hne : PySem.W.findIn X.K (.ref C) "__ne__" = some (some (.builtin "object.__ne__"))) (hob : PySem.W.subIn X.K (.ref C) (.type "object") = some true)
    (F : FnOk X.prog X.w X.K X.mg X.base CX0 n g fd ps sp) (hr : Room (n + 1) X.A) (hb : Binds X.K fd ps []) : OpR X (compareOp .NotEq) (rNeO X.K C sp) := by
  intro pins s σ H x y v u Q I rx ry h
  obtain ⟨a, dx, fs, tb, rfl, ha, ty, hn, q⟩ := h
  cases (show v = Value.ref a from rx)
  obtain ⟨od, J⟩ := inst_ins I ha
  obtain ⟨Pk, kx, hp, _⟩ := kit_of I ry ty
  have hu1 : X.A.in1.units < cLine := (Room.in1 hr).units0
  have one : wpAny (model X.prog X.w) X.A (tryCompare (.ref a) "__ne__" u) (fun r s' => ∃ v, r = some v ∧ EP X pins σ Q v s') X.xe s := by
    unfold tryCompare
    refine wpAny_bind (ifBoundB PySem.F.cmp_object.ne I.kIn J hne (wpAny_call (codeAny_call_builtin PySem.F.cmp_object.ne.plain PySem.F.cmpEntry_ne (PySem.W.check_slot PySem.F.cmpKind_ne PySem.F.cmpSplit_ne (J.type.andThen (PySem.W.looks_subIn I.kIn hob)) (PySem.F.cmpArgs_ne _ _) ?_))))
    unfold Builtin.«object.__ne__»
    repeat (first
      | with_reducible refine wpAny_cRoomFor hu1 ?_
      | (refine wpAny_bind (m := callSpecialIfBound? (.ref a) (Str.ofString "__eq__") [u])
          (PySem.W.ifBound_K I.kIn J hs hf (wpAny_mono (wpAny_call (run_atK (us := [.ref a, u]) (ws := [.ref a, y]) F (Room.in1 hr) I.env0.in1 hb I (.cons rfl (.cons ry .nil)) q)) (fun r s' hr' => by
            obtain ⟨z', H', I', rz, b, eb, qz⟩ := hr'
            subst eb
            cases (show r = Value.bool b from rz)
            repeat (first | exact ⟨.bool (!b), rfl, ⟨.bl (!b), H', I', rfl, qz⟩⟩ | exact wpAny_pure ⟨.bool (!b), rfl, ⟨.bl (!b), H', I', rfl, qz⟩⟩ | (refine wpAny_bind (m := truthy (.bool _)) (wpAny_truthy_bool ?_)) | wp_step)) fun _ _ e => e)))
      | wp_step)
  show wpAny _ _ (richCompare .NotEq (.ref a) u) _ _ _
  unfold richCompare
  simp only [oneThing_ref]
  refine wpAny_holding (wpAny_bind (wpAny_cRoomFor hr.units0 ?_))
  refine wpAny_bind (J.type.here (wpAny_bind ((kx.ty _ _ I.kIn hp).here ?_)))
  split
  · rename_i q
    have e : PySem.W.subIn X.K tb (.ref C) = some false := by
      rcases Bool.or_eq_true_iff.mp hn with e | e
      · rw [beq_iff_eq.mp e] at q; simp at q
      · exact beq_iff_eq.mp e
    refine wpAny_bind ((PySem.W.looks_subIn I.kIn e).here ?_)
    simp only [Bool.false_eq_true, if_false]
    refine wpAny_bind (wpAny_mono one (fun r s' z => ?_) fun _ _ e => e)
    obtain ⟨v, rfl, hq⟩ := z
    exact wpAny_pure hq
  · refine wpAny_bind (wpAny_pure ?_)
    simp only [Bool.false_eq_true, if_false]
    refine wpAny_bind (wpAny_mono one (fun r s' z => ?_) fun _ _ e => e)
    obtain ⟨v, rfl, hq⟩ := z
    exact wpAny_pure hq
/-- str(o) by the own __str__ -/
theorem str_own {A : Around} {E : Value → Shared → Prop} {prog : Program} {w : World} {K : PySem.W.Frag} {x f : Addr} {ox : Obj} {odd : Option Obj} {Q : Value → Shared → Prop} (Y : K.In s.heap) (J : PySem.W.InstAt s.heap x ox C odd) (hs : PySem.W.findIn K (.ref C) "__str__" = some (some (.ref f))) (hf : PySem.W.isFn K (.ref f) = true) (hu : A.in1.in1.units < cLine)
    (h : wpAny (model prog w) A.in1.in1 (call (.ref f) [.ref x]) (fun r s₁ => ∃ n u, r = Value.str n u ∧ Q r s₁) E s) : wpAny (model prog w) A (call (.type "str") [.ref x]) Q E s := by
  refine callType_codes (T := "str") (Bi := Builtin.«object.__init__») (Q₁ := fun r s₁ => ∃ n u, r = Value.str n u ∧ Q r s₁) PySem.F.called_str (PySem.F.typeCall_str_1 _) PySem.F.entry_object_init ?_ ?_
  · refine codeAny_of_tree ?_
    show wpAny _ A.in1.in1 (do checkBuiltinCall "str.__new__" ⟨[.type "str", .ref x], []⟩; again (.builtin "str.__new__" ⟨[.type "str", .ref x], []⟩)) _ _ s
    refine wpAny_bind (wpAny_of_eq (PySem.F.newCall_str_1 _) (wpAny_pure ⟨plainId_quiet (by decide +kernel) _, codeAny_builtin PySem.F.entry_str_new ?_⟩))
    rw [Around.under_plainId (by decide +kernel) _]
    rw [str_new_tree (.ref x)]
    refine wpAny_bind (wpAny_pure ?_)
    refine wpAny_bind (wpAny_of_eq isSubtype_str_str ?_)
    refine wpAny_bind ?_
    unfold Builtin.Str.strOf
    rw [if_neg (show ¬ Builtin.Str.isExactStr (Value.ref x) = true from Bool.false_ne_true)]
    refine wpAny_bind (wpAny_cRoomFor hu ?_)
    refine wpAny_bind (m := callSpecial? (.ref x) (Str.ofString "__str__")) (PySem.W.special_fn Y J hs (beq_iff_eq.mp hf) (wpAny_mono h (fun r s₁ hr => ?_) fun _ _ y => y))
    obtain ⟨n, u, rfl, hq⟩ := hr
    refine wpAny_bind (m := asStr? _) (wpAny_pure ?_)
    exact wpAny_pure (wpAny_pure ⟨n, u, rfl, hq⟩)
  · rintro obj s₁ ⟨n, u, rfl, hq⟩
    exact ⟨typeIs_str _ _ _, PySem.F.args_object_init_2 _ _, object_init_meets PySem.F.called_str.init.lookup PySem.F.called_str.made (by decide) prog w A.in1 _ s₁ ⟨typeIs_str _ _ _, rfl, hq⟩⟩
def rStrO (C : Addr) (sp : Sp) : List V → Hp → VK → Prop := fun xs H Q => ∃ a dx fs, xs = [V.ref a] ∧ H a = some (.ins C dx fs) ∧ sp [.ref a] H (fun z H' => ∃ x : Str, z = .str x ∧ Q (.str x) H') E0
theorem call_strO (hs : PySem.W.findIn X.K (.ref C) "__str__" = some (some (.ref g))) (hf : PySem.W.isFn X.K (.ref g) = true) (F : FnOk X.prog X.w X.K X.mg X.base CX0 n g fd ps sp) (hr : Room (n + 2) X.A) (hb : Binds X.K fd ps []) : CallR X (.type "str") (rStrO C sp) := by
  intro pins s σ H xs us Q I r h
  obtain ⟨a, dx, fs, rfl, ha, q⟩ := h
  obtain ⟨u, rfl, ru⟩ := r.one
  cases (show u = Value.ref a from ru)
  obtain ⟨od, J⟩ := inst_ins I ha
  have hr2 : Room n X.A.in1.in1 := (show Room (n + 1) X.A.in1 from Room.in1 hr).in1
  refine str_own I.kIn J hs hf hr2.units0 (wpAny_mono (wpAny_call (run_atK (us := [.ref a]) (ws := [.ref a]) F hr2 I.env0.in1.in1 hb I (.cons rfl .nil) q)) (fun w s' z => ?_) fun _ _ x => x)
  obtain ⟨z', H', I', rz, i, ei, qz⟩ := z
  subst ei
  obtain ⟨t, e⟩ := (show ∃ t, w = Value.str i t from rz)
  cases e
  exact ⟨i, t, rfl, .str i, H', I', ⟨t, rfl⟩, qz⟩
end
end Ko

set_option Elab.async false
set_option linter.all false
set_option maxRecDepth 100000
set_option maxHeartbeats 4000000
/-! Defs, methods, properties of the program with their promises, each as one fact. -/
namespace Kl
open PySem PySem.Spec PyProof.Rows L2 Kg Kd
section
variable (P : Program) (w : World) (K : PySem.W.Frag) (mg : Str → Option Value) (base : Heap)
/-- a def of the module -/
structure Cal (nm : Str) (lv : Nat) (ps : List Str) (sp : Sp) : Prop where
  ex : ∃ f fd, mg nm = some (.ref f) ∧ PySem.W.keepIn K (.ref f) = true ∧ Binds K fd ps [] ∧ FnOk P w K mg base CX0 lv f fd ps sp
/-- a def that is promised where no repr runs -/
structure CalG (nm : Str) (lv : Nat) (ps : List Str) (sp : Sp) : Prop where
  ex : ∃ f fd, mg nm = some (.ref f) ∧ PySem.W.keepIn K (.ref f) = true ∧ Binds K fd ps [] ∧ FnG P w K mg base lv f fd ps sp
/-- a method of the class at C -/
structure MCal (C : Addr) (m : Str) (lv : Nat) (ps : List Str) (sp : Sp) : Prop where
  ex : ∃ f fd, Meth K C m f ∧ Binds K fd ps [] ∧ FnOk P w K mg base CX0 lv f fd ps sp
/-- a property of the class at C -/
structure PCal (C : Addr) (m : Str) (lv : Nat) (sp : Sp) : Prop where
  ex : ∃ p g fd, PropOf K C m p g ∧ Binds K fd ["self"] [] ∧ FnOk P w K mg base CX0 lv g fd ["self"] sp
/-- a special method of the class at C -/
structure SCal (C : Addr) (m : Str) (lv : Nat) (ps : List Str) (sp : Sp) : Prop where
  ex : ∃ g fd, PySem.W.findIn K (.ref C) m = some (some (.ref g)) ∧ PySem.W.isFn K (.ref g) = true ∧ Binds K fd ps [] ∧ FnOk P w K mg base CX0 lv g fd ps sp
end
section
variable {X : Cx} {lv : Nat} {nm m : Str} {C : Addr} {ps : List Str} {sp : Sp} {p pos apos : Pos} {e o : Expr} {es : List Expr} {t : TA} {ta : TE}
theorem pe_cal (c : Cal X.prog X.w X.K X.mg X.base nm lv ps sp) (hr : Room lv X.A) (hg : Gl X nm) (ha : PA X (e :: es) t) (hdb : (nm == ("__debug__" : Str)) = false := by decide) (he : starEach (e :: es) X.env = (false, eval e X.env) :: starEach es X.env := by rfl) (hpl : (backTo pos (starEach es X.env)).any (·.1) = false := by rfl) :
    PE X (.Call (.Name nm p) (e :: es) [] pos) (tCall sp [] E0 t) := by
  obtain ⟨f, fd, g, k, b, F⟩ := c.ex
  exact pe_call F hr hg g k b .nil pass0 ha hdb he hpl
theorem pe_calG (c : CalG X.prog X.w X.K X.mg X.base nm lv ps sp) (hgu : X.A.guards = some []) (hr : Room lv X.A) (hg : Gl X nm) (ha : PA X (e :: es) t) (hdb : (nm == ("__debug__" : Str)) = false := by decide) (he : starEach (e :: es) X.env = (false, eval e X.env) :: starEach es X.env := by rfl) (hpl : (backTo pos (starEach es X.env)).any (·.1) = false := by rfl) :
    PE X (.Call (.Name nm p) (e :: es) [] pos) (tCall sp [] E0 t) := by
  obtain ⟨f, fd, g, k, b, F⟩ := c.ex
  exact pe_callG F hgu hr hg g k b ha hdb he hpl
theorem pe_mcal {pl : Sem Bool} (he : PE X o ta) (c : Cls X.K C) (M : MCal X.prog X.w X.K X.mg X.base C m lv ps sp) (hr : Room lv X.A) (ha : PA X (e :: es) t)
    (hst : starEach (e :: es) X.env = (false, eval e X.env) :: starEach es X.env := by rfl) (hpl : (backTo pos (starEach es X.env)).any (·.1) = false := by rfl)
    (ht : eval (.Call (.Attribute o m apos) (e :: es) [] pos) X.env = (do
      let ov ← eval o X.env
      standAt apos.atName
      let (f, first) ← holding [ov] (getMethod ov m pl)
      callWith pos f first (backTo pos (starEach (e :: es) X.env)) (backToKw pos (keywordEach [] X.env))) := by rfl) : PE X (.Call (.Attribute o m apos) (e :: es) [] pos) (tMeth C m sp [] E0 ta t) := by
  obtain ⟨f, fd, hm, b, F⟩ := M.ex
  exact pe_meth he c hm F hr b .nil pass0 ha hst hpl ht
theorem pe_mcal0 {pl : Sem Bool} (he : PE X o ta) (c : Cls X.K C) (M : MCal X.prog X.w X.K X.mg X.base C m lv ps sp) (hr : Room lv X.A)
    (ht : eval (.Call (.Attribute o m apos) [] [] pos) X.env = (do
      let ov ← eval o X.env
      standAt apos.atName
      let (f, first) ← holding [ov] (getMethod ov m pl)
      callWith pos f first (backTo pos (starEach [] X.env)) (backToKw pos (keywordEach [] X.env))) := by rfl) : PE X (.Call (.Attribute o m apos) [] [] pos) (tMeth C m sp [] E0 ta tNil) := by
  obtain ⟨f, fd, hm, b, F⟩ := M.ex
  exact pe_meth0 he c hm F hr b .nil pass0 ht
theorem pe_pcal (he : PE X e ta) (c : Cls X.K C) (M : PCal X.prog X.w X.K X.mg X.base C m lv sp) (hr : Room (lv + 1) X.A) (hab : attributeBase e m X.env (eval e X.env) = eval e X.env := by rfl) : PE X (.Attribute e m pos) (tProp C sp [] E0 ta) := by
  obtain ⟨p, g, fd, hp, b, F⟩ := M.ex
  exact pe_prop he c hp F hr b .nil pass0 hab
theorem op_eqC {K : PySem.W.Frag} (h : X.K = K) (S : SCal X.prog X.w K X.mg X.base C "__eq__" lv ps sp) (hr : Room lv X.A) : OpR X (compareOp .Eq) (Ko.rEqO K C sp) := by
  subst h
  obtain ⟨g, fd, h1, h2, b, F⟩ := S.ex
  exact Ko.op_eqO h1 h2 F hr b
theorem op_neC {K : PySem.W.Frag} (h : X.K = K) (S : SCal X.prog X.w K X.mg X.base C "__eq__" lv ps sp) (hne : PySem.W.findIn K (.ref C) "__ne__" = some (some (.builtin "object.__ne__"))) (hob : PySem.W.subIn K (.ref C) (.type "object") = some true) (hr : Room (lv + 1) X.A) : OpR X (compareOp .NotEq) (Ko.rNeO K C sp) := by
  subst h
  obtain ⟨g, fd, h1, h2, b, F⟩ := S.ex
  exact Ko.op_neO h1 h2 hne hob F hr b
theorem call_lenC (S : SCal X.prog X.w X.K X.mg X.base C "__len__" lv ps sp) (hr : Room (lv + 1) X.A) : CallR X (.builtin "len") (Ko.rLenO C sp) := by
  obtain ⟨g, fd, h1, h2, b, F⟩ := S.ex
  exact Ko.call_lenO h1 h2 F hr b
theorem call_strC (S : SCal X.prog X.w X.K X.mg X.base C "__str__" lv ps sp) (hr : Room (lv + 2) X.A) : CallR X (.type "str") (Ko.rStrO C sp) := by
  obtain ⟨g, fd, h1, h2, b, F⟩ := S.ex
  exact Ko.call_strO h1 h2 F hr b
/-! ### t + u and t[a:b] of tuples, whether a new one is made or not -/
def rCatN : R2 := fun x y H Q => ∃ a b xs ys, x = .ref a ∧ y = .ref b ∧ H a = some (.tup xs) ∧ H b = some (.tup ys) ∧ xs.length + ys.length ≤ 1000 ∧ ∀ p H', Same H H' → H' p = some (.tup (xs ++ ys)) → Q (.ref p) H'
theorem op_catN : OpR X (binaryOp .Add) rCatN := by
  intro pins s σ H x y v u Q I rx ry h
  obtain ⟨a, b, xs, ys, rfl, rfl, ha, hb, hl, q⟩ := h
  refine op_catA pins s σ H _ _ v u Q I rx ry ⟨a, b, xs, ys, rfl, rfl, SqT.of ha, SqT.of hb, Nat.le_of_lt (small1000 hl), fun z => ?_, fun _ z => ?_, fun _ _ p np => ?_⟩
  · subst z; exact q b H (Same.refl _) hb
  · subst z; exact q a H (Same.refl _) (by rw [List.append_nil]; exact ha)
  · exact q p _ (same_new np) upd_same
def rSlN : V → Option Int → Option Int → Hp → VK → Prop := fun x lo hi H Q => ∃ a xs, x = .ref a ∧ H a = some (.tup xs) ∧ ∀ p H', Same H H' → H' p = some (.tup (cutV xs lo hi)) → Q (.ref p) H'
theorem sl_tupN : SlR X rSlN := by
  intro pins s σ H x v vl vu lo hi sl Q I rx hs pl pu h
  obtain ⟨a, xs, rfl, ha, q⟩ := h
  refine sl_tupA pins s σ H _ v vl vu lo hi sl Q I rx hs pl pu ⟨a, xs, rfl, SqT.of ha, fun z => ?_, fun _ p np => ?_⟩
  · refine q a H (Same.refl _) ?_
    have e : cutV xs lo hi = xs := by
      unfold cutV
      rw [z.1, z.2, List.drop_zero, Nat.sub_zero, List.take_length]
    rw [e]; exact ha
  · exact q p _ (same_new np) upd_same
/-- tuple(x), x a list or a tuple -/
def rTupN : List V → Hp → VK → Prop := fun xs H Q => ∃ p ys, xs = [.ref p] ∧ (H p = some (.lst ys) ∨ H p = some (.tup ys)) ∧ ∀ l H', Same H H' → H' l = some (.tup ys) → Q (.ref l) H'
theorem call_tupN : CallR X (.type "tuple") rTupN := by
  intro pins s σ H xs us Q I r h
  obtain ⟨p, ys, rfl, hp, q⟩ := h
  refine call_tuple_of pins s σ H _ us Q I r ⟨p, ys, rfl, ?_⟩
  rcases hp with h | h
  · exact .inl ⟨SqL.of h, fun l nl => q l _ (same_new nl) upd_same⟩
  · exact .inr ⟨SqT.of h, q p H (Same.refl _) h⟩
end
end Kl

set_option Elab.async false
set_option linter.all false
set_option maxRecDepth 100000
set_option maxHeartbeats 4000000
namespace Kc
open PySem PySem.Spec PyProof.Rows L2 Kg Kd Kr Kf
/-! ### draws -/
theorem DeckAt.put {H : Hp} {d la lb x : Addr} {n : Nat} {o : HO} (D : DeckAt H d la lb n) (n1 : d ≠ x) (n2 : la ≠ x) (n3 : lb ≠ x) : DeckAt (upd H x o) d la lb n := by
  obtain ⟨⟨xs, ys, t, h1, h2, h3, h4⟩, m1, m2, m3⟩ := D
  exact ⟨⟨xs, ys, t, by rw [upd_ne n1]; exact h1, by rw [upd_ne n2]; exact h2, by rw [upd_ne n3]; exact h3, h4⟩, m1, m2, m3⟩
/-- from H on some draws were made -/
structure Go (H : Hp) (d la lb : Addr) (n : Nat) (H' : Hp) : Prop where
  b0 : ∃ m, DeckAt H d la lb m
  now : DeckAt H' d la lb n
  kp : Keep (dk d la) H H'
section
variable {H H1 H2 : Hp} {d la lb x : Addr} {n m : Nat} {o : HO}
theorem Go.refl (D : DeckAt H d la lb n) : Go H d la lb n H := ⟨⟨n, D⟩, D, Keep.refl _ _⟩
theorem Go.draw (g : Go H d la lb n H1) (D : DeckAt H2 d la lb m) (k : Keep (dk d la) H1 H2) : Go H d la lb m H2 := ⟨g.b0, D, g.kp.trans k⟩
theorem Go.same (g : Go H d la lb n H1) (s : Same H1 H2) : Go H d la lb n H2 := ⟨g.b0, g.now.same s, g.kp.trans (.of_same s)⟩
theorem Go.less (g : Go H d la lb n H1) (h : m ≤ n) : Go H d la lb m H1 := ⟨g.b0, g.now.less h, g.kp⟩
theorem Go.trans (g : Go H d la lb n H1) (g2 : Go H1 d la lb m H2) : Go H d la lb m H2 := ⟨g.b0, g2.now, g.kp.trans g2.kp⟩
theorem Go.off (g : Go H d la lb n H1) (h : H x = none) : d ≠ x ∧ la ≠ x ∧ lb ≠ x := by
  obtain ⟨m, D⟩ := g.b0
  obtain ⟨a, b, c⟩ := D.tracked
  exact ⟨fun z => a (by rw [z]; exact h), fun z => b (by rw [z]; exact h), fun z => c (by rw [z]; exact h)⟩
theorem Go.put (g : Go H d la lb n H1) (h : H x = none) : Go H d la lb n (upd H1 x o) := by
  obtain ⟨a, b, c⟩ := g.off h
  exact ⟨g.b0, g.now.put a b c, fun e u z nz => by rw [upd_ne (ne_of_none z h)]; exact g.kp e u z nz⟩
theorem Go.put1 (g : Go H d la lb n H1) (h : H1 x = none) (h0 : H x = none) : Go H d la lb n (upd H1 x o) := g.same (same_new h)
theorem Go.free (g : Go H d la lb n H1) (h : H1 x = none) : H x = none := by
  cases e : H x with
  | none => rfl
  | some u =>
    obtain ⟨a, b, c⟩ := g.now.tracked
    have z := g.kp x u e (by rintro (z | z) <;> (rw [z] at h; contradiction))
    rw [h] at z; cases z
theorem Go.at_ (g : Go H d la lb n H1) (h : H x = some o) (n1 : d ≠ x) (n2 : la ≠ x) : H1 x = some o := g.kp x o h (by rintro (z | z) <;> (rw [z] at n1 n2; contradiction))
theorem Go.kf (g : Go H d la lb n H1) : KF H H1 := fun a o h f => by
  obtain ⟨m, ⟨xs, ys, t, h1, h2, _⟩, _⟩ := g.b0
  refine g.kp a o h ?_
  rintro (z | z)
  · rw [z, h1] at h; cases h; exact f
  · rw [z, h2] at h; cases h; exact f
end
/-! ### data of kinds -/
theorem lay_iD : ∀ xs : List Nat, PyData.canLayAll0 (xs.map iD) = true
  | [] => rfl
  | x :: r => by
    show (PyData.canLay0 (.int _) && PyData.canLayAll0 (r.map iD)) = true
    rw [lay_iD r]; rfl
theorem dep_iD : ∀ xs : List Nat, PyData.depthAll (xs.map iD) = 0
  | [] => rfl
  | x :: r => by
    show max (PyData.depth (.int _)) (PyData.depthAll (r.map iD)) = 0
    rw [dep_iD r]; rfl
theorem shaped_of {d : PyData} (h1 : PyData.canLay0 d = true) (h2 : d.depth ≤ 64) : SeqAt.shaped d = true := by
  unfold SeqAt.shaped
  rw [Bool.and_eq_true]
  exact ⟨h1, decide_eq_true h2⟩
theorem lay_pdI (l : List Nat) : PyData.canLay0 (pdI l) = true := lay_iD l
theorem dep_pdI (l : List Nat) : (pdI l).depth = 1 := by
  show PyData.depthAll (l.map iD) + 1 = 1
  rw [dep_iD]
theorem sh_pdI (l : List Nat) : SeqAt.shaped (pdI l) = true := shaped_of (lay_pdI l) (by rw [dep_pdI]; decide)
theorem lay_pdIs : ∀ es : List (List Nat), PyData.canLayAll0 (es.map pdI) = true
  | [] => rfl
  | x :: r => by
    show (PyData.canLay0 (pdI x) && PyData.canLayAll0 (r.map pdI)) = true
    rw [lay_pdIs r, lay_pdI]; rfl
theorem dep_pdIs : ∀ es : List (List Nat), PyData.depthAll (es.map pdI) ≤ 1
  | [] => Nat.zero_le _
  | x :: r => by
    show max (pdI x).depth (PyData.depthAll (r.map pdI)) ≤ 1
    have := dep_pdIs r
    rw [dep_pdI]; omega
theorem dep_pdE (es : List (List Nat)) : (pdE es).depth ≤ 2 := by
  show PyData.depthAll (es.map pdI) + 1 ≤ 2
  have := dep_pdIs es
  omega
theorem sh_pdE (es : List (List Nat)) : SeqAt.shaped (pdE es) = true := shaped_of (lay_pdIs es) (by have := dep_pdE es; omega)
theorem eqv_iDs : ∀ l m : List Nat, PyData.eqvAll (l.map iD) (m.map iD) = decide (l = m)
  | [], [] => by simp [PyData.eqvAll]
  | [], _ :: _ => by simp [PyData.eqvAll]
  | _ :: _, [] => by simp [PyData.eqvAll]
  | a :: l, b :: m => by
    have z := eqv_iDs l m
    simp only [List.map_cons, PyData.eqvAll, z, iD, PyData.eqv]
    by_cases h : a = b
    · subst h; simp
    · have h2 : ¬ ((a : Int) = (b : Int)) := by omega
      simp [h, h2]
theorem eqv_pdI (l m : List Nat) : PyData.eqv (pdI l) (pdI m) = decide (l = m) := by
  unfold pdI
  rw [PyData.eqv, eqv_iDs]
theorem eqv_pdIs : ∀ l m : List (List Nat), PyData.eqvAll (l.map pdI) (m.map pdI) = decide (l = m)
  | [], [] => by simp [PyData.eqvAll]
  | [], _ :: _ => by simp [PyData.eqvAll]
  | _ :: _, [] => by simp [PyData.eqvAll]
  | a :: l, b :: m => by
    have z := eqv_pdIs l m
    simp only [List.map_cons, PyData.eqvAll, z, eqv_pdI]
    by_cases h : a = b
    · subst h; simp
    · simp [h]
theorem eqv_pdE (l m : List (List Nat)) : PyData.eqv (pdE l) (pdE m) = decide (l = m) := by
  unfold pdE
  rw [PyData.eqv, eqv_pdIs]
theorem som_snoc {n : Nat} {l : List Nat} (h : Som n l) : Som (n + 1) (l ++ [n]) := by
  refine ⟨List.pairwise_append.mpr ⟨h.asc, List.pairwise_singleton .., fun a ha b hb => ?_⟩, fun x hx => ?_⟩
  · rw [List.mem_singleton.mp hb]; exact h.low a ha
  · rcases List.mem_append.mp hx with z | z
    · have := h.low x z; omega
    · rw [List.mem_singleton.mp z]; omega
theorem som_up {n m : Nat} {l : List Nat} (h : Som n l) (z : n ≤ m) : Som m l := ⟨h.asc, fun x hx => Nat.lt_of_lt_of_le (h.low x hx) z⟩
end Kc

set_option Elab.async false
set_option linter.all false
set_option maxRecDepth 100000
set_option maxHeartbeats 4000000
/-! t[::-1] of a tuple. -/
namespace Kr
open PySem PySem.Spec PyProof.Rows L2 Kg Kd
section
variable {prog : Program} {w : World} {A : Around} {E : Value → Shared → Prop} {s : Shared}
theorem applied_rev {sl : Addr} {vl vu vs : Value} {n : Nat} {Q : Int × Int × Nat → Shared → Prop} (hs : s.heap.IsSliceOf sl vl vu vs) (pl : IsPart vl none) (pu : IsPart vu none) (ps : IsPart vs (some (-1)))
    (h : Q (((n : Nat) : Int) - 1, -1, n) s) : wpAny (model prog w) A (Builtin.Slice.sliceApplied (.ref sl) (pure (n : Int))) Q E s := by
  obtain ⟨os, hos, hcs, hds⟩ := id hs
  unfold Builtin.Slice.sliceApplied Builtin.Slice.sliceFields
  refine wpAny_bind (wpAny_bind (wpAny_field hos hds (x := vl) rfl (wpAny_bind (wpAny_field hos hds (x := vu) rfl (wpAny_bind (wpAny_field hos hds (x := vs) rfl (wpAny_pure ?_)))))))
  refine wpAny_bind (HT.slicePart_ ps ?_)
  show wpAny _ _ (if ((-1 : Int) == 0) = true then _ else _) _ _ s
  rw [if_neg (by decide)]
  refine wpAny_bind (HT.slicePart_ pl (wpAny_bind (HT.slicePart_ pu (wpAny_bind (wpAny_pure ?_)))))
  show wpAny _ _ (pure ((n : Int) - 1, (-1 : Int), Builtin.Slice.slicePlaces ((n : Int) - 1) (-1) (-1))) _ _ s
  have e : Builtin.Slice.slicePlaces ((n : Int) - 1) (-1) (-1) = n := by
    unfold Builtin.Slice.slicePlaces
    have h1 : ¬ ((-1 : Int) > 0) := by decide
    rw [if_neg h1]
    by_cases c : (n : Int) - 1 > -1
    · rw [if_pos c, show (- -1 : Int) = 1 by decide, Int.ediv_one]; omega
    · rw [if_neg c]; omega
  rw [e]
  exact wpAny_pure h
theorem pick_rev (xs : Array Value) : ((List.range xs.size).filterMap fun (k : Nat) => xs[(((xs.size : Nat) : Int) - 1 + (k : Int) * (-1)).toNat]?) = xs.toList.reverse := by
  have e : (fun (k : Nat) => xs[(((xs.size : Nat) : Int) - 1 + (k : Int) * (-1)).toNat]?) = (fun j => xs[j]?) ∘ (fun k => xs.size - 1 - k) := by
    funext k
    show xs[(((xs.size : Nat) : Int) - 1 + (k : Int) * (-1)).toNat]? = xs[xs.size - 1 - k]?
    congr 1
    omega
  rw [e, ← List.filterMap_map, PySem.W.krv_range, List.filterMap_reverse, PySem.W.krv_all]
theorem getItem_tuple_rev {t sl : Addr} {items : Array Value} {vl vu vs : Value} {Q : Value → Shared → Prop} (ht : IsTup s.heap t items) (hs : s.heap.IsSliceOf sl vl vu vs) (pl : IsPart vl none) (pu : IsPart vu none) (ps : IsPart vs (some (-1)))
    (h : Q (.ref s.heap.objs.size) { s with heap := s.heap.push { cls := .type "tuple", data := .seq items.toList.reverse.toArray } })
    (hsz : items.size ≤ sizeLine) : wpAny (model prog w) A (getItem (.ref t) (.ref sl)) Q E s := by
  have htake : sizeOk (.seq items.toList.reverse.toArray) := by
    show items.toList.reverse.toArray.size ≤ sizeLine
    rw [List.size_toArray, List.length_reverse, Array.length_toList]
    exact hsz
  obtain ⟨os, hos, hcs, hds⟩ := id hs
  have hTs : s.TypeIs (.ref sl) "slice" := ⟨os, hos, hcs⟩
  unfold getItem
  try with_reducible refine wpAny_holding ?_
  first | refine wpAny_bind (wpAny_pure ?_) | skip
  refine wpAny_bind (wpAny_sequenceKey ht.typeIs (by decide) ?_)
  refine wpAny_bind (wpAny_callSpecial?_slot (name := Str.ofString "__getitem__") ht.typeIs PyProof.Rows.slot_tuple_getitem
    (wpAny_call_entry PyProof.Rows.slot_tuple_getitem ht.typeIs entry_tuple_getitem ?_ (args_tuple_getitem _ _)))
  show wpAny _ _ (Builtin.Tuple.tupleItemsOf (.ref t) >>= _) _ _ s
  refine wpAny_bind (tupleItemsOf_ ht ?_)
  refine wpAny_bind (wpAny_typeOf hTs ?_)
  rw [if_pos (by decide)]
  refine wpAny_bind (applied_rev hs pl pu ps ?_)
  have hno : ¬ (((((items.size : Nat) : Int) - 1 == 0) && (-1 : Int) == 1 && items.size == items.size) = true) := by
    intro q
    rw [Bool.and_eq_true, Bool.and_eq_true] at q
    exact absurd q.1.2 (by decide)
  show wpAny _ _ (if ((((items.size : Nat) : Int) - 1 == 0) && (-1 : Int) == 1 && items.size == items.size) = true then _ else _) _ _ s
  rw [if_neg hno, pick_rev]
  first
    | exact wpAny_bind (m := Builtin.Tuple.tupleExact _) (wpAny_newObj_type (wpAny_pure ⟨_, rfl, wpAny_pure h⟩) htake)
    | exact wpAny_bind (m := Builtin.Tuple.tupleExact _) (wpAny_newObj_type (wpAny_bind (wpAny_pure (wpAny_pure ⟨_, rfl, wpAny_pure h⟩))) htake)
    | exact wpAny_bind (wpAny_bind (m := Builtin.Tuple.tupleExact _) (wpAny_newObj_type (wpAny_pure (wpAny_pure ⟨_, rfl, wpAny_pure h⟩)) htake))
    | exact wpAny_bind (wpAny_bind (m := Builtin.Tuple.tupleExact _) (wpAny_newObj_type (wpAny_pure ⟨_, rfl, wpAny_pure h⟩) htake))
end
section
variable {X : Cx}
def tRevT (K : PySem.W.Frag) (te : TE) : TE := fun σ H Q => te σ H fun x H1 => ∃ a xs, x = .ref a ∧ SqT K H1 a xs ∧ ∀ p, H1 p = none → Q (.ref p) (upd H1 p (.tup xs.reverse))
theorem pe_revT {e : Expr} {te : TE} {k : Nat} {p1 p2 p3 pos : Pos} (he : PE X e te) : PE X (.Subscript e (.Slice none none (some (.UnaryOp .USub (.Constant (.int 1) k p1) p2)) p3) pos) (tRevT X.K te) := by
  refine ⟨fun pins s σ H Q I h => ?_⟩
  refine Subscript_ (thn (he.run pins s σ H _ I h) fun v s1 ⟨x, H1, I1, r1, q1⟩ => ?_)
  obtain ⟨a, xs, ex, hx, q⟩ := q1
  subst ex
  cases r1
  have hst : PO X (some (.UnaryOp .USub (.Constant (.int 1) k p1) p2)) (tPart (tUn (rU fun i => .int (-i)) (tC (.int 1)))) := po_some (pe_un un_neg pe_int)
  refine wpAny_Slice (thn (po_none.run pins s1 σ H1 (fun o H2 => o = none ∧ H2 = H1) I1 ⟨rfl, rfl⟩) fun vl s2 ⟨l, H2, I2, pl, el, e2⟩ => ?_)
  subst el e2
  refine thn (po_none.run pins s2 σ H2 (fun o H3 => o = none ∧ H3 = H2) I2 ⟨rfl, rfl⟩) fun vu s3 ⟨u, H3, I3, pu, eu, e3⟩ => ?_
  subst eu e3
  refine thn (hst.run pins s3 σ H3 (fun o H4 => o = some (-1) ∧ H4 = H3) I3 ⟨1, rfl, -1, rfl, rfl, rfl⟩) fun vs s4 ⟨o, H4, I4, ps, eo, e4⟩ => ?_
  subst eo e4
  have I5 : Inv X pins σ H4 { s4 with heap := s4.heap.push { cls := .type "slice", data := .fields #[vl, vu, vs] } } := I4.kept (t' := s4.toks) fun b ob q => Heap.get?_push_of_some _ q
  obtain ⟨its, r, ht, hz⟩ := I5.tuple hx
  have hlen := r.length
  show wpAny (model X.prog X.w) X.A (subscriptTail e (.Slice none none (some (.UnaryOp .USub (.Constant (.int 1) k p1) p2)) p3) (.ref a) (.ref s4.heap.objs.size)) (EP X pins σ Q) X.xe { s4 with heap := s4.heap.push { cls := .type "slice", data := .fields #[vl, vu, vs] } }
  refine tail_any (ops := [.ref a, .ref s4.heap.objs.size]) ht.typeIs PyProof.Rows.slot_tuple_getitem.lookup ?_ (by with_unfolding_all rfl)
  refine getItem_tuple_rev ht (Heap.IsSliceOf.new _ vl vu vs) pl pu ps ?_ (by rw [List.size_toArray]; omega)
  refine ⟨.ref _, _, I5.laid (t' := s4.toks) (o := .tup xs.reverse) (fun b ob q => Heap.get?_push_of_some _ q) (Nat.le_refl _) ?_, rfl, q _ (I5.hok.fresh (Nat.le_refl _))⟩
  exact ⟨by rw [List.length_reverse]; exact hz, _, r.reverse, IsTup.new _ _⟩
end
end Kr

set_option Elab.async false
set_option linter.all false
set_option maxRecDepth 100000
set_option maxHeartbeats 4000000
/-! Tables of small ints: laid anew, each at its own slot. -/
namespace Kw
open PySem PySem.Spec PyProof.Rows L2
abbrev Own := Array (Option Nat)
def lstep (mask : Nat) (acc : Option (Own × Nat)) (h : Int) : Option (Own × Nat) := do
  let (owner, k) ← acc
  let j ← SetTable.layClean.free mask owner (SetTable.turns mask) (SetTable.bits h % (mask + 1)) (SetTable.bits h)
  pure (owner.setIfInBounds j (some k), k + 1)
theorem layClean_eq (mask : Nat) (hs : Array Int) : SetTable.layClean mask hs = (hs.toList.foldl (lstep mask) (some (Array.replicate (mask + 1) none, 0))).map (·.1) := by
  rw [Array.foldl_toList]; rfl
theorem getD_in {owner : Own} {i : Nat} (hi : i < owner.size) (d d' : Option Nat) : owner.getD i d = owner.getD i d' := by
  rw [Array.getD_eq_getD_getElem?, Array.getD_eq_getD_getElem?, Array.getElem?_eq_getElem hi]; rfl
theorem free_first {mask i p f : Nat} {owner : Own} (hs : owner.size = mask + 1) (hi : i ≤ mask) (hn : owner.getD i none = none) : SetTable.layClean.free mask owner (f + 1) i p = some i := by
  have e1 : owner.getD (i + 0) (some 0) = none := by
    rw [Nat.add_zero, getD_in (by omega) (some 0) none]; exact hn
  have e2 : ∃ m, SetTable.runEnd mask i + 1 - i = m + 1 := by
    have : i ≤ SetTable.runEnd mask i := by unfold SetTable.runEnd; split <;> omega
    exact ⟨SetTable.runEnd mask i - i, by omega⟩
  obtain ⟨m, e2⟩ := e2
  have e3 : (List.range (SetTable.runEnd mask i + 1 - i)).find? (fun k => (owner.getD (i + k) (some 0)).isNone) = some 0 := by
    rw [e2, List.range_succ_eq_map, List.find?_cons]
    rw [e1]; rfl
  unfold SetTable.layClean.free
  rw [e3]
  rfl
theorem bits_small {h : Int} (h0 : 0 ≤ h) (h1 : h < 8) : SetTable.bits h = h.toNat := by
  unfold SetTable.bits
  rw [Int.emod_eq_of_lt h0 (by omega)]
theorem setIB_getD {owner : Own} {i j : Nat} {v : Option Nat} (hi : i < owner.size) : (owner.setIfInBounds i v).getD j none = if j = i then v else owner.getD j none := by
  rw [Array.getD_eq_getD_getElem?, Array.getElem?_setIfInBounds, Array.getD_eq_getD_getElem?]
  by_cases h : i = j
  · subst h
    rw [if_pos rfl, if_pos rfl, if_pos hi]; rfl
  · rw [if_neg h, if_neg (fun z => h z.symm)]
theorem lay_fold {mask : Nat} (hm : 7 ≤ mask) : ∀ (hs : List Int) (owner : Own) (k : Nat), owner.size = mask + 1 → (∀ h ∈ hs, 0 ≤ h ∧ h < 8) → hs.Nodup → (∀ h ∈ hs, owner.getD h.toNat none = none) →
    ∃ owner' : Own, hs.foldl (lstep mask) (some (owner, k)) = some (owner', k + hs.length) ∧ owner'.size = mask + 1 ∧ ∀ j : Nat, (∀ i : Nat, hs[i]? = some ((j : Nat) : Int) → owner'.getD j none = some (k + i)) ∧ ((∀ i : Nat, hs[i]? ≠ some ((j : Nat) : Int)) → owner'.getD j none = owner.getD j none)
  | [], owner, k, hsz, _, _, _ => ⟨owner, rfl, hsz, fun j => ⟨fun i h => by simp at h, fun _ => rfl⟩⟩
  | h :: hs, owner, k, hsz, hb, hnd, hfree => by
    obtain ⟨h0, h1⟩ := hb h (List.mem_cons_self ..)
    rw [List.nodup_cons] at hnd
    have fr := hfree h (List.mem_cons_self ..)
    have st : lstep mask (some (owner, k)) h = some (owner.setIfInBounds h.toNat (some k), k + 1) := by
      have e : SetTable.bits h % (mask + 1) = h.toNat := by rw [bits_small h0 h1, Nat.mod_eq_of_lt (by omega)]
      have e2 : SetTable.turns mask = (mask + 14) + 1 := rfl
      show (SetTable.layClean.free mask owner (SetTable.turns mask) (SetTable.bits h % (mask + 1)) (SetTable.bits h)).bind (fun j => some (owner.setIfInBounds j (some k), k + 1)) = _
      rw [e, e2, free_first hsz (by omega) fr]; rfl
    have hin : h.toNat < owner.size := by omega
    obtain ⟨o', e1, e2, e3⟩ := lay_fold hm hs (owner.setIfInBounds h.toNat (some k)) (k + 1) (by rw [Array.size_setIfInBounds]; exact hsz) (fun x hx => hb x (List.mem_cons_of_mem _ hx)) hnd.2 (fun x hx => by
      rw [setIB_getD hin, if_neg (fun z => ?_)]
      · exact hfree x (List.mem_cons_of_mem _ hx)
      · have := hb x (List.mem_cons_of_mem _ hx)
        have e : x = h := by omega
        rw [e] at hx; exact hnd.1 hx)
    refine ⟨o', ?_, e2, fun j => ⟨fun i hi => ?_, fun hno => ?_⟩⟩
    · rw [List.foldl_cons, st, e1, List.length_cons]
      congr 2; omega
    · cases i with
      | zero =>
        simp at hi
        have hno : ∀ i : Nat, hs[i]? ≠ some ((j : Nat) : Int) := fun i z => hnd.1 (by rw [hi]; exact List.mem_of_getElem? z)
        rw [(e3 j).2 hno, setIB_getD hin, if_pos (by omega)]; rfl
      | succ i =>
        have := (e3 j).1 i (by simpa using hi)
        rw [this]; congr 1; omega
    · have hno' : ∀ i : Nat, hs[i]? ≠ some ((j : Nat) : Int) := fun i z => hno (i + 1) (by simpa using z)
      rw [(e3 j).2 hno', setIB_getD hin, if_neg]
      intro z
      exact hno 0 (by simp; omega)
/-- where a clean table of small ints has each -/
theorem layClean_small {mask : Nat} (hm : 7 ≤ mask) {hs : Array Int} (hb : ∀ h ∈ hs.toList, 0 ≤ h ∧ h < 8) (hn : hs.toList.Nodup) : ∃ owner : Own, SetTable.layClean mask hs = some owner ∧ ∀ j : Nat, (∀ i : Nat, hs.toList[i]? = some ((j : Nat) : Int) → owner.getD j none = some i) ∧ ((∀ i : Nat, hs.toList[i]? ≠ some ((j : Nat) : Int)) → owner.getD j none = none) := by
  obtain ⟨o', e1, _, e3⟩ := lay_fold hm hs.toList (Array.replicate (mask + 1) none) 0 (by simp) hb hn (fun h hh => by
    rw [Array.getD_eq_getD_getElem?, Array.getElem?_replicate]; split <;> rfl)
  refine ⟨o', by rw [layClean_eq, e1]; rfl, fun j => ⟨fun i hi => ?_, fun hno => ?_⟩⟩
  · have := (e3 j).1 i hi
    rwa [Nat.zero_add] at this
  · rw [(e3 j).2 hno, Array.getD_eq_getD_getElem?, Array.getElem?_replicate]; split <;> rfl
theorem nodup_len : ∀ {l m : List Int}, l.Nodup → (∀ x ∈ l, x ∈ m) → l.length ≤ m.length
  | [], _, _, _ => Nat.zero_le _
  | a :: l, m, hn, h => by
    rw [List.nodup_cons] at hn
    have ha := h a (List.mem_cons_self ..)
    have z := nodup_len (l := l) (m := m.erase a) hn.2 (fun x hx => (List.mem_erase_of_ne (fun y : x = a => hn.1 (by rw [← y]; exact hx))).mpr (h x (List.mem_cons_of_mem _ hx)))
    rw [List.length_erase_of_mem ha] at z
    have : 0 < m.length := List.length_pos_of_mem ha
    rw [List.length_cons]; omega
theorem keys_of {es : Array (Int × Value)} : ∀ (lv : List (Nat × Nat)), (∀ p ∈ lv, ∃ e, es[p.2]? = some e ∧ keyOf e = (p.1 : Nat)) → (((lv.map (·.2)).filterMap (es[·]?)).map keyOf) = lv.map (fun p => ((p.1 : Nat) : Int))
  | [], _ => rfl
  | p :: lv, h => by
    obtain ⟨e, h1, h2⟩ := h p (List.mem_cons_self ..)
    have ih := keys_of lv (fun q hq => h q (List.mem_cons_of_mem _ hq))
    rw [List.map_cons, List.filterMap_cons, h1]
    show keyOf e :: _ = _
    rw [h2, ih]; rfl
theorem hash_small {k : Int} (h0 : 0 ≤ k) (h1 : k < 8) : hashInt k = k := by
  have : k = 0 ∨ k = 1 ∨ k = 2 ∨ k = 3 ∨ k = 4 ∨ k = 5 ∨ k = 6 ∨ k = 7 := by omega
  rcases this with h | h | h | h | h | h | h | h <;> subst h <;> decide +kernel
/-- the elements of a set of small ints -/
structure Sm (es : Array (Int × Value)) : Prop where
  good : ∀ e ∈ es.toList, GoodE e
  nd : (es.toList.map keyOf).Nodup
  sm : ∀ k ∈ es.toList.map keyOf, 0 ≤ k ∧ k < 7
theorem Sm.hash {es : Array (Int × Value)} (h : Sm es) : (es.map (·.1)).toList = es.toList.map keyOf := by
  rw [Array.toList_map]
  refine List.map_congr_left fun e he => ?_
  obtain ⟨k, tk, e1, e2⟩ := h.good e he
  have ek : keyOf e = k := by unfold keyOf; rw [e1]
  have := h.sm k (by rw [← ek]; exact List.mem_map_of_mem he)
  rw [e2, ek, hash_small this.1 (by omega)]
theorem Sm.size {es : Array (Int × Value)} (h : Sm es) : es.size ≤ 7 := by
  have z := nodup_len (m := [0, 1, 2, 3, 4, 5, 6]) h.nd (fun x hx => by
    have := h.sm x hx
    simp; omega)
  rw [List.length_map, Array.length_toList] at z
  exact z
/-- laid clean -/
theorem laid_small {mask finger moves : Nat} {led plain : Bool} (hm : 7 ≤ mask) {es : Array (Int × Value)} (h : Sm es) : ∃ (t : SetTable) (order : Array Nat), SetTable.laid mask finger moves led plain (es.map (·.1)) = some (t, order) ∧ t.mask = mask ∧ t.dummies = #[] ∧ t.led = led ∧ Ris t.place.toList ∧ t.place.size = es.size ∧
    Sm (order.filterMap (es[·]?)) ∧ (order.filterMap (es[·]?)).size = es.size ∧ (∀ k, k ∈ (order.filterMap (es[·]?)).toList.map keyOf ↔ k ∈ es.toList.map keyOf) := by
  obtain ⟨owner, e1, e2⟩ := layClean_small (hs := es.map (·.1)) hm (by rw [h.hash]; exact fun x hx => ⟨(h.sm x hx).1, by have := h.sm x hx; omega⟩) (by rw [h.hash]; exact h.nd)
  rw [h.hash] at e2
  have lv : ∀ p ∈ (List.range (mask + 1)).filterMap (fun j => (owner.getD j none).map fun i => (j, i)), ∃ e, es[p.2]? = some e ∧ keyOf e = (p.1 : Nat) := by
    rintro ⟨j, i⟩ hp
    obtain ⟨j', hj, hq⟩ := List.mem_filterMap.mp hp
    cases ho : owner.getD j' none with
    | none => rw [ho] at hq; cases hq
    | some i' =>
      rw [ho] at hq
      have hq' : (j', i') = (j, i) := Option.some.inj hq
      have q1 : j' = j := congrArg Prod.fst hq'
      have q2 : i' = i := congrArg Prod.snd hq'
      subst q1 q2
      by_cases hex : ∃ i0 : Nat, (es.toList.map keyOf)[i0]? = some ((j' : Nat) : Int)
      · obtain ⟨i0, h0⟩ := hex
        have := (e2 j').1 i0 h0
        rw [ho] at this
        have q3 := Option.some.inj this
        subst q3
        rw [List.getElem?_map] at h0
        cases he : es.toList[i']? with
        | none => rw [he] at h0; cases h0
        | some e =>
          rw [he] at h0
          exact ⟨e, by rw [← Array.getElem?_toList]; exact he, Option.some.inj h0⟩
      · have := (e2 j').2 (fun i0 z => hex ⟨i0, z⟩)
        rw [ho] at this; cases this
  generalize hL : (List.range (mask + 1)).filterMap (fun j => (owner.getD j none).map fun i => (j, i)) = L at lv
  have fst : L.map (·.1) = (List.range (mask + 1)).filter (fun j => (owner.getD j none).isSome) := by
    rw [← hL]
    generalize List.range (mask + 1) = R
    induction R with
    | nil => rfl
    | cons j R ih =>
      rw [List.filterMap_cons, List.filter_cons]
      cases owner.getD j none with
      | none => exact ih
      | some i => show j :: _ = j :: _; rw [ih]
  have asc : (L.map (·.1)).Pairwise (· < ·) := by rw [fst]; exact (List.pairwise_lt_range (n := mask + 1)).filter _
  have el : ((L.map (·.2)).toArray.filterMap (es[·]?)).toList = (L.map (·.2)).filterMap (es[·]?) := by rw [Array.toList_filterMap]
  have ks := keys_of L lv
  have mem : ∀ k, k ∈ L.map (fun p => ((p.1 : Nat) : Int)) ↔ k ∈ es.toList.map keyOf := by
    intro k
    constructor
    · intro hk
      obtain ⟨p, hp, rfl⟩ := List.mem_map.mp hk
      obtain ⟨e, h1, h2⟩ := lv p hp
      rw [← h2]
      refine List.mem_map_of_mem ?_
      rw [← Array.getElem?_toList] at h1
      exact List.mem_of_getElem? h1
    · intro hk
      obtain ⟨k0, k1⟩ := h.sm k hk
      obtain ⟨i, hi⟩ := List.getElem?_of_mem hk
      have ek : ((k.toNat : Nat) : Int) = k := by omega
      have := (e2 k.toNat).1 i (by rw [ek]; exact hi)
      refine List.mem_map.mpr ⟨(k.toNat, i), ?_, ek⟩
      rw [← hL]
      exact List.mem_filterMap.mpr ⟨k.toNat, List.mem_range.mpr (by omega), by rw [this]; rfl⟩
  have nd : (L.map (fun p => ((p.1 : Nat) : Int))).Nodup := by
    have : L.map (fun p => ((p.1 : Nat) : Int)) = (L.map (·.1)).map (fun n => ((n : Nat) : Int)) := by rw [List.map_map]; rfl
    rw [this]
    rw [List.Nodup, List.pairwise_map]
    exact asc.imp (fun z => by omega)
  have ln : L.length = es.size := by
    have a1 := nodup_len nd (fun x hx => (mem x).mp hx)
    have a2 := nodup_len h.nd (fun x hx => (mem x).mpr hx)
    simp only [List.length_map, Array.length_toList] at a1 a2
    omega
  refine ⟨{ mask, place := (L.map (·.1)).toArray, dummies := #[], finger, led, moves, plain }, (L.map (·.2)).toArray, ?_, rfl, rfl, rfl, asc, ?_, ⟨?_, ?_, ?_⟩, ?_, ?_⟩
  · unfold SetTable.laid
    rw [e1, ← hL]; rfl
  · show (L.map (·.1)).toArray.size = _
    rw [List.size_toArray, List.length_map]; exact ln
  · intro e he
    rw [el] at he
    obtain ⟨i, _, hi⟩ := List.mem_filterMap.mp he
    rw [← Array.getElem?_toList] at hi
    exact h.good e (List.mem_of_getElem? hi)
  · rw [el, ks]; exact nd
  · rw [el, ks]; exact fun k hk => h.sm k ((mem k).mp hk)
  · have : ((L.map (·.2)).toArray.filterMap (es[·]?)).toList.length = L.length := by
      have z := congrArg List.length ks
      rw [List.length_map, List.length_map] at z
      rw [el]; exact z
    rw [Array.length_toList] at this
    omega
  · rw [el, ks]; exact mem
end Kw

set_option Elab.async false
set_option linter.all false
set_option maxRecDepth 100000
set_option maxHeartbeats 4000000
/-! set | set, set - set, of small ints. -/
namespace Kw
open PySem PySem.Spec PyProof.Rows L2
theorem above_ok : ((List.range 101).all fun n => decide (8 ≤ SetTable.sizeAbove n) && decide (SetTable.sizeAbove n ≤ 128)) = true := by decide +kernel
theorem above_of {n : Nat} (h : n ≤ 100) : 8 ≤ SetTable.sizeAbove n ∧ SetTable.sizeAbove n ≤ 128 := by
  have z := List.all_eq_true.mp above_ok n (List.mem_range.mpr (by omega))
  rw [Bool.and_eq_true, decide_eq_true_iff, decide_eq_true_iff] at z
  exact z
/-- a set of ints from 0 to 6 -/
def Sml6 (S : Int → Bool) : Prop := ∀ k, S k = true → 0 ≤ k ∧ k < 7
section
variable {P : Program} {w : World} {A : Around} {E : Value → Shared → Prop} {s : Shared} {a : Addr} {S : Int → Bool} {n : Nat}
theorem sm_of {es : Array (Int × Value)} (sm : Sml6 S) (g : ∀ e ∈ es.toList, GoodE e) (nd : (es.toList.map keyOf).Nodup) (hm : ∀ k, S k = true ↔ k ∈ es.toList.map keyOf) : Sm es := ⟨g, nd, fun k hk => sm k ((hm k).mpr hk)⟩
/-- with a table that has no dummies and at least eight slots -/
def SetQ (w : World) (h : Heap) (a : Addr) (S : Int → Bool) (n : Nat) : Prop :=
  ∃ o es ep t, h.get? a = some o ∧ o.ExactSet ∧ o.data = .set es ep t ∧ (∀ e ∈ es.toList, GoodE e) ∧ (es.toList.map keyOf).Nodup ∧ (∀ k, S k = true ↔ k ∈ es.toList.map keyOf) ∧
    es.size < scanBound ∧ t.fits es.size = true ∧ es.size = n ∧ Ris t.place.toList ∧ (w.params.followText "set-order" = true ∨ t.led = true) ∧ 7 ≤ t.mask ∧ t.dummies = #[]
theorem SetQ.r {h : Heap} (R : SetQ w h a S n) : SetR w h a S n := by
  obtain ⟨o, es, ep, t, ho, hx, hd, g, nd, hm, hb, hf, hn, ris, led, _⟩ := R
  exact ⟨o, es, ep, t, ho, hx, hd, g, nd, hm, hb, hf, hn, ris, led⟩
theorem relay_small {wanted : Nat} {Q : Unit → Shared → Prop} (R : SetR w s.heap a S n) (sm : Sml6 S) (hw : wanted ≤ 100) (hQ : ∀ h', Heap.SameBut a s.heap h' → SetQ w h' a S n → Q () { s with heap := h' }) : wpAny (model P w) A (setRelay a wanted) Q E s := by
  obtain ⟨o, es, ep, t, ho, hx, hd, g, nd, hm, hb, hf, hn, ris, led⟩ := R
  have SM := sm_of sm g nd hm
  obtain ⟨b1, b2⟩ := above_of hw
  obtain ⟨t', order, e1, e2, e3, e4, e5, e6, e7, e8, e9⟩ := laid_small (mask := SetTable.sizeAbove wanted - 1) (finger := t.finger) (moves := t.movedTo (SetTable.sizeAbove wanted - 1)) (led := t.led) (plain := t.plain) (by omega) SM
  unfold setRelay
  refine wpAny_bind (wpAny_setState_of ho hd hf ?_)
  dsimp only
  rw [if_neg (show ¬ SetTable.sizeAbove wanted > sizeLine by rw [sizeLine_eq]; omega)]
  have er : t.relaid (es.map (·.1)) wanted = some (t', order) := e1
  refine wpAny_bind ?_
  rw [er]
  show wpAny _ _ (if ((order.filterMap (es[·]?)).size != es.size) = true then _ else _) _ _ _
  rw [if_neg (by rw [e8]; simp)]
  refine wpAny_pure ?_
  dsimp only
  have hb' : (order.filterMap (es[·]?)).size < scanBound := by rw [e8]; exact hb
  have sz := SM.size
  refine wpAny_storeSet_of ho hd ?_ (fits_of_scanBound hb')
  refine hQ _ (Heap.SameBut.update s.heap a _) ⟨_, _, _, t', store_at ho hd, hx, rfl, e7.good, e7.nd, fun k => (hm k).trans (e9 k).symm, hb', ?_, by rw [e8]; exact hn, e5, led.imp id fun z => by rw [e4]; exact z, by rw [e2]; omega, e3⟩
  unfold SetTable.fits SetTable.fill
  rw [e6, e3, e2, e8]
  simp
  omega
theorem room_small {more : Nat} {Q : Unit → Shared → Prop} (R : SetQ w s.heap a S n) (sm : Sml6 S) (hw : more ≤ 7) (hQ : ∀ h', Heap.SameBut a s.heap h' → SetQ w h' a S n → Q () { s with heap := h' }) : wpAny (model P w) A (setRoomFor a more) Q E s := by
  have R' := R
  obtain ⟨o, es, ep, t, ho, hx, hd, g, nd, hm, hb, hf, hn, ris, led, msk, dum⟩ := R
  have SM := sm_of sm g nd hm
  have sz := SM.size
  have ps : t.place.size = es.size := by
    unfold SetTable.fits at hf
    rw [Bool.and_eq_true, beq_iff_eq] at hf
    exact hf.1
  unfold setRoomFor
  refine wpAny_bind (wpAny_setState_of ho hd hf ?_)
  dsimp only
  unfold SetTable.roomFor
  split
  · rename_i wanted heq
    split at heq
    · have e := Option.some.inj heq
      refine relay_small R'.r sm (by rw [← e, ps]; omega) hQ
    · cases heq
  · exact wpAny_pure (hQ s.heap (Heap.SameBut.refl _ _) R')
theorem walk_at {o : Obj} {es : Array (Int × Value)} {ep : Nat} {t : SetTable} {Q : Array (Int × Value) → Shared → Prop} (ho : s.heap.get? a = some o) (hd : o.data = .set es ep t) (hf : t.fits es.size = true) (led : w.params.followText "set-order" = true ∨ t.led = true)
    (h : ∀ (es' : Array (Int × Value)) d, es'.toList.Perm es.toList → Q es' { s with drawn := d }) : wpAny (model P w) A (setWalk a) Q E s := by
  unfold setWalk
  refine wpAny_bind (wpAny_setState_of ho hd hf ?_)
  dsimp only
  refine wpAny_bind (wpAny_byText ?_)
  by_cases hb : w.params.followText "set-order" = true
  · rw [if_pos hb]
    refine wpAny_bind (wpAny_askSetting ?_)
    exact wpAny_pure (h _ s.drawn (pick_perm _ _))
  · rw [if_neg hb]
    have tl : t.led = true := led.resolve_left hb
    show wpAny _ _ (if (!t.plain && decide (es.size > 1)) = true then _ else _) _ _ _
    split
    · refine wpAny_bind (drawOrder_at es.size es.toList s _ (Nat.le_of_eq (by simp)) fun ys d p => ?_)
      exact wpAny_pure (h ys.toArray d p)
    · refine wpAny_bind ?_
      show wpAny _ _ (if (!t.led && decide (es.size > 1)) = true then _ else _) _ _ _
      rw [tl]
      rw [if_neg (by simp)]
      exact wpAny_pure (wpAny_pure (h es s.drawn (List.Perm.refl _)))
theorem quiet_at {l : List Addr} {Q : Bool → Shared → Prop} (hl : ∀ b ∈ l, ∃ S n, SetR w s.heap b S n) (h : Q true s) : wpAny (model P w) A (setsQuiet l) Q E s := by
  unfold setsQuiet
  refine wpAny_bind (wpAny_forIn_list _ (fun rest b s' => b.1 = none ∧ s' = s ∧ ∀ a ∈ rest, ∃ S n, SetR w s.heap a S n) _ ?turn ?fin l _ ⟨rfl, rfl, hl⟩)
  case turn =>
    rintro a rest ⟨b1, b2⟩ s' ⟨hb, rfl, hr⟩
    obtain ⟨S, n, o, es, ep, t, ho, hx, hd, g, nd, hm, hbd, hf, hn, ris, led⟩ := hr a (List.mem_cons_self ..)
    refine wpAny_bind (wpAny_setEntries_of ho hd hf ?_)
    refine wpAny_bind (MeetsSeq2.wpAny_forIn_array _ (fun rest' b s2 => b.1 = none ∧ s2 = s' ∧ ∀ e ∈ rest', GoodE e) _ ?t2 ?f2 es _ ⟨rfl, rfl, g⟩)
    case t2 =>
      rintro ⟨hh, x⟩ rest' ⟨c1, c2⟩ s2 ⟨hc, rfl, hg⟩
      obtain ⟨k, tk, e1, _⟩ := hg _ (List.mem_cons_self ..)
      have e1' : x = Value.int k tk := e1
      subst e1'
      have hc' : c1 = none := hc
      subst hc'
      exact wpAny_pure ⟨rfl, rfl, fun e he => hg e (List.mem_cons_of_mem _ he)⟩
    case f2 =>
      rintro ⟨c1, c2⟩ s2 ⟨hc, rfl, hg⟩
      have hc' : c1 = none := hc
      subst hc'
      exact wpAny_pure ⟨rfl, rfl, fun e he => hr e (List.mem_cons_of_mem _ he)⟩
  case fin =>
    rintro ⟨b1, b2⟩ s' ⟨hb, rfl, hr⟩
    have hb' : b1 = none := hb
    subst hb'
    exact wpAny_pure h
/-- the elements of the set at a, in some order -/
def Els (S : Int → Bool) (n : Nat) (es : Array (Int × Value)) : Prop := (∀ e ∈ es.toList, GoodE e) ∧ (es.toList.map keyOf).Nodup ∧ (∀ k, S k = true ↔ k ∈ es.toList.map keyOf) ∧ es.size = n
theorem Els.perm {es es' : Array (Int × Value)} (h : Els S n es) (p : es'.toList.Perm es.toList) : Els S n es' := by
  obtain ⟨h1, h2, h3, h4⟩ := h
  refine ⟨fun e he => h1 e (p.mem_iff.mp he), (p.map keyOf).nodup_iff.mpr h2, fun k => (h3 k).trans (p.map keyOf).mem_iff.symm, ?_⟩
  rw [← h4, ← Array.length_toList, ← Array.length_toList, p.length_eq]
theorem unseen_at {f : Addr} {Sf : Int → Bool} {nf : Nat} {others : List Addr} {Q : Array (Int × Value) → Shared → Prop} (R : SetR w s.heap a S n) (Rf : SetR w s.heap f Sf nf) (ne : a ≠ f) (ho' : ∀ b ∈ others, ∃ S n, SetR w s.heap b S n)
    (h : ∀ (es' : Array (Int × Value)) h' d, Els S n es' → Heap.SameBut f s.heap h' → SetR w h' f Sf nf → Q es' { s with heap := h', drawn := d }) : wpAny (model P w) A (setWalkUnseen a others (some f)) Q E s := by
  have R' := R
  have Rf' := Rf
  obtain ⟨o, es, ep, t, ho, hx, hd, g, nd, hm, hb, hf, hn, ris, led⟩ := R
  obtain ⟨fo, fes, fep, ft, fho, fhx, fhd, fg, fnd, fhm, fhb, fhf, fhn, fris, fled⟩ := Rf
  have els : Els S n es := ⟨g, nd, hm, hn⟩
  have walk : wpAny (model P w) A (setWalk a) Q E s := walk_at ho hd hf led fun es' d p => h es' s.heap d (els.perm p) (Heap.SameBut.refl _ _) Rf'
  unfold setWalkUnseen
  refine wpAny_bind (wpAny_setState_of ho hd hf ?_)
  dsimp only
  refine wpAny_bind (wpAny_byText ?_)
  split
  · exact walk
  · rename_i hc
    have nbt : w.params.followText "set-order" ≠ true := fun z => hc (by rw [z]; rfl)
    have tl : t.led = true := led.resolve_left nbt
    have fl : ft.led = true := fled.resolve_left nbt
    refine wpAny_bind (quiet_at (fun b hb => ?_) ?_)
    · rcases List.mem_cons.mp hb with z | z
      · rw [z]; exact ⟨S, n, R'⟩
      · exact ho' b z
    · rw [if_neg (by decide)]
      refine wpAny_bind (wpAny_rule ?_)
      refine wpAny_bind (wpAny_setState_of fho fhd fhf ?_)
      dsimp only
      split
      · have ff : ({ ft with led := ft.led && t.led, plain := ft.plain && t.plain } : SetTable).fits fes.size = true := fhf
        refine wpAny_bind (wpAny_storeSet_of fho fhd ?_ (fits_of_scanBound fhb))
        refine wpAny_pure (h es _ s.drawn els (Heap.SameBut.update s.heap f _) ⟨_, fes, _, _, store_at fho fhd, fhx, rfl, fg, fnd, fhm, fhb, ff, fhn, fris, .inr ?_⟩)
        show (ft.led && t.led) = true
        rw [fl, tl]; rfl
      · exact wpAny_pure (h es s.heap s.drawn els (Heap.SameBut.refl _ _) Rf')
theorem road0 {ts to : SetTable} (h0 : ts.fill = 0) : ts.road to = if (ts.mask == to.mask && to.dummies.isEmpty) = true then .slotForSlot else .clean := by
  unfold SetTable.road
  rw [h0]; rfl
/-- into an empty one -/
theorem merge0 {r : Addr} {each : Sem Unit} {Q : Unit → Shared → Prop} (Rr : SetQ w s.heap r (fun _ => false) 0) (Ro : SetR w s.heap a S n) (ne : r ≠ a) (sm : Sml6 S)
    (h : ∀ h', Heap.SameBut r s.heap h' → SetQ w h' r S n → Q () { s with heap := h' }) : wpAny (model P w) A (setMerge r a each) Q E s := by
  have Rr' := Rr
  obtain ⟨o, es, ep, t, ho, hx, hd, g, nd, hm, hb, hf, hn, ris, led⟩ := Ro
  have SM := sm_of sm g nd hm
  have sz := SM.size
  unfold setMerge
  rw [if_neg (by simpa using ne)]
  refine wpAny_bind (wpAny_setState_of ho hd hf ?_)
  dsimp only
  by_cases he : es.isEmpty = true
  · rw [if_pos he]
    have e0 : es = #[] := Array.isEmpty_iff.mp he
    subst e0
    refine wpAny_pure ?_
    have hS : S = fun _ => false := funext fun k => by
      cases z : S k with
      | false => rfl
      | true => have := (hm k).mp z; simp at this
    have hn0 : n = 0 := hn.symm
    subst hS hn0
    exact h s.heap (Heap.SameBut.refl _ _) Rr'
  · rw [if_neg he]
    refine wpAny_bind (room_small Rr' (fun k z => nomatch z) (by omega) fun h1 sb1 R1 => ?_)
    obtain ⟨ro, res, rep, rt, rho, rhx, rhd, rg, rnd, rhm, rhb, rhf, rhn, rris, rled, rmsk, rdum⟩ := R1
    have ho1 : h1.get? a = some o := (sb1.2 a ne.symm).trans ho
    refine wpAny_bind (wpAny_setState_of (s := { s with heap := h1 }) rho rhd rhf ?_)
    dsimp only
    have r0 : rt.fill = 0 := by
      unfold SetTable.fits at rhf
      rw [Bool.and_eq_true, beq_iff_eq] at rhf
      unfold SetTable.fill
      rw [rhf.1, rdum, rhn]; rfl
    rw [road0 r0]
    by_cases hc : (rt.mask == t.mask && t.dummies.isEmpty) = true
    · rw [if_pos hc]
      dsimp only
      rw [Bool.and_eq_true, beq_iff_eq] at hc
      refine wpAny_storeSet_of (s := { s with heap := h1 }) rho rhd ?_ (fits_of_scanBound hb)
      refine h _ (sb1.trans (Heap.SameBut.update h1 r _)) ⟨_, es, _, _, store_at rho rhd, rhx, rfl, g, nd, hm, hb, hf, hn, ris, ?_, by rw [← hc.1]; exact rmsk, Array.isEmpty_iff.mp hc.2⟩
      rcases led with z | z
      · exact .inl z
      · rcases rled with y | y
        · exact .inl y
        · exact .inr (by show (rt.led && t.led) = true; rw [y, z]; rfl)
    · rw [if_neg hc]
      dsimp only
      obtain ⟨t', order, e1, e2, e3, e4, e5, e6, e7, e8, e9⟩ := laid_small (mask := rt.mask) (finger := rt.finger) (moves := rt.moves) (led := rt.led && t.led) (plain := rt.plain && t.plain) rmsk SM
      refine wpAny_bind ?_
      rw [e1]
      show wpAny _ _ (if ((order.filterMap (es[·]?)).size != es.size) = true then _ else _) _ _ _
      rw [if_neg (by rw [e8]; simp)]
      refine wpAny_pure ?_
      dsimp only
      have hb' : (order.filterMap (es[·]?)).size < scanBound := by rw [e8]; exact hb
      refine wpAny_storeSet_of (s := { s with heap := h1 }) rho rhd ?_ (fits_of_scanBound hb')
      refine h _ (sb1.trans (Heap.SameBut.update h1 r _)) ⟨_, _, _, t', store_at rho rhd, rhx, rfl, e7.good, e7.nd, fun k => (hm k).trans (e9 k).symm, hb', ?_, by rw [e8]; exact hn, e5, ?_, by rw [e2]; exact rmsk, e3⟩
      · unfold SetTable.fits SetTable.fill
        rw [e6, e3, e2, e8]
        simp
        omega
      · rcases led with z | z
        · exact .inl z
        · rcases rled with y | y
          · exact .inl y
          · exact .inr (by rw [e4, y, z]; rfl)
/-- into any one -/
theorem merge1 {r : Addr} {Sr : Int → Bool} {nr : Nat} {each : Sem Unit} {Q : Unit → Shared → Prop} (Rr : SetQ w s.heap r Sr nr) (Ro : SetR w s.heap a S n) (ne : r ≠ a) (smr : Sml6 Sr) (sm : Sml6 S)
    (heach : ∀ (s' : Shared) (Q' : Unit → Shared → Prop), (∀ o, s.heap.get? a = some o → s'.heap.get? a = some o) → Q' () s' → wpAny (model P w) A each Q' E s')
    (h : ∀ h' d c, Heap.SameBut r s.heap h' → SetR w h' r (fun k => Sr k || S k) c → c ≤ 20 → Q () { s with heap := h', drawn := d }) : wpAny (model P w) A (setMerge r a each) Q E s := by
  have szr : nr ≤ 7 := by
    obtain ⟨o, es, ep, t, ho, hx, hd, g, nd, hm, hb, hf, hn, _⟩ := Rr
    rw [← hn]; exact (sm_of smr g nd hm).size
  by_cases h0 : nr = 0
  · subst h0
    have e0 : Sr = fun _ => false := by
      obtain ⟨o, es, ep, t, ho, hx, hd, g, nd, hm, hb, hf, hn, _⟩ := Rr
      funext k
      cases z : Sr k with
      | false => rfl
      | true =>
        have y := (hm k).mp z
        have : es.toList = [] := List.length_eq_zero_iff.mp (by rw [Array.length_toList]; exact hn)
        rw [this] at y; simp at y
    subst e0
    have sz : n ≤ 7 := by
      obtain ⟨o, es, ep, t, ho, hx, hd, g, nd, hm, hb, hf, hn, _⟩ := Ro
      rw [← hn]; exact (sm_of sm g nd hm).size
    refine merge0 Rr Ro ne sm fun h' sb R => ?_
    have e1 : (fun k => false || S k) = S := by funext k; rfl
    exact h h' s.drawn n sb (by rw [e1]; exact R.r) (by omega)
  · have Ro' := Ro
    obtain ⟨o, es, ep, t, ho, hx, hd, g, nd, hm, hb, hf, hn, ris, led⟩ := Ro
    have SM := sm_of sm g nd hm
    have sz := SM.size
    unfold setMerge
    rw [if_neg (by simpa using ne)]
    refine wpAny_bind (wpAny_setState_of ho hd hf ?_)
    dsimp only
    by_cases he : es.isEmpty = true
    · rw [if_pos he]
      have e0 : es = #[] := Array.isEmpty_iff.mp he
      subst e0
      refine wpAny_pure ?_
      have hS : S = fun _ => false := funext fun k => by
        cases z : S k with
        | false => rfl
        | true => have := (hm k).mp z; simp at this
      subst hS
      have e1 : (fun k => Sr k || false) = Sr := by funext k; exact Bool.or_false _
      exact h s.heap s.drawn nr (Heap.SameBut.refl _ _) (by rw [e1]; exact Rr.r) (by omega)
    · rw [if_neg he]
      refine wpAny_bind (room_small Rr smr (by omega) fun h1 sb1 R1 => ?_)
      have R1r := R1.r
      obtain ⟨ro, res, rep, rt, rho, rhx, rhd, rg, rnd, rhm, rhb, rhf, rhn, rris, rled, rmsk, rdum⟩ := R1
      have ho1 : h1.get? a = some o := (sb1.2 a ne.symm).trans ho
      refine wpAny_bind (wpAny_setState_of (s := { s with heap := h1 }) rho rhd rhf ?_)
      dsimp only
      have rf : rt.road t = .oneByOne := by
        unfold SetTable.road
        rw [if_pos]
        unfold SetTable.fits at rhf
        rw [Bool.and_eq_true, beq_iff_eq] at rhf
        unfold SetTable.fill
        rw [rhf.1, rhn, rdum]
        simp
        exact h0
      rw [rf]
      dsimp only
      have Ro1 : SetR w h1 a S n := Ro'.at fun o' z => (sb1.2 a ne.symm).trans z
      refine wpAny_bind (unseen_at (s := { s with heap := h1 }) Ro1 R1r ne.symm (fun b hb => by rw [List.mem_singleton.mp hb]; exact ⟨_, _, R1r⟩) fun es' h2 d el sb2 R2 => ?_)
      obtain ⟨eg, en, em, esz⟩ := el
      have sb12 := sb1.trans sb2
      refine wpAny_bind (MeetsSeq2.wpAny_forIn_array _ (fun rest b s' => ∃ h' S' c, s' = { s with heap := h', drawn := d } ∧ Heap.SameBut r s.heap h' ∧ SetR w h' r S' c ∧ c + rest.length ≤ 14 ∧ (∀ e ∈ rest, GoodE e) ∧ ∀ k, (S' k = true ∨ k ∈ rest.map keyOf) ↔ (Sr k = true ∨ S k = true)) _ ?turn ?fin es' _ ⟨h2, Sr, nr, rfl, sb12, R2, by rw [Array.length_toList, esz, ← hn]; omega, eg, fun k => by rw [em k]⟩)
      case turn =>
        rintro ⟨hh, x⟩ rest b s' ⟨h', S', c, rfl, sb, R', hc, hg, hk⟩
        obtain ⟨k, tk, e1, e2⟩ := hg _ (List.mem_cons_self ..)
        have e1' : x = Value.int k tk := e1
        have e2' : hh = (intKind P w).hash k := e2
        subst e1' e2'
        rw [List.length_cons] at hc
        refine wpAny_bind (wpAny_holding (setR_add_hashed (s := { s with heap := h', drawn := d }) R' (by unfold scanBound; omega) fun h3 sb3 R3 => ?_))
        have sb' := sb.trans sb3
        have ho3 : h3.get? a = some o := (sb'.2 a ne.symm).trans ho
        refine wpAny_bind (heach _ _ (fun o' z => (sb'.2 a ne.symm).trans z) ?_)
        refine wpAny_bind (wpAny_setState_of (s := { s with heap := h3, drawn := d }) ho3 hd hf ?_)
        dsimp only
        rw [if_neg (by simp)]
        refine wpAny_pure ⟨h3, _, _, rfl, sb', R3, ?_, fun e he => hg e (List.mem_cons_of_mem _ he), fun j => ?_⟩
        · split <;> omega
        · rw [← hk j, Bool.or_eq_true, decide_eq_true_iff, List.map_cons, List.mem_cons]
          have ek : keyOf ((intKind P w).hash k, Value.int k tk) = k := rfl
          rw [ek]
          constructor
          · rintro ((z | z) | z)
            · exact .inl z
            · exact .inr (.inl z)
            · exact .inr (.inr z)
          · rintro (z | z | z)
            · exact .inl (.inl z)
            · exact .inl (.inr z)
            · exact .inr z
      case fin =>
        rintro b s' ⟨h', S', c, rfl, sb, R', hc, hg, hk⟩
        refine wpAny_pure ?_
        have eS : S' = fun k => Sr k || S k := by
          funext k
          have z := hk k
          simp only [List.map_nil, List.not_mem_nil, or_false] at z
          rw [Bool.eq_iff_iff, z, Bool.or_eq_true]
        rw [eS] at R'
        exact h h' d c sb R' (by omega)
end
end Kw

set_option Elab.async false
set_option linter.all false
set_option maxRecDepth 100000
set_option maxHeartbeats 4000000
namespace Kw
open PySem PySem.Spec PyProof.Rows L2
section
variable {P : Program} {w : World} {A : Around} {E : Value → Shared → Prop} {s : Shared} {l r : Addr} {S T : Int → Bool} {n m : Nat}
theorem set_ty (R : SetR w s.heap l S n) : s.TypeIs (.ref l) "set" := by
  obtain ⟨o, es, ep, t, ho, hx, _⟩ := R
  exact ⟨o, ho, hx.1⟩
theorem any_set {Q : Bool → Shared → Prop} (R : SetR w s.heap l S n) (h : Q true s) : wpAny (model P w) A (Builtin.Frozenset.isAnySet (.ref l)) Q E s := by
  unfold Builtin.Frozenset.isAnySet orM
  refine wpAny_bind (wpAny_isInstance (set_ty R) PySem.F.sub_set_set ?_)
  exact wpAny_pure h
theorem both_sets {Q : Bool → Shared → Prop} (Rl : SetR w s.heap l S n) (Rr : SetR w s.heap r T m) (h : Q true s) : wpAny (model P w) A (Builtin.Frozenset.isAnySet (.ref l) <&&> Builtin.Frozenset.isAnySet (.ref r)) Q E s := by
  unfold andM
  exact wpAny_bind (any_set Rl (any_set Rr h))
theorem fresh_q {h : Heap} : SetQ w (h.push { cls := .type "set", dict := none, data := .set #[] 0 (.fresh 0 0 (!w.params.followText "set-order")) }) h.objs.size (fun _ => false) 0 := by
  refine ⟨_, #[], 0, _, Heap.get?_push_size _ rfl, ⟨rfl, rfl, rfl⟩, rfl, (fun e he => by simp at he), (by simp), (fun k => by simp), (by decide), (by rfl), rfl, List.Pairwise.nil, ?_, Nat.le_refl 7, rfl⟩
  show _ ∨ (!w.params.followText "set-order") = true
  cases w.params.followText "set-order" <;> simp
theorem new_set_at {Q : Value → Shared → Prop} (h : Q (.ref s.heap.objs.size) { s with heap := s.heap.push { cls := .type "set", dict := none, data := .set #[] 0 (.fresh 0 0 (!w.params.followText "set-order")) } }) : wpAny (model P w) A (newSet (.type "set")) Q E s := by
  unfold newSet
  refine wpAny_bind (wpAny_byText ?_)
  simp only [newObj]
  exact wpAny_bind (wpAny_alloc (wpAny_pure h))
theorem copy_at {Q : Value → Shared → Prop} (R : SetR w s.heap l S n) (sm : Sml6 S)
    (h : ∀ h', (∀ b o, s.heap.get? b = some o → h'.get? b = some o) → SetQ w h' s.heap.objs.size S n → Q (.ref s.heap.objs.size) { s with heap := h' }) : wpAny (model P w) A (Builtin.Frozenset.copyOf l) Q E s := by
  unfold Builtin.Frozenset.copyOf Builtin.Frozenset.baseOf
  refine wpAny_bind (wpAny_bind (wpAny_isInstance (set_ty R) PySem.F.sub_set_set ?_))
  refine wpAny_pure ?_
  refine wpAny_bind ?_
  unfold newSet
  refine wpAny_bind (wpAny_byText ?_)
  have ll : l < s.heap.objs.size := R.lt
  have fin : wpAny (model P w) A (Builtin.Frozenset.addrOf (.ref s.heap.objs.size) >>= fun x => setMerge x l >>= fun _ => pure (Value.ref s.heap.objs.size)) Q E { s with heap := s.heap.push { cls := .type "set", dict := none, data := .set #[] 0 (.fresh 0 0 (!w.params.followText "set-order")) } } := by
    refine wpAny_bind (wpAny_pure ?_)
    refine wpAny_bind (merge0 (s := { s with heap := _ }) fresh_q (R.at fun o z => Heap.get?_push_of_some _ z) (Nat.ne_of_gt ll) sm fun h' sb R' => ?_)
    refine wpAny_pure (h h' (fun b o z => ?_) R')
    exact (sb.2 b (Nat.ne_of_lt (Heap.lt_size z))).trans (Heap.get?_push_of_some _ z)
  simp only [newObj]
  refine wpAny_bind (wpAny_alloc (wpAny_pure ?_))
  exact fin
theorem epoch_same {was : Nat} {id : String} {Q : Unit → Shared → Prop} {o : Obj} {es : Array (Int × Value)} {t : SetTable} (ho : s.heap.get? l = some o) (hd : o.data = .set es was t) (hf : t.fits es.size = true) (h : Q () s) : wpAny (model P w) A (Builtin.Frozenset.unchanged id l was) Q E s := by
  unfold Builtin.Frozenset.unchanged
  refine wpAny_bind (wpAny_setEpoch_of ho hd hf ?_)
  rw [if_neg (by simp)]
  exact wpAny_pure h
theorem or_body {Q : Value → Shared → Prop} (Rl : SetR w s.heap l S n) (Rr : SetR w s.heap r T m) (ne : l ≠ r) (sl : Sml6 S) (sr : Sml6 T)
    (h : ∀ h' d c, (∀ b o, s.heap.get? b = some o → h'.get? b = some o) → SetR w h' s.heap.objs.size (fun k => S k || T k) c → c ≤ 20 → Q (.ref s.heap.objs.size) { s with heap := h', drawn := d }) :
    wpAny (model P w) A (Builtin.«frozenset.__or__» ⟨[.ref l, .ref r], []⟩) (fun fin s' => ∃ v, fin = .done (.ret v) ∧ Q v s') E s := by
  refine wpAny_bind (m := Builtin.Frozenset.slot1 "__or__" ⟨[.ref l, .ref r], []⟩) ?_
  refine wpAny_of_eq (a := (Value.ref l, Value.ref r)) rfl ?_
  dsimp only
  refine wpAny_bind (both_sets Rl Rr ?_)
  refine wp_if_neg (by decide) ?_
  refine wpAny_bind (m := Builtin.Frozenset.addrOf (.ref l)) (wpAny_pure ?_)
  refine wpAny_bind ?_
  refine wpAny_bind (m := Builtin.Frozenset.copyOf l) (copy_at Rl sl fun h1 k1 R1 => ?_)
  have lr : r < s.heap.objs.size := Rr.lt
  have nr : (Value.ref r != Value.ref l) = true := by
    rw [bne_iff_ne]; exact fun z => ne (Value.ref.inj z).symm
  have Rr1 : SetR w h1 r T m := Rr.at fun o z => k1 _ _ z
  have big : h1.objs.size > s.heap.objs.size := by
    obtain ⟨o, _, _, _, ho, _⟩ := R1
    exact Heap.lt_size ho
  refine wp_if_pos nr ?_
  refine wpAny_bind (m := Builtin.Frozenset.addrOf (.ref s.heap.objs.size)) (wpAny_pure ?_)
  refine wpAny_bind (wpAny_holding ?_)
  unfold Builtin.Frozenset.updateFrom
  refine wpAny_bind (any_set (s := { s with heap := h1 }) Rr1 ?_)
  refine wp_if_pos rfl ?_
  refine wpAny_bind (m := Builtin.Frozenset.addrOf (.ref r)) (wpAny_pure ?_)
  unfold Builtin.Frozenset.merge
  obtain ⟨ro, res, rep, rt, rho, rhx, rhd, rg, rnd, rhm, rhb, rhf, rhn, rris, rled⟩ := id Rr1
  refine wpAny_bind (wpAny_setEpoch_of (s := { s with heap := h1 }) rho rhd rhf ?_)
  refine merge1 (s := { s with heap := h1 }) R1 Rr1 (Nat.ne_of_gt lr) sl sr (fun s' Q' ks q => epoch_same (ks _ rho) rhd rhf q) fun h2 d c sb R2 hc => ?_
  refine wpAny_pure (wpAny_pure ⟨_, rfl, h h2 d c (fun b o z => ?_) R2 hc⟩)
  exact (sb.2 b (Nat.ne_of_lt (Heap.lt_size z))).trans (k1 _ _ z)
theorem unseen_few {others : List Addr} {f : Option Addr} {Q : Array (Int × Value) → Shared → Prop} (R : SetR w s.heap l S n) (hn : n ≤ 1) (h : ∀ (es' : Array (Int × Value)) d, Els S n es' → Q es' { s with drawn := d }) : wpAny (model P w) A (setWalkUnseen l others f) Q E s := by
  obtain ⟨o, es, ep, t, ho, hx, hd, g, nd, hm, hb, hf, hsz, ris, led⟩ := R
  unfold setWalkUnseen
  refine wpAny_bind (wpAny_setState_of ho hd hf ?_)
  dsimp only
  refine wpAny_bind (wpAny_byText ?_)
  refine wp_if_pos (by rw [hsz, decide_eq_true hn, Bool.or_true]) ?_
  exact walk_at ho hd hf led fun es' d p => h es' d (Els.perm ⟨g, nd, hm, hsz⟩ p)
theorem size_at {Q : Nat → Shared → Prop} (R : SetR w s.heap l S n) (h : Q n s) : wpAny (model P w) A (Builtin.Frozenset.sizeOf l) Q E s := by
  obtain ⟨o, es, ep, t, ho, hx, hd, g, nd, hm, hb, hf, hn, ris, led⟩ := R
  unfold Builtin.Frozenset.sizeOf
  refine wpAny_bind (wpAny_setEntries_of ho hd hf (wpAny_pure ?_))
  rw [hn]; exact h
theorem sub_body {Q : Value → Shared → Prop} (Rl : SetR w s.heap l S n) (Rr : SetR w s.heap r T m) (ne : l ≠ r) (sl : Sml6 S) (sr : Sml6 T)
    (h : ∀ h' d c, (∀ b o, s.heap.get? b = some o → h'.get? b = some o) → SetR w h' s.heap.objs.size (fun k => S k && !T k) c → c ≤ 20 → Q (.ref s.heap.objs.size) { s with heap := h', drawn := d }) :
    wpAny (model P w) A (Builtin.«frozenset.__sub__» ⟨[.ref l, .ref r], []⟩) (fun fin s' => ∃ v, fin = .done (.ret v) ∧ Q v s') E s := by
  have szl : n ≤ 7 := by
    obtain ⟨o, es, ep, t, ho, hx, hd, g, nd, hm, hb, hf, hn, _⟩ := Rl
    rw [← hn]; exact (sm_of sl g nd hm).size
  have lr : r < s.heap.objs.size := Rr.lt
  have ll : l < s.heap.objs.size := Rl.lt
  refine wpAny_bind (m := Builtin.Frozenset.slot1 "__sub__" ⟨[.ref l, .ref r], []⟩) ?_
  refine wpAny_of_eq (a := (Value.ref l, Value.ref r)) rfl ?_
  dsimp only
  refine wpAny_bind (both_sets Rl Rr ?_)
  refine wp_if_neg (by decide) ?_
  refine wpAny_bind (m := Builtin.Frozenset.addrOf (.ref l)) (wpAny_pure ?_)
  refine wpAny_bind ?_
  unfold Builtin.Frozenset.difference
  dsimp only
  refine wpAny_bind (any_set Rr ?_)
  refine wp_if_neg (by decide) ?_
  refine wpAny_bind (m := Builtin.Frozenset.addrOf (.ref r)) (wpAny_pure ?_)
  refine wp_if_neg (show ¬ (!true && (r == sysModules)) = true by simp) ?_
  refine wp_if_pos rfl ?_
  refine wpAny_bind (size_at Rr ?_)
  refine wpAny_bind (size_at Rl ?_)
  by_cases big : n / 4 > m
  · refine wp_if_pos big ?_
    have m0 : m = 0 := by omega
    subst m0
    have hT : T = fun _ => false := by
      obtain ⟨o, es, ep, t, ho, hx, hd, g, nd, hm, hb, hf, hn, _⟩ := Rr
      funext k
      cases z : T k with
      | false => rfl
      | true =>
        have y := (hm k).mp z
        have : es.toList = [] := List.length_eq_zero_iff.mp (by rw [Array.length_toList]; exact hn)
        rw [this] at y; simp at y
    subst hT
    refine wpAny_bind (wpAny_rule ?_)
    refine wpAny_bind (copy_at Rl sl fun h1 k1 R1 => ?_)
    refine wpAny_bind (m := Builtin.Frozenset.addrOf (.ref s.heap.objs.size)) (wpAny_pure ?_)
    have Rr1 : SetR w h1 r (fun _ => false) 0 := Rr.at fun o z => k1 _ _ z
    have nr : (Value.ref r == Value.ref s.heap.objs.size) = false := beq_eq_false_iff_ne.mpr fun z => Nat.ne_of_lt lr (Value.ref.inj z)
    refine wpAny_bind (wpAny_holding ?_)
    unfold Builtin.Frozenset.differenceUpdate
    refine wp_if_neg (show ¬ (Value.ref r == Value.ref s.heap.objs.size) = true by rw [nr]; decide) ?_
    refine wpAny_bind (any_set (s := { s with heap := h1 }) Rr1 ?_)
    refine wp_if_pos rfl ?_
    refine wpAny_bind (m := Builtin.Frozenset.addrOf (.ref r)) (wpAny_pure ?_)
    refine wpAny_bind (size_at (s := { s with heap := h1 }) Rr1 ?_)
    refine wpAny_bind (size_at (s := { s with heap := h1 }) R1.r ?_)
    refine wp_if_neg (by simp) ?_
    obtain ⟨ro, res, rep, rt, rho, rhx, rhd, rg, rnd, rhm, rhb, rhf, rhn, rris, rled⟩ := id Rr1
    refine wpAny_bind (wpAny_setEpoch_of (s := { s with heap := h1 }) rho rhd rhf ?_)
    refine wpAny_bind (wpAny_holding ?_)
    refine wpAny_bind (unseen_few (s := { s with heap := h1 }) Rr1 (by decide) fun es' d el => ?_)
    have e0 : es' = #[] := Array.size_eq_zero_iff.mp el.2.2.2
    subst e0
    refine wpAny_pure ?_
    unfold setTidy
    obtain ⟨lo, les, lep, lt, lho, lhx, lhd, lg, lnd, lhm, lhb, lhf, lhn, lris, lled, lmsk, ldum⟩ := id R1
    refine wpAny_bind (wpAny_setState_of (s := { s with heap := h1, drawn := d }) lho lhd lhf ?_)
    dsimp only
    have td : lt.tooManyDummies = false := by
      unfold SetTable.tooManyDummies
      rw [ldum]; simp
    refine wp_if_neg (by rw [td]; decide) ?_
    have eS : (fun k => S k && !false) = S := by funext k; exact Bool.and_true _
    refine wpAny_pure (wpAny_pure (wpAny_pure ⟨_, rfl, h h1 d n k1 (by rw [eS]; exact R1.r) (by omega)⟩))
  · refine wp_if_neg big ?_
    unfold Builtin.Frozenset.baseOf
    refine wpAny_bind (wpAny_bind (wpAny_isInstance (set_ty Rl) PySem.F.sub_set_set ?_))
    refine wpAny_pure ?_
    refine wpAny_bind (m := newSet (.type "set")) (new_set_at ?_)
    refine wpAny_bind (m := Builtin.Frozenset.addrOf (.ref s.heap.objs.size)) (wpAny_pure ?_)
    have fq := fresh_q (w := w) (h := s.heap)
    have kp : ∀ b o, s.heap.get? b = some o → (s.heap.push { cls := .type "set", dict := none, data := .set #[] 0 (.fresh 0 0 (!w.params.followText "set-order")) }).get? b = some o := fun b o z => Heap.get?_push_of_some _ z
    generalize s.heap.push { cls := .type "set", dict := none, data := .set #[] 0 (.fresh 0 0 (!w.params.followText "set-order")) } = h1 at fq kp ⊢
    have Rl1 : SetR w h1 l S n := Rl.at fun o z => kp _ _ z
    have Rr1 : SetR w h1 r T m := Rr.at fun o z => kp _ _ z
    obtain ⟨lo, les, lep, lt, lho, lhx, lhd, lg, lnd, lhm, lhb, lhf, lhn, lris, lled⟩ := id Rl1
    refine wpAny_bind (wpAny_setEpoch_of (s := { s with heap := h1 }) lho lhd lhf ?_)
    refine wpAny_bind (wpAny_holding ?_)
    refine wpAny_bind (unseen_at (s := { s with heap := h1 }) (a := l) Rl1 fq.r (Nat.ne_of_lt ll) (fun b hb => ?_) fun es' h2 d el sb2 R2 => ?_)
    · rcases List.mem_cons.mp hb with z | z
      · rw [z]; exact ⟨_, _, Rr1⟩
      · rw [List.mem_singleton.mp z]; exact ⟨_, _, fq.r⟩
    obtain ⟨eg, en, em, esz⟩ := el
    refine wpAny_bind (MeetsSeq2.wpAny_forIn_array _ (fun rest b s' => ∃ h' S' c, s' = { s with heap := h', drawn := d } ∧ Heap.SameBut s.heap.objs.size h1 h' ∧ SetR w h' s.heap.objs.size S' c ∧ c + rest.length ≤ 14 ∧ (∀ e ∈ rest, GoodE e) ∧ (∀ k, S' k = true → T k = false) ∧ ∀ k, T k = false → ((S' k = true ∨ k ∈ rest.map keyOf) ↔ S k = true)) _ ?turn ?fin es' _ ⟨h2, _, 0, rfl, sb2, R2, by rw [Array.length_toList, esz]; omega, eg, (fun k z => (nomatch z)), fun k _ => by rw [em k]; simp⟩)
    case turn =>
      rintro ⟨hh, x⟩ rest b s' ⟨h', S', c, rfl, sb, R', hc, hg, hT, hk⟩
      obtain ⟨k, tk, e1, e2⟩ := hg _ (List.mem_cons_self ..)
      have e1' : x = Value.int k tk := e1
      have e2' : hh = (intKind P w).hash k := e2
      subst e1' e2'
      have ek : keyOf ((intKind P w).hash k, Value.int k tk) = k := rfl
      rw [List.length_cons] at hc
      have Rr2 : SetR w h' r T m := Rr1.at fun o z => (sb.2 r (Nat.ne_of_lt lr)).trans z
      have lho2 : h'.get? l = some lo := (sb.2 l (Nat.ne_of_lt ll)).trans lho
      refine wpAny_bind (wpAny_holding ?_)
      refine wp_if_pos rfl ?_
      refine wpAny_bind (wpAny_setFind_of (s := { s with heap := h', drawn := d }) (knd := intKind P w) (intKind_is P w k tk) rfl Rr2.setOf fun f hf' => ?_)
      by_cases hTk : T k = true
      · refine wp_if_neg (by rw [hf', hTk]; decide) ?_
        refine wpAny_pure ?_
        refine wpAny_bind (epoch_same (s := { s with heap := h', drawn := d }) lho2 lhd lhf ?_)
        refine wpAny_pure ⟨h', S', c, rfl, sb, R', by omega, fun e he => hg e (List.mem_cons_of_mem _ he), hT, fun j hj => ?_⟩
        rw [← hk j hj, List.map_cons, List.mem_cons, ek]
        constructor
        · rintro (z | z)
          · exact .inl z
          · exact .inr (.inr z)
        · rintro (z | z | z)
          · exact .inl z
          · rw [z, hTk] at hj; exact nomatch hj
          · exact .inr z
      · rw [Bool.not_eq_true] at hTk
        refine wp_if_pos (by rw [hf', hTk]; rfl) ?_
        refine wpAny_bind (setR_add_hashed (s := { s with heap := h', drawn := d }) R' (by unfold scanBound; omega) fun h3 sb3 R3 => ?_)
        have sb' := sb.trans sb3
        refine wpAny_pure ?_
        refine wpAny_bind (epoch_same (s := { s with heap := h3, drawn := d }) ((sb'.2 l (Nat.ne_of_lt ll)).trans lho) lhd lhf ?_)
        refine wpAny_pure ⟨h3, _, _, rfl, sb', R3, by split <;> omega, fun e he => hg e (List.mem_cons_of_mem _ he), fun j hj => ?_, fun j hj => ?_⟩
        · rw [Bool.or_eq_true, decide_eq_true_iff] at hj
          rcases hj with z | z
          · exact hT j z
          · rw [z]; exact hTk
        · rw [← hk j hj, List.map_cons, List.mem_cons, ek, Bool.or_eq_true, decide_eq_true_iff]
          constructor
          · rintro ((z | z) | z)
            · exact .inl z
            · exact .inr (.inl z)
            · exact .inr (.inr z)
          · rintro (z | z | z)
            · exact .inl (.inl z)
            · exact .inl (.inr z)
            · exact .inr z
    case fin =>
      rintro b s' ⟨h', S', c, rfl, sb, R', hc, hg, hT, hk⟩
      have eS : S' = fun k => S k && !T k := by
        funext k
        cases hTk : T k with
        | true =>
          cases z : S' k with
          | false => simp
          | true => have := hT k z; rw [hTk] at this; exact nomatch this
        | false =>
          have z := hk k hTk
          simp only [List.map_nil, List.not_mem_nil, or_false] at z
          rw [Bool.eq_iff_iff, z]; simp
      rw [eS] at R'
      refine wpAny_pure (wpAny_pure (wpAny_pure ⟨_, rfl, h h' d c (fun b o z => ?_) R' (by omega)⟩))
      exact (sb.2 b (Nat.ne_of_lt (Heap.lt_size z))).trans (kp _ _ z)
end
section
variable {X : Cx}
theorem entry_sor : entryFor table "set.__or__" = some Builtin.«frozenset.__or__» :=
  entryFor_alias (id' := "frozenset.__or__") (by kernel_rfl) rfl (by decide +kernel) (by kernel_rfl)
theorem entry_ssub : entryFor table "set.__sub__" = some Builtin.«frozenset.__sub__» :=
  entryFor_alias (id' := "frozenset.__sub__") (by kernel_rfl) rfl (by decide +kernel) (by kernel_rfl)
/-- s | t, two sets of small ints -/
def rOrS (w : World) (bin : Bool → Bool → Bool) : R2 := fun x y H Q => ∃ (a b : Addr) (S T : Int → Bool) (n m : Nat), x = .ref a ∧ y = .ref b ∧ a ≠ b ∧ H a = some (SetO w a S n) ∧ H b = some (SetO w b T m) ∧ Sml6 S ∧ Sml6 T ∧
  ∀ p c, H p = none → c ≤ 20 → Q (.ref p) (upd H p (SetO w p (fun k => bin (S k) (T k)) c))
theorem op_orS : OpR X (binaryOp .BitOr) (rOrS X.w fun a b => a || b) := by
  intro pins s σ H x y v u Q I rx ry h
  obtain ⟨a, b, S, T, n, m, rfl, rfl, ne, ha, hb, sS, sT, q⟩ := h
  cases (show v = Value.ref a from rx)
  cases (show u = Value.ref b from ry)
  have Ra := setO_get I ha
  have Rb := setO_get I hb
  refine wpAny_binaryOp_same (set_ty Ra) (set_ty Rb) PySem.F.fills_set_or PySem.F.slot_set_or ?_
  refine wpAny_call (codeAny_call_builtin PySem.F.slot_set_or.plain entry_sor (PySem.F.slot_set_or.check _ _ _ _ _ _ _ _ (set_ty Ra) (PySem.F.args_set_or_2 _ _) ?_))
  refine wpAny_mono (or_body (Q := fun v s' => v ≠ .notImplemented ∧ EP X pins σ Q v s') Ra Rb ne sS sT fun h' d c k R hc => ⟨(fun z => nomatch z), .ref s.heap.objs.size, _, ?_, rfl, q _ c (I.hok.fresh (Nat.le_refl _)) hc⟩) (fun fin s' z => ?_) fun _ _ z => z
  · exact I.call (ch := []) (Un.laid k (Nat.le_refl _) (I.hok.fresh (Nat.le_refl _))) (I.hok.laid k (Nat.le_refl _) (setO_new R)) I.bare (fun _ z => nomatch z)
  · obtain ⟨v, rfl, z⟩ := z
    exact z
theorem op_subS : OpR X (binaryOp .Sub) (rOrS X.w fun a b => a && !b) := by
  intro pins s σ H x y v u Q I rx ry h
  obtain ⟨a, b, S, T, n, m, rfl, rfl, ne, ha, hb, sS, sT, q⟩ := h
  cases (show v = Value.ref a from rx)
  cases (show u = Value.ref b from ry)
  have Ra := setO_get I ha
  have Rb := setO_get I hb
  refine wpAny_binaryOp_same (set_ty Ra) (set_ty Rb) PySem.F.fills_set_sub PySem.F.slot_set_sub ?_
  refine wpAny_call (codeAny_call_builtin PySem.F.slot_set_sub.plain entry_ssub (PySem.F.slot_set_sub.check _ _ _ _ _ _ _ _ (set_ty Ra) (PySem.F.args_set_sub_2 _ _) ?_))
  refine wpAny_mono (sub_body (Q := fun v s' => v ≠ .notImplemented ∧ EP X pins σ Q v s') Ra Rb ne sS sT fun h' d c k R hc => ⟨(fun z => nomatch z), .ref s.heap.objs.size, _, ?_, rfl, q _ c (I.hok.fresh (Nat.le_refl _)) hc⟩) (fun fin s' z => ?_) fun _ _ z => z
  · exact I.call (ch := []) (Un.laid k (Nat.le_refl _) (I.hok.fresh (Nat.le_refl _))) (I.hok.laid k (Nat.le_refl _) (setO_new R)) I.bare (fun _ z => nomatch z)
  · obtain ⟨v, rfl, z⟩ := z
    exact z
end
end Kw

set_option Elab.async false
set_option linter.all false
set_option maxRecDepth 100000
set_option maxHeartbeats 4000000
namespace Kc
open PySem PySem.Spec PyProof.Rows L2 Kg Kd Kr Kf
theorem ps_imp {X : Cx} {st : Stmt} {t t' : TS} (h : PS X st t) (i : ∀ D σ H, t' D σ H → t D σ H) : PS X st t' := ⟨fun pins s σ H D I z => h.run pins s σ H D I (i D σ H z)⟩
/-! ### rules that name the written part, for the blocks of comprehensions -/
theorem op_inK {X : Cx} {K : PySem.W.Frag} (h : X.K = K) : OpR X (compareOp .In) (rIn K false) := by subst h; exact op_in_seq
theorem op_notInK {X : Cx} {K : PySem.W.Frag} (h : X.K = K) : OpR X (compareOp .NotIn) (rIn K true) := by subst h; exact op_notIn_seq
theorem ix_tupK {X : Cx} {K : PySem.W.Frag} (h : X.K = K) : IxR X (rIxT K) := by subst h; exact ix_tup
theorem ix_listK {X : Cx} {K : PySem.W.Frag} (h : X.K = K) : IxR X (rIxL K) := by subst h; exact ix_list
theorem pe_fldK {X : Cx} {K : PySem.W.Frag} {e : Expr} {f : Str} {pos : Pos} {ta : TE} (h : X.K = K) (he : PE X e ta) (hb : attributeBase e f X.env (eval e X.env) = eval e X.env) : PE X (.Attribute e f pos) (tFld K ta f) := by subst h; exact pe_fld he hb
def rLenK (K : PySem.W.Frag) : List V → Hp → VK → Prop := fun xs H Q => ∃ p ys, xs = [.ref p] ∧ (SqL K H p ys ∨ SqT K H p ys) ∧ Q (.int (ys.length : Nat)) H
theorem call_lenK {X : Cx} {K : PySem.W.Frag} (h : X.K = K) : CallR X (.builtin "len") (rLenK K) := by
  subst h
  exact call_len_seq
/-! ### numbers in tuples -/
theorem inV_iV (j : Nat) : ∀ l : List Nat, inV (.int (j : Nat)) (l.map iV) = decide (j ∈ l)
  | [] => by simp [inV]
  | a :: l => by
    have z := inV_iV j l
    unfold inV at z ⊢
    rw [List.map_cons, List.any_cons, z]
    have e : eqV (iV a) (.int (j : Nat)) = decide (j = a) := by
      show (((a : Nat) : Int) == (j : Nat)) = _
      by_cases c : j = a
      · subst c; simp
      · have c2 : ¬ ((a : Nat) : Int) = (j : Nat) := by omega
        simp [c, c2]
    rw [e]
    by_cases c : j = a
    · simp [c]
    · simp [c]
theorem flat_iV : ∀ l : List Nat, (l.map iV).all flatV = true
  | [] => rfl
  | a :: l => by rw [List.map_cons, List.all_cons, flat_iV l]; rfl
theorem rgf_succ (P : Nat → Bool) (i : Nat) : (List.range (i + 1)).filter P = (List.range i).filter P ++ (if P i = true then [i] else []) := by
  rw [List.range_succ, List.filter_append]
  congr 1
  by_cases c : P i = true
  · simp [c]
  · simp [c]
theorem rgf_len (P : Nat → Bool) (i : Nat) : ((List.range i).filter P).length ≤ i := by
  have := List.length_filter_le P (List.range i)
  rwa [List.length_range] at this
/-- [i for i in range(n) if P(i)] where nothing that stands is changed -/
theorem lc_filt {n : Nat} {g : TG} {tt : TT} {te : TE} {vs : List Nat} {σ : L2.St} {H1 : Hp} {D : Addr} {Qd : Hp → Prop} (P : Nat → Bool) (nD : H1 D = none) (hn : n ≤ 900)
    (hs : ∀ (i : Nat) (H : Hp), i < n → Same H1 H → ∀ (R : V → Hp → Prop) (R0 : Hp → Prop), (∀ H', Same H H' → (P i = true → R (iV i) H') ∧ (P i = false → R0 H')) →
      g (.int (0 + (i : Nat))) (wipe σ vs) H fun σ2 H2 => wipe σ2 vs = wipe σ vs ∧ tt σ2 H2 fun b H3 => if b = true then te σ2 H3 R else R0 H3)
    (hd : ∀ H, Same H1 H → H D = some (.lst (((List.range n).filter P).map iV)) → Qd H) :
    ∃ W : Nat → Nat → Hp → Prop, (∃ m, W 0 m (upd H1 D (.lst []))) ∧ ∀ i m H, W i m H →
      ((Itr 0 n).stop i H ∧ Qd H) ∨ ((Itr 0 n).go i H ∧ ∃ Nx : Hp → Prop, (∀ H', Nx H' → ∃ m', m' < m ∧ W (i + 1) m' H') ∧ ∀ x H', (Itr 0 n).yld i H x H' → g x (wipe σ vs) H' fun σ2 H2 => wipe σ2 vs = wipe σ vs ∧ tt σ2 H2 fun b H3 =>
        if b = true then te σ2 H3 fun y H4 => ∃ acc, H4 D = some (.lst acc) ∧ acc.length < sizeLine ∧ Nx (upd H4 D (.lst (acc ++ [y]))) else Nx H3) := by
  refine lc_range (lo := 0) (n := n) (fun i H => Same H1 H ∧ H D = some (.lst (((List.range i).filter P).map iV))) ⟨same_new nD, upd_same⟩ (fun i H hi p => ?_) (fun H p => hd H p.1 p.2)
  refine hs i H hi p.1 _ _ (fun H' s' => ⟨fun c => ?_, fun c => ?_⟩)
  · refine ⟨_, s' _ _ p.2, ?_, fun b o z => ?_, ?_⟩
    · rw [List.length_map]
      have := rgf_len P i
      exact small1000 (by omega)
    · rw [upd_ne (ne_of_none z nD)]; exact s' _ _ (p.1 _ _ z)
    · rw [upd_same, rgf_succ, if_pos c, List.map_append]; rfl
  · refine ⟨p.1.trans s', ?_⟩
    rw [rgf_succ, if_neg (by rw [c]; exact Bool.false_ne_true), List.append_nil]
    exact s' _ _ p.2
/-! ### the parts of kinds -/
theorem tu_elders {H : Hp} {v : V} {es : List (List Nat)} (h : Tu H v (pdE es)) : ∃ a xs, v = .ref a ∧ H a = some (.tup xs) ∧ xs.length = es.length ∧ TuAll H xs (es.map pdI) := by
  unfold pdE at h
  cases h with
  | @tup a xs _ h1 h2 h3 => exact ⟨a, xs, rfl, h1, by rw [h3.length, List.length_map], h3⟩
theorem tus_at {H : Hp} {xs : List V} {es : List (List Nat)} (h : TuAll H xs (es.map pdI)) {i : Nat} (hi : i < es.length) : ∃ b, xs[i]? = some (.ref b) ∧ H b = some (.tup ((es.getD i []).map iV)) ∧ Tu H (.ref b) (pdI (es.getD i [])) := by
  have e : es[i]? = some (es.getD i []) := by rw [List.getD_eq_getElem?_getD, List.getElem?_eq_getElem hi]; rfl
  obtain ⟨v, h1, h2⟩ := h.get' (i := i) (d := pdI (es.getD i [])) (get_map e)
  obtain ⟨b, rfl, h3, _⟩ := tu_inv h2
  exact ⟨b, h1, h3, h2⟩
theorem getD_lots {es : List (List Nat)} {k : Nat} (hk : k < es.length) : (lotsT es).getD k [] = lot es k := by
  unfold lotsT
  rw [List.getD_eq_getElem?_getD, List.getElem?_map, List.getElem?_range hk]; rfl
theorem len_lots (es : List (List Nat)) : (lotsT es).length = es.length := by
  unfold lotsT
  rw [List.length_map, List.length_range]
theorem tab_at {H : Hp} {t : V} {es : List (List Nat)} (h : Tu H t (pdE (lotsT es))) {k : Nat} (hk : k < es.length) : ∃ a xs b, t = .ref a ∧ H a = some (.tup xs) ∧ xs[k]? = some (.ref b) ∧ H b = some (.tup ((lot es k).map iV)) ∧ Tu H (.ref b) (pdI (lot es k)) := by
  obtain ⟨a, xs, rfl, ha, _, hA⟩ := tu_elders h
  obtain ⟨b, h1, h2, h3⟩ := tus_at hA (i := k) (by rw [len_lots]; exact hk)
  rw [getD_lots hk] at h2 h3
  exact ⟨a, xs, b, rfl, ha, h1, h2, h3⟩
/-- the kinds of which k is an elder -/
def hei (es : List (List Nat)) (k : Nat) : List Nat := (List.range es.length).filter (fun i => decide (k ∈ es.getD i []))
/-- the kinds below n that are not in cl -/
def dif (n : Nat) (cl : List Nat) : List Nat := (List.range n).filter (fun i => !decide (i ∈ cl))
end Kc

set_option Elab.async false
set_option linter.all false
set_option maxRecDepth 100000
set_option maxHeartbeats 4000000
/-! Rows that are chosen; truths in lists. -/
namespace Kf
open PySem PySem.Spec PyProof.Rows L2 Kg Kd
theorem inV_fl : ∀ l : List Bool, inV (.bl false) (l.map V.bl) = !l.all id
  | [] => rfl
  | a :: l => by
    have z := inV_fl l
    unfold inV at z ⊢
    rw [List.map_cons, List.any_cons, List.all_cons, z]
    cases a <;> rfl
theorem flat_bls : ∀ l : List Bool, (l.map V.bl).all flatV = true
  | [] => rfl
  | a :: l => by rw [List.map_cons, List.all_cons, flat_bls l]; rfl
theorem pi_tupK {X : Cx} {K : PySem.W.Frag} {tg e : Expr} {te : TE} (h : X.K = K) (he : PE X e te) : PI X tg e (iTup K te) := by subst h; exact pi_tup he
/-- the first row that holds, from a place on -/
theorem chosen_from {lot : List Nat} : ∀ {rs : List Kf.Row} {i : Nat}, (∀ j, j < i → ∀ r, rs[j]? = some r → holds lot r.1 = false) → (∀ r, rs[i]? = some r → holds lot r.1 = true → chosenR lot rs = some i) ∧ (rs.length ≤ i → chosenR lot rs = none)
  | rs, i, h => by
    constructor
    · intro r hr ho
      unfold chosenR
      rw [List.findIdx?_eq_some_iff_getElem]
      obtain ⟨hl, e⟩ := List.getElem?_eq_some_iff.mp hr
      refine ⟨hl, by rw [e]; exact ho, fun j hj => ?_⟩
      have := h j hj rs[j] (List.getElem?_eq_getElem (by omega))
      rw [this]; simp
    · intro hl
      unfold chosenR
      rw [List.findIdx?_eq_none_iff]
      intro r hr
      obtain ⟨j, hj⟩ := List.getElem?_of_mem hr
      exact h j (by have := (List.getElem?_eq_some_iff.mp hj).1; omega) r hj
theorem answerR_chosen (lot : List Nat) (rs : List Kf.Row) : (∃ k r, chosenR lot rs = some k ∧ rs[k]? = some r ∧ answerR lot rs = r.2) ∨ (chosenR lot rs = none ∧ answerR lot rs = 0) := by
  unfold answerR chosenR
  cases e : rs.findIdx? (fun r => holds lot r.1) with
  | none =>
    refine .inr ⟨rfl, ?_⟩
    rw [List.findIdx?_eq_none_iff] at e
    rw [List.find?_eq_none.mpr (fun x hx => by rw [e x hx]; simp)]
    rfl
  | some k =>
    rw [List.findIdx?_eq_some_iff_getElem] at e
    obtain ⟨hk, h1, h2⟩ := e
    refine .inl ⟨k, rs[k], rfl, List.getElem?_eq_getElem hk, ?_⟩
    have : rs.find? (fun r => holds lot r.1) = some rs[k] := by
      rw [List.find?_eq_some_iff_getElem]
      exact ⟨h1, k, hk, rfl, fun j hj => by have := h2 j hj; simpa using this⟩
    rw [this]; rfl
/-- an index, or None -/
def oV : Option Nat → V
  | some k => .int ((k : Nat) : Int)
  | none => .non
end Kf

set_option Elab.async false
set_option linter.all false
set_option maxRecDepth 100000
set_option maxHeartbeats 4000000
/-! How many lots there are, at most. -/
namespace Kf
open PySem PySem.Spec PyProof.Rows L2 Kg Kd
theorem nodup_sub {α : Type} [DecidableEq α] : ∀ {l m : List α}, l.Nodup → (∀ x ∈ l, x ∈ m) → l.length ≤ m.length
  | [], _, _, _ => Nat.zero_le _
  | a :: l, m, h, s => by
    obtain ⟨h1, h2⟩ := List.nodup_cons.mp h
    have ha := s a (List.mem_cons_self ..)
    have hl := nodup_sub (l := l) (m := m.erase a) h2 (fun x hx => (List.mem_erase_of_ne (fun z => h1 (by rw [← z]; exact hx))).mpr (s x (List.mem_cons_of_mem _ hx)))
    rw [List.length_erase_of_mem ha] at hl
    have : 0 < m.length := List.length_pos_of_mem ha
    rw [List.length_cons]; omega
theorem nodup_ord {α : Type} {lt : α → α → Bool} (irr : ∀ a, lt a a = false) {l : List α} (h : l.Pairwise (fun a b => lt a b = true)) : l.Nodup :=
  h.imp fun {a b} z e => by subst e; rw [irr] at z; cases z
theorem som_in {n : Nat} (n6 : n ≤ 6) {l : List Nat} (h : Som n l) : l ∈ (List.range 64).map (ksOf n) := by
  obtain ⟨c, hc, e⟩ := ksOf_all h
  have : 2 ^ n ≤ 2 ^ 6 := Nat.pow_le_pow_right (by decide) n6
  exact List.mem_map.mpr ⟨c, List.mem_range.mpr (by omega), e⟩
theorem IsLots.len {es : List (List Nat)} {cl ho : List Nat} {sv : Bool} {ls : List (List Nat)} (n6 : es.length ≤ 6) (h : IsLots es cl ho sv ls) : ls.length ≤ 512 := by
  have som := fun {l : List Nat} (hl : l ∈ ls) => (h.som hl).1
  obtain ⟨A, B, rfl, h⟩ := h
  have hA : A.length ≤ 64 := by
    have z := nodup_sub (m := (List.range 64).map (ksOf es.length)) (nodup_ord lxN_irrefl h.oa) (fun x hx => som_in n6 (som (List.mem_append_left _ hx)))
    rw [List.length_map, List.length_range] at z
    exact z
  have hB : B.length ≤ 448 := by
    have z := nodup_sub (m := (List.range 7).flatMap fun m => ((List.range 64).map (ksOf es.length)).map fun l => (m, l)) (nodup_ord lpN_irrefl h.ob) (fun x hx => by
      have s := som_in n6 (som (List.mem_append_right A (List.mem_map.mpr ⟨x, hx, rfl⟩)))
      obtain ⟨_, ⟨ks, _, k2, _, _, k5⟩, _⟩ := (h.mb x).mp hx
      have := k2.len
      exact List.mem_flatMap.mpr ⟨x.1, List.mem_range.mpr (by omega), List.mem_map.mpr ⟨x.2, s, rfl⟩⟩)
    have e : ((List.range 7).flatMap fun m => ((List.range 64).map (ksOf es.length)).map fun l => (m, l)).length = 448 := by
      rw [List.length_flatMap]
      simp only [List.length_map, List.length_range]
      decide
    rw [e] at z
    exact z
  rw [List.length_append, List.length_map]; omega
end Kf

set_option Elab.async false
set_option linter.all false
set_option maxRecDepth 100000
set_option maxHeartbeats 4000000
/-! Parts of a tuple, elders of one new kind, lots made of them. -/
namespace Kf
open PySem PySem.Spec PyProof.Rows L2 Kg Kd
/-! ### all parts -/
def prtF (acc : List (List Nat)) (l : List Nat) : List (List Nat) := l.foldl (fun acc i => acc ++ acc.map (fun p => p ++ [i])) acc
def prt (l : List Nat) : List (List Nat) := prtF [[]] l
theorem prtF_cons (acc : List (List Nat)) (i : Nat) (l : List Nat) : prtF acc (i :: l) = prtF (acc ++ acc.map (fun p => p ++ [i])) l := rfl
theorem prt_take {l : List Nat} {i x : Nat} (h : l[i]? = some x) : prt (l.take (i + 1)) = prt (l.take i) ++ (prt (l.take i)).map (fun p => p ++ [x]) := by
  unfold prt prtF
  rw [List.take_add_one, h, List.foldl_append]
  rfl
theorem prtF_len : ∀ (l : List Nat) (acc : List (List Nat)), (prtF acc l).length = acc.length * 2 ^ l.length
  | [], acc => by simp [prtF]
  | i :: l, acc => by
    rw [prtF_cons, prtF_len l, List.length_append, List.length_map, List.length_cons, Nat.pow_succ]
    rw [← Nat.two_mul, Nat.mul_comm 2, Nat.mul_assoc, Nat.mul_comm 2]
theorem prt_len (l : List Nat) : (prt l).length = 2 ^ l.length := by
  unfold prt
  rw [prtF_len]
  simp
theorem prtF_mem {x : List Nat} : ∀ (l : List Nat) (acc : List (List Nat)), x ∈ prtF acc l ↔ ∃ p ∈ acc, ∃ s, s.Sublist l ∧ x = p ++ s
  | [], acc => by
    constructor
    · intro h; exact ⟨x, h, [], List.Sublist.refl _, by simp⟩
    · rintro ⟨p, hp, s, hs, e⟩
      rw [List.sublist_nil.mp hs, List.append_nil] at e
      rw [e]; exact hp
  | i :: l, acc => by
    rw [prtF_cons, prtF_mem l]
    constructor
    · rintro ⟨p, hp, s, hs, e⟩
      rcases List.mem_append.mp hp with h | h
      · exact ⟨p, h, s, hs.cons i, e⟩
      · obtain ⟨q, hq, rfl⟩ := List.mem_map.mp h
        exact ⟨q, hq, i :: s, hs.cons_cons i, by rw [e]; simp⟩
    · rintro ⟨p, hp, s, hs, e⟩
      cases hs with
      | cons _ h => exact ⟨p, List.mem_append_left _ hp, s, h, e⟩
      | @cons_cons s' _ _ h => exact ⟨p ++ [i], List.mem_append_right _ (List.mem_map.mpr ⟨p, hp, rfl⟩), s', h, by rw [e]; simp⟩
theorem prt_mem {l x : List Nat} : x ∈ prt l ↔ x.Sublist l := by
  unfold prt
  rw [prtF_mem]
  constructor
  · rintro ⟨p, hp, s, hs, e⟩
    rw [List.mem_singleton.mp hp] at e
    rw [e]; exact hs
  · intro h; exact ⟨[], List.mem_singleton.mpr rfl, x, h, rfl⟩
theorem prtF_nodup : ∀ (l : List Nat) (acc : List (List Nat)), l.Pairwise (· < ·) → acc.Nodup → (∀ p ∈ acc, ∀ x ∈ p, ∀ y ∈ l, x < y) → (prtF acc l).Nodup
  | [], acc, _, h, _ => h
  | i :: l, acc, hl, h, hb => by
    rw [List.pairwise_cons] at hl
    rw [prtF_cons]
    refine prtF_nodup l _ hl.2 ?_ ?_
    · refine List.nodup_append.mpr ⟨h, List.pairwise_map.mpr (h.imp fun ne e => ne (List.append_cancel_right e)), ?_⟩
      intro p hp q hq e
      obtain ⟨r, hr, rfl⟩ := List.mem_map.mp hq
      have : i ∈ p := by rw [e]; simp
      have := hb p hp i this i (List.mem_cons_self ..)
      omega
    · intro p hp x hx y hy
      rcases List.mem_append.mp hp with z | z
      · exact hb p z x hx y (List.mem_cons_of_mem _ hy)
      · obtain ⟨r, hr, rfl⟩ := List.mem_map.mp z
        rcases List.mem_append.mp hx with w | w
        · exact hb r hr x w y (List.mem_cons_of_mem _ hy)
        · rw [List.mem_singleton.mp w]; exact hl.1 y hy
theorem prt_nodup {l : List Nat} (h : l.Pairwise (· < ·)) : (prt l).Nodup := prtF_nodup l _ h (by simp) (fun p hp x hx => by rw [List.mem_singleton.mp hp] at hx; exact absurd hx (by simp))
theorem sub_asc : ∀ {l x : List Nat}, l.Pairwise (· < ·) → (x.Sublist l ↔ x.Pairwise (· < ·) ∧ ∀ y ∈ x, y ∈ l) := by
  intro l
  induction l with
  | nil =>
    intro x _
    constructor
    · intro h; rw [List.sublist_nil.mp h]; exact ⟨List.Pairwise.nil, fun y hy => hy⟩
    · rintro ⟨_, h⟩
      cases x with
      | nil => exact List.Sublist.refl _
      | cons a r => exact absurd (h a (List.mem_cons_self ..)) (by simp)
  | cons a l ih =>
    intro x hl
    constructor
    · intro h
      exact ⟨hl.sublist h, fun y hy => h.subset hy⟩
    · rintro ⟨hx, h⟩
      rw [List.pairwise_cons] at hl
      cases x with
      | nil => exact List.nil_sublist _
      | cons b r =>
        rw [List.pairwise_cons] at hx
        have hr : ∀ y ∈ r, y ∈ l := fun y hy => by
          rcases List.mem_cons.mp (h y (List.mem_cons_of_mem _ hy)) with e | e
          · have h1 := hx.1 y hy
            rcases List.mem_cons.mp (h b (List.mem_cons_self ..)) with e2 | e2
            · omega
            · have := hl.1 b e2; omega
          · exact e
        rcases List.mem_cons.mp (h b (List.mem_cons_self ..)) with e | e
        · rw [e]
          exact ((ih hl.2).mpr ⟨hx.2, hr⟩).cons_cons a
        · refine ((ih hl.2).mpr ⟨List.pairwise_cons.mpr hx, fun y hy => ?_⟩).cons a
          rcases List.mem_cons.mp hy with z | z
          · rw [z]; exact e
          · exact hr y z
abbrev ltL (a b : List Nat) : Prop := lpN (a.length, a) (b.length, b) = true
/-- all parts, the shortest first, then ascending -/
structure IsParts (l : List Nat) (ps : List (List Nat)) : Prop where
  ord : ps.Pairwise ltL
  mem : ∀ x, x ∈ ps ↔ x.Sublist l
theorem lpN_le {p q : Nat × List Nat} (h : lpN p q = true) : p.1 ≤ q.1 := by
  have z : Ku.lx (((p.1 : Nat) : Int) :: ci p.2) (((q.1 : Nat) : Int) :: ci q.2) = true := h
  rw [Ku.lx_cons] at z
  by_cases c : ((p.1 : Nat) : Int) = ((q.1 : Nat) : Int)
  · omega
  · rw [if_neg c] at z
    have := of_decide_eq_true z
    omega
theorem ltL_uniq {l m : List (List Nat)} (hl : l.Pairwise ltL) (hm : m.Pairwise ltL) (h : ∀ x, x ∈ l ↔ x ∈ m) : l = m :=
  ord_uniq (lt := fun a b => lpN (a.length, a) (b.length, b)) (fun a => lpN_irrefl _) (fun a b z => lpN_asym z) hl hm h
theorem IsParts.uniq {l : List Nat} {ps qs : List (List Nat)} (h : IsParts l ps) (k : IsParts l qs) : ps = qs := ltL_uniq h.ord k.ord fun x => (h.mem x).trans (k.mem x).symm
theorem IsParts.nodup {l : List Nat} {ps : List (List Nat)} (h : IsParts l ps) : ps.Nodup := h.ord.imp fun z e => by rw [e] at z; rw [ltL, lpN_irrefl] at z; cases z
theorem IsParts.len {l : List Nat} {ps : List (List Nat)} (h : IsParts l ps) : ps.length ≤ 2 ^ l.length := by
  rw [← prt_len l]
  exact nodup_sub h.nodup fun x hx => prt_mem.mpr ((h.mem x).mp hx)
/-! ### the elders of one new kind -/
def opn (n : Nat) (cl : List Nat) : List Nat := (List.range n).filter (fun i => !decide (i ∈ cl))
theorem opn_mem {n : Nat} {cl : List Nat} {x : Nat} : x ∈ opn n cl ↔ x < n ∧ x ∉ cl := by
  unfold opn
  rw [List.mem_filter, List.mem_range, Bool.not_eq_true', decide_eq_false_iff_not]
theorem opn_asc (n : Nat) (cl : List Nat) : (opn n cl).Pairwise (· < ·) := rg_filter
structure IsSing (n : Nat) (cl : List Nat) (sv : Bool) (sg : List (List Nat)) : Prop where
  ord : sg.Pairwise ltL
  mem : ∀ ks, ks ∈ sg ↔ (ks ≠ [] ∧ Som n ks ∧ rt cl sv ks = true)
theorem IsSing.uniq {n : Nat} {cl : List Nat} {sv : Bool} {ps qs : List (List Nat)} (h : IsSing n cl sv ps) (k : IsSing n cl sv qs) : ps = qs := ltL_uniq h.ord k.ord fun x => (h.mem x).trans (k.mem x).symm
theorem rt_iff {cl ks : List Nat} {sv : Bool} : rt cl sv ks = true ↔ (∀ k ∈ ks, k ∉ cl) ∧ (ks.length = 1 ∨ sv = true) := by
  unfold rt
  rw [Bool.and_eq_true, Bool.or_eq_true, decide_eq_true_iff, List.isEmpty_iff]
  refine and_congr_left' ?_
  rw [List.filter_eq_nil_iff]
  constructor
  · intro h k hk c; exact h k hk (decide_eq_true c)
  · intro h k hk c; exact h k hk (of_decide_eq_true c)
theorem sing_parts {n : Nat} {cl : List Nat} {ps : List (List Nat)} (h : IsParts (opn n cl) ps) : IsSing n cl true (ps.filter fun p => decide (0 < p.length)) := by
  refine ⟨h.ord.filter _, fun ks => ?_⟩
  rw [List.mem_filter, h.mem, sub_asc (opn_asc n cl), decide_eq_true_iff, rt_iff]
  constructor
  · rintro ⟨⟨h1, h2⟩, h3⟩
    exact ⟨fun e => by rw [e] at h3; simp at h3, ⟨h1, fun x hx => (opn_mem.mp (h2 x hx)).1⟩, fun k hk => (opn_mem.mp (h2 k hk)).2, .inr rfl⟩
  · rintro ⟨h1, h2, h3, _⟩
    exact ⟨⟨h2.asc, fun y hy => opn_mem.mpr ⟨h2.low y hy, h3 y hy⟩⟩, List.length_pos_iff.mpr h1⟩
theorem sing_one {n : Nat} {cl : List Nat} : IsSing n cl false ((opn n cl).map fun k => [k]) := by
  refine ⟨List.pairwise_map.mpr ((opn_asc n cl).imp fun {a b} h => ?_), fun ks => ?_⟩
  · show Ku.lx [1, ((a : Nat) : Int)] [1, ((b : Nat) : Int)] = true
    rw [Ku.lx_cons, if_pos rfl, Ku.lx_cons, if_neg (by omega)]
    exact decide_eq_true (by omega)
  · rw [List.mem_map, rt_iff]
    constructor
    · rintro ⟨k, hk, rfl⟩
      obtain ⟨h1, h2⟩ := opn_mem.mp hk
      exact ⟨by simp, ⟨by simp, fun x hx => by rw [List.mem_singleton.mp hx]; exact h1⟩, fun j hj => by rw [List.mem_singleton.mp hj]; exact h2, .inl rfl⟩
    · rintro ⟨h1, h2, h3, h4⟩
      rcases h4 with h4 | h4
      · match ks, h4 with
        | [k], _ => exact ⟨k, opn_mem.mpr ⟨h2.low k (List.mem_singleton.mpr rfl), h3 k (List.mem_singleton.mpr rfl)⟩, rfl⟩
      · cases h4
theorem IsSing.len {n : Nat} {cl : List Nat} {sv : Bool} {sg : List (List Nat)} (n6 : n ≤ 6) (h : IsSing n cl sv sg) : sg.length ≤ 64 := by
  have nd : sg.Nodup := h.ord.imp fun z e => by rw [e] at z; rw [ltL, lpN_irrefl] at z; cases z
  have z := nodup_sub nd (m := (List.range 64).map (ksOf n)) fun x hx => som_in n6 ((h.mem x).mp hx).2.1
  rwa [List.length_map, List.length_range] at z
theorem IsSing.six {n : Nat} {cl : List Nat} {sv : Bool} {sg : List (List Nat)} (n6 : n ≤ 6) (h : IsSing n cl sv sg) {ks : List Nat} (hk : ks ∈ sg) : ks.length ≤ 6 := by
  have := ((h.mem ks).mp hk).2.1.len; omega
/-! ### the late lots -/
def mS (es : List (List Nat)) (ho : List Nat) (sg : List (List Nat)) (l : List Nat) : Option Nat := if kn es ho l = true then none else (sg.find? (fun ks => decide (lotS es ks = l))).map List.length
theorem mS_nil (es : List (List Nat)) (ho : List Nat) : mS es ho [] = fun _ => none := by
  funext l
  unfold mS
  split <;> rfl
theorem mS_snoc {es : List (List Nat)} {ho : List Nat} {sg : List (List Nat)} {ks : List Nat} (l : List Nat) : mS es ho (sg ++ [ks]) l = if kn es ho (lotS es ks) = false ∧ mS es ho sg (lotS es ks) = none ∧ l = lotS es ks then some ks.length else mS es ho sg l := by
  by_cases c : kn es ho (lotS es ks) = false ∧ mS es ho sg (lotS es ks) = none ∧ l = lotS es ks
  · obtain ⟨c1, c2, rfl⟩ := c
    rw [if_pos ⟨c1, c2, rfl⟩]
    unfold mS at c2 ⊢
    rw [if_neg (by rw [c1]; exact Bool.false_ne_true)] at c2 ⊢
    rw [List.find?_append]
    rw [Option.map_eq_none_iff] at c2
    rw [c2]
    simp
  · rw [if_neg c]
    unfold mS
    by_cases k : kn es ho l = true
    · rw [if_pos k, if_pos k]
    · rw [if_neg k, if_neg k, List.find?_append]
      by_cases e : l = lotS es ks
      · subst e
        have c1 : kn es ho (lotS es ks) = false := Bool.not_eq_true _ ▸ k
        have c2 : ¬ mS es ho sg (lotS es ks) = none := fun z => c ⟨c1, z, rfl⟩
        unfold mS at c2
        rw [if_neg k, Option.map_eq_none_iff] at c2
        cases z : sg.find? (fun ks' => decide (lotS es ks' = lotS es ks)) with
        | none => exact absurd z c2
        | some v => rfl
      · cases z : sg.find? (fun ks' => decide (lotS es ks' = l)) with
        | some v => rfl
        | none => simp [Ne.symm e]
theorem find_first {α : Type} {p : α → Bool} {R : α → α → Prop} : ∀ {l : List α} {a : α}, l.Pairwise R → l.find? p = some a → ∀ b ∈ l, p b = true → b = a ∨ R a b
  | [], _, _, h, _, _, _ => by simp at h
  | c :: l, a, hl, h, b, hb, pb => by
    rw [List.pairwise_cons] at hl
    rw [List.find?_cons] at h
    cases pc : p c with
    | true =>
      rw [pc] at h
      have e : c = a := Option.some.inj h
      subst e
      rcases List.mem_cons.mp hb with z | z
      · exact .inl z
      · exact .inr (hl.1 b z)
    | false =>
      rw [pc] at h
      rcases List.mem_cons.mp hb with z | z
      · rw [z, pc] at pb; cases pb
      · exact find_first hl.2 h b z pb
theorem mS_late {es : List (List Nat)} {cl ho : List Nat} {sv : Bool} {sg : List (List Nat)} (S : IsSing es.length cl sv sg) (l : List Nat) (m : Nat) : mS es ho sg l = some m ↔ Late es cl ho sv (m, l) := by
  unfold mS
  by_cases k : kn es ho l = true
  · rw [if_pos k]
    constructor
    · intro h; cases h
    · intro h; have := h.1; rw [show kn es ho (m, l).2 = kn es ho l from rfl, k] at this; cases this
  · rw [if_neg k]
    have k' : kn es ho l = false := Bool.not_eq_true _ ▸ k
    constructor
    · intro h
      obtain ⟨ks, h1, h2⟩ := Option.map_eq_some_iff.mp h
      have hm := (S.mem ks).mp (List.mem_of_find?_eq_some h1)
      have hl : lotS es ks = l := of_decide_eq_true (List.find?_some (p := fun ks => decide (lotS es ks = l)) h1)
      refine ⟨k', ⟨ks, hm.1, hm.2.1, hm.2.2, hl, h2⟩, fun ks' a1 a2 a3 a4 => ?_⟩
      rcases find_first S.ord h1 ks' ((S.mem ks').mpr ⟨a1, a2, a3⟩) (decide_eq_true a4) with z | z
      · rw [z, h2]; exact Nat.le_refl _
      · have := lpN_le z
        show m ≤ ks'.length
        rw [← h2]; exact this
    · rintro ⟨_, ⟨ks, a1, a2, a3, a4, a5⟩, mn⟩
      have hk := (S.mem ks).mpr ⟨a1, a2, a3⟩
      cases z : sg.find? (fun ks => decide (lotS es ks = l)) with
      | none => exact absurd (decide_eq_true a4) (List.find?_eq_none.mp z ks hk)
      | some k0 =>
        have hm := (S.mem k0).mp (List.mem_of_find?_eq_some z)
        have hl : lotS es k0 = l := of_decide_eq_true (List.find?_some (p := fun ks => decide (lotS es ks = l)) z)
        have m1 := mn k0 hm.1 hm.2.1 hm.2.2 hl
        have a5' : ks.length = m := a5
        have m1' : m ≤ k0.length := m1
        rcases find_first S.ord z ks hk (decide_eq_true a4) with y | y
        · rw [← y]; exact congrArg some a5'
        · have := lpN_le y
          show some k0.length = some m
          congr 1
          have t : k0.length ≤ ks.length := this
          omega
/-! ### the lots of new kinds -/
def tab0 (es : List (List Nat)) : List (List Nat) := (List.range es.length).map (lot es)
def jn (n : Nat) (ls : List (List Nat)) : List Nat := (List.range n).filter (fun j => ls.any (fun l => decide (j ∈ l)))
theorem jn_som (n : Nat) (ls : List (List Nat)) : Som n (jn n ls) := Som.filter
def tabX (es ext : List (List Nat)) : List (List Nat) := ext.foldl (fun tab el => tab ++ [jn es.length (el.map fun e => tab.getD e [])]) (tab0 es)
theorem tab0_len (es : List (List Nat)) : (tab0 es).length = es.length := by unfold tab0; simp
theorem tabX_snoc (es ext : List (List Nat)) (el : List Nat) : tabX es (ext ++ [el]) = tabX es ext ++ [jn es.length (el.map fun e => (tabX es ext).getD e [])] := by
  unfold tabX
  rw [List.foldl_append]; rfl
theorem tabX_take {es ext : List (List Nat)} {i : Nat} {el : List Nat} (h : ext[i]? = some el) : tabX es (ext.take (i + 1)) = tabX es (ext.take i) ++ [jn es.length (el.map fun e => (tabX es (ext.take i)).getD e [])] := by
  rw [List.take_add_one, h]
  exact tabX_snoc ..
theorem tabX_len (es : List (List Nat)) : ∀ ext : List (List Nat), (tabX es ext).length = es.length + ext.length := by
  have key : ∀ (ext tab : List (List Nat)), (ext.foldl (fun tab el => tab ++ [jn es.length (el.map fun e => tab.getD e [])]) tab).length = tab.length + ext.length := by
    intro ext
    induction ext with
    | nil => intro tab; simp
    | cons a r ih =>
      intro tab
      rw [List.foldl_cons, ih, List.length_append, List.length_singleton, List.length_cons]; omega
  intro ext
  have := key ext (tab0 es)
  rw [tab0_len] at this
  exact this
theorem tabX_som (es : List (List Nat)) : ∀ ext : List (List Nat), ∀ l ∈ tabX es ext, Som es.length l := by
  have key : ∀ (ext tab : List (List Nat)), (∀ l ∈ tab, Som es.length l) → ∀ l ∈ ext.foldl (fun tab el => tab ++ [jn es.length (el.map fun e => tab.getD e [])]) tab, Som es.length l := by
    intro ext
    induction ext with
    | nil => intro tab h; exact h
    | cons a r ih =>
      intro tab h
      refine ih _ fun l hl => ?_
      rcases List.mem_append.mp hl with z | z
      · exact h l z
      · rw [List.mem_singleton.mp z]; exact jn_som ..
  intro ext
  refine key ext _ fun l hl => ?_
  obtain ⟨k, _, rfl⟩ := List.mem_map.mp hl
  exact lot_som es k
theorem tab0_get {es : List (List Nat)} {k : Nat} (h : k < es.length) : (tab0 es)[k]? = some (lot es k) := by
  unfold tab0
  rw [List.getElem?_map, List.getElem?_range h]; rfl
theorem jn_lotS {es : List (List Nat)} {ks : List Nat} (h : ∀ k ∈ ks, k < es.length) : jn es.length (ks.map fun e => (tab0 es).getD e []) = lotS es ks := by
  unfold jn lotS
  refine List.filter_congr fun j _ => ?_
  rw [List.any_map, Bool.eq_iff_iff, List.any_eq_true, List.any_eq_true]
  refine exists_congr fun k => and_congr_right fun hk => ?_
  show decide (j ∈ (tab0 es).getD k []) = true ↔ _
  rw [List.getD_eq_getElem?_getD, tab0_get (h k hk), decide_eq_true_iff]
  exact lot_mem (h k hk)
theorem tabX_one {es : List (List Nat)} {ks : List Nat} (h : ∀ k ∈ ks, k < es.length) : (tabX es [ks])[es.length]? = some (lotS es ks) := by
  have e := tabX_snoc es [] ks
  rw [List.nil_append] at e
  have e0 : tabX es [] = tab0 es := rfl
  rw [e, e0, jn_lotS h, List.getElem?_append_right (by rw [tab0_len]; exact Nat.le_refl _), tab0_len, Nat.sub_self]; rfl
theorem lot_inj {es : List (List Nat)} {k j : Nat} (hk : k < es.length) (hj : j < es.length) (h : lot es k = lot es j) : k = j := by
  have h1 : k ∈ lot es j := by rw [← h]; exact (lot_mem hk).mpr (abv_self es k)
  have h2 : j ∈ lot es k := by rw [h]; exact (lot_mem hj).mpr (abv_self es j)
  have := abv_le es j k ((lot_mem hj).mp h1)
  have := abv_le es k j ((lot_mem hk).mp h2)
  omega
end Kf

set_option Elab.async false
set_option linter.all false
set_option maxRecDepth 100000
set_option maxHeartbeats 4000000
/-! sorted(xs, key=lambda x: ..): the lambda of one parameter, made and called. -/
namespace Km
open PySem PySem.Spec PyProof.Rows L2 Kg Kd LamX
/-! ### the lambda's names: one parameter, captured ones and globals -/
structure LamS1 (sc scope : Scope) (a : Str) : Prop where
  kind : scope.kind = .function
  co : scope.isCoroutine = false
  gen : scope.isGenerator = false
  par : scope.names.lookup a = some .local
  own : ∀ y ∈ scope.names, y.2 ≠ .cell ∧ (y.2 = .local → y.1 = a)
  free : ∀ y ∈ scope.names, y.2 = .free → sc.names.lookup y.1 = some .cell ∨ sc.names.lookup y.1 = some .free
def lamS1B (sc scope : Scope) (a : Str) : Bool :=
  decide (scope.kind = .function) && !scope.isCoroutine && !scope.isGenerator && decide (scope.names.lookup a = some .local) && scope.names.all fun y => !decide (y.2 = .cell) && (!decide (y.2 = .local) || decide (y.1 = a)) && (!decide (y.2 = .free) || decide (sc.names.lookup y.1 = some .cell) || decide (sc.names.lookup y.1 = some .free))
theorem lamS1_by {sc scope : Scope} {a : Str} (h : lamS1B sc scope a = true) : LamS1 sc scope a := by
  unfold lamS1B at h
  simp only [Bool.and_eq_true, Bool.or_eq_true, Bool.not_eq_true', decide_eq_true_eq, decide_eq_false_iff_not, List.all_eq_true] at h
  obtain ⟨⟨⟨⟨h1, h2⟩, h3⟩, h4⟩, h5⟩ := h
  refine ⟨h1, h2, h3, h4, fun y hy => ⟨(h5 y hy).1.1, fun e => ?_⟩, fun y hy e => ?_⟩
  · rcases (h5 y hy).1.2 with z | z
    · exact absurd e z
    · exact z
  · rcases (h5 y hy).2 with (z | z) | z
    · exact absurd e z
    · exact .inl z
    · exact .inr z
theorem LamS1.has {X : Cx} {scope : Scope} {a : Str} (L : LamS1 X.env.scope scope a) (ok : X.Ok) : ∀ y ∈ scope.names, y.2 = .free → ∃ c, X.env.cells.lookup y.1 = some c := fun y hy e => by
  rcases L.free y hy e with k | k
  · exact ok.has _ (.inl k)
  · exact ok.has _ (.inr k)
/-- the context of the lambda's body -/
def lamCx1 (X : Cx) (a : Str) (A : Around) (outer : List Env) (s : Shared) (H : Hp) (scope : Scope) (f c' : Addr) : Cx :=
  { lamCx X A outer s H E0 scope f c' with
    N := a :: X.N
    xe := fun e s' => wpAny (model X.prog X.w) (A.deeper (lamEnv X scope s.heap.objs.size f c')) (leaving (lamEnv X scope s.heap.objs.size f c') e) (fun _ s'' => CX0 outer H s E0 e s'') (fun e' s'' => CX0 outer H s E0 e' s'') s' }
section
variable {X : Cx} {pins : List (Addr × Obj)} {σ : L2.St} {H : Hp} {s : Shared}
/-- a captured name is a cell of the def -/
theorem cap_back {scope : Scope} {a y : Str} {c : Addr} (L : LamS1 X.env.scope scope a) (ok : X.Ok) (h : (cloFrom X.env.cells scope.names []).lookup y = some c) : X.env.cells.lookup y = some c := by
  have z := cloFrom_mem (PySem.mem_of_lookup h)
  rcases z with z | ⟨z1, z2⟩
  · exact nomatch z
  · obtain ⟨d, hd⟩ := L.has ok _ z1 rfl
    have hd' : X.env.cells.lookup y = some d := hd
    rw [hd'] at z2
    exact hd'.trans (congrArg some z2.symm)
theorem cap_has {scope : Scope} {y : Str} (h : scope.names.lookup y = some .free) : ∃ c, (cloFrom X.env.cells scope.names []).lookup y = some c :=
  mem_lookup (cloFrom_has (PySem.mem_of_lookup h))
/-- the lambda's body begins: x stands under its parameter's name, the captured names as they stood -/
theorem lam_start1 {A : Around} {scope : Scope} {a : Str} {f c' : Addr} {g : Heap} {tk : Nat} {x : V} {u : Value} (I : Inv X pins σ H s) (L : LamS1 X.env.scope scope a) (na : a ∉ X.N) (e0 : Env0 X.prog X.w X.K X.mg X.base A X.stack s H) (hd : A.handled = none) (rx : RelV x u)
    (hns : g.Ns s.heap.objs.size fun y => ([(a, u)] : List (Str × Value)).reverse.lookup y) (kp : ∀ d o, s.heap.get? d = some o → g.get? d = some o) :
    Inv (lamCx1 X a A X.stack s H scope f c') [] (some x :: σ) H { s with heap := g, toks := tk } := by
  have none_ex : ∀ d : Addr, ¬ d ∈ (lamCx1 X a A X.stack s H scope f c').ex := fun d z => by
    have z : d ∈ ([] : List Addr) := z
    exact nomatch z
  have cellG : ∀ (d : Addr) (v : Option Value), s.heap.IsCell d v → g.IsCell d v := fun d v z => by
    obtain ⟨o, h1, h2⟩ := z
    exact ⟨o, kp _ _ h1, h2⟩
  have OK : (lamCx1 X a A X.stack s H scope f c').Ok := {
    mod := e0.mod
    kind := L.kind
    glob := rfl
    blt := rfl
    above := Nat.le_refl _
    inj := fun y z c h1 h2 => I.ok.inj y z c (cap_back L I.ok h1) (cap_back L I.ok h2)
    has := fun y hy => by
      rcases hy with z | z
      · exact absurd rfl (L.own (y, .cell) (PySem.mem_of_lookup z)).1
      · exact cap_has z
    cab := fun y c z _ => nomatch (show false = true from z)
    hd := fun _ => hd
    frames := Around.frames_deeper e0.frames
    stk := .inr ⟨rfl, rfl⟩
    exf := fun d z => (none_ex d z).elim
    bs := e0.bs
    bsz := e0.bsz
    noex := fun d _ _ => none_ex d
    exfs := fun d z => (none_ex d z).elim
    funs := e0.funs
    frf := e0.frf }
  have loc : ∀ (i : Nat) (y : Str) (v : V), (a :: X.N)[i]? = some y → (some x :: σ)[i]? = some (some v) → Vis scope y → ∃ r, RelV v r ∧ Look (lamEnv X scope s.heap.objs.size f c') g (fun y => ([(a, u)] : List (Str × Value)).reverse.lookup y) y r := by
    intro i y v n1 n2 vis
    match i, n1, n2 with
    | 0, n1, n2 =>
      have n1 : a = y := Option.some.inj n1
      have n2 : x = v := Option.some.inj (Option.some.inj n2)
      subst n1 n2
      exact ⟨u, rx, .inl ⟨L.par, by simp⟩⟩
    | i + 1, n1, n2 =>
      have n1 : X.N[i]? = some y := by simpa using n1
      have n2 : σ[i]? = some (some v) := by simpa using n2
      rcases vis with z | z | z
      · exact absurd (by rw [← (L.own (y, .local) (PySem.mem_of_lookup z)).2 rfl]; exact List.mem_of_getElem? n1) na
      · exact absurd rfl (L.own (y, .cell) (PySem.mem_of_lookup z)).1
      · obtain ⟨m, _, old⟩ := I.loc
        have up := L.free (y, .free) (PySem.mem_of_lookup z) rfl
        obtain ⟨r, h1, h2⟩ := old i y v n1 n2 (.inr up)
        obtain ⟨d, hd'⟩ := cap_has (X := X) z
        refine ⟨r, h1, .inr ⟨.inr z, d, hd', ?_⟩⟩
        rcases h2 with ⟨y1, _⟩ | ⟨_, d', y2, y3⟩
        · have y1 : X.env.scope.names.lookup y = some .local := y1
          rcases up with y4 | y4
          · have y4 : X.env.scope.names.lookup y = some .cell := y4
            rw [y1] at y4; cases y4
          · have y4 : X.env.scope.names.lookup y = some .free := y4
            rw [y1] at y4; cases y4
        · have e := (cap_back L I.ok hd').symm.trans y2
          rw [Option.some.inj e]
          exact cellG _ _ y3
  exact {
    ok := OK
    os := rfl
    bare := e0.bare
    base := Un.kept kp
    loc := ⟨_, hns, loc⟩
    cell := fun y c h => by
      obtain ⟨v, z⟩ := I.cell y c (cap_back L I.ok h)
      exact ⟨v, cellG _ _ z⟩
    free := e0.hok.fresh (Nat.le_refl _)
    freeC := fun y c h => I.freeC y c (cap_back L I.ok h)
    pin := fun q hq => nomatch (show q ∈ ([] : List (Addr × Obj)) from hq)
    hok := e0.hok.kept kp
    len := by show σ.length + 1 = X.N.length + 1; rw [I.len] }
/-- the lambda called with one value -/
theorem lam_call {A : Around} {scope : Scope} {a : Str} {f c' : Addr} {pm ctv : Value} {params : Arguments} {body : Expr} {k : Nat} {tb : TE} {Q : VK} {x : V} {u : Value}
    (I : Inv X pins σ H s) (L : LamS1 X.env.scope scope a) (na : a ∉ X.N) (hf : s.heap.get? f = some (PySem.W.kla_obj "<lambda>" (X.env.qual ++ "<lambda>") params body scope (cloFrom X.env.cells scope.names []) pm c' ctv))
    (hc : H c' = some (CodeO c' (X.env.qual ++ "<lambda>"))) (e0 : Env0 X.prog X.w X.K X.mg X.base A X.stack s H) (hr : Room (k + 1) A) (rx : RelV x u)
    (hbind : bindArgs (PySem.W.kla_fn "<lambda>" (X.env.qual ++ "<lambda>") params body scope (cloFrom X.env.cells scope.names []) pm (.ref c') ctv) ⟨[u], []⟩ = pure [(a, u)])
    (hbody : ∀ (A : Around) (s : Shared) (H : Hp), Room k (A.deeper (lamEnv X scope s.heap.objs.size f c')) → PE (lamCx1 X a A X.stack s H scope f c') body tb) (ht : tb (some x :: σ) H Q) :
    codeAny (model X.prog X.w) A (.call (.ref f) ⟨[u], []⟩) (fun r s' => match r with | .ok (.ret v) => EP X pins σ Q v s' | .ok _ => False | .error e => False) s := by
  obtain ⟨⟨oc, vs, t, hoc, hdc, hvc⟩, _, _⟩ := I.hok c' _ hc
  have rc : codeAny (model X.prog X.w) A (.call (.ref f) ⟨[u], []⟩) (CR CX0 X.stack X.prog X.w H s Q E0) s := by
    refine PySem.W.kla_callFunE hr.depth hf rfl L.co L.gen rfl ⟨c', oc, vs, t, rfl, hoc, hdc, hvc⟩ ?_
    rw [hbind]
    refine wpAny_pure (wpAny_newFunctionEnv (fun y hy => (L.own y hy).1) (fun y hy => ?_) (fun h₁ hns hsb => ⟨I.nolimit.fresh _ hsb, ?_⟩) L.kind)
    · rw [List.mem_singleton] at hy
      subst hy
      exact L.par
    show codeAny _ _ (.expr body (lamEnv X scope s.heap.objs.size f c')) _ _
    have kp : ∀ b o, s.heap.get? b = some o → h₁.get? b = some o := fun b o e => hsb.extBut b o (Nat.ne_of_lt (Heap.lt_size e)) (Heap.get?_push_of_some _ e)
    have J := lam_start1 (tk := s.toks + ([(a, u)] : List (Str × Value)).length) (f := f) (c' := c') I L na e0 hr.hd rx hns kp
    refine PySem.W.kla_codeExpr (wpAny_mono ((hbody _ s H (hr.deeper _)).run [] _ _ H Q J ht) (fun v s' hq => ?_) fun e s' hq => ?_)
    · obtain ⟨w', H', J', rv, q⟩ := hq
      exact ⟨w', H', J'.os, J'.bare, J'.base, J'.hok, rv, q⟩
    · exact hq
  refine codeAny_mono rc fun r s' hq => ?_
  cases r with
  | error e => exact (show False from hq).elim
  | ok fl =>
    cases fl with
    | ret u => exact I.after hq
    | next => exact False.elim hq
    | brk => exact False.elim hq
    | cont => exact False.elim hq
end
end Km

set_option Elab.async false
set_option linter.all false
set_option maxRecDepth 100000
set_option maxHeartbeats 4000000
/-! sorted(xs, key=..): the keys are pairs of an int and a tuple of ints. -/
namespace Km
open PySem PySem.Spec PyProof.Rows L2 Kg Kd LamX SrtO Srt Ku
section
variable {prog : Program} {w : World} {A : Around} {E : Value → Shared → Prop} {s : Shared}
theorem nt_cmpK {kv : Value → Int × List Int} (hu : A.units + 1 < cLine) : SrtO.Cmp prog w A s (tuples' true) (fun p => IsNT s.heap p.1 (kv p.2)) (fun p q => lp (kv p.2) (kv q.2)) := by
  intro p q h1 h2
  have h1 : IsNT s.heap p.1 (kv p.2) := h1
  have h2 : IsNT s.heap q.1 (kv q.2) := h2
  show wpAny (model prog w) A (keyLt' (tuples' true) p.1 q.1) (fun r s' => s' = s ∧ r = lp (kv p.2) (kv q.2)) (fun _ _ => False) s
  generalize kv p.2 = x at h1 ⊢
  generalize kv q.2 = y at h2 ⊢
  obtain ⟨a, o, t, b, n, e, ho, hc, hd, hb⟩ := h1
  obtain ⟨a', o', t', b', n', e', ho', hc', hd', hb'⟩ := h2
  rw [e, e']
  refine PySem.W.kat_lt ho hd ho' hd' ?_
  show PySem.W.KatLex prog w A true (decide (2 < 2)) _ [(.int x.1 t, .int y.1 t'), (.ref b, .ref b')] 0 s
  refine PySem.W.kat_cons (SeqAt.EqAt.int_int x.1 t y.1 t' prog w _ _ ?_)
  refine PySem.W.kat_go (fun e1 => ?_) (fun e1 => ?_)
  · have ex : x.1 = y.1 := by simpa using e1
    have el : lp x y = lx x.2 y.2 := by unfold lp; rw [lx_cons, if_pos ex]
    rw [el]
    refine PySem.W.kat_yes (PySem.W.kat_cons (eqAt_tup hb hb' hu prog w _ _ ?_))
    refine PySem.W.kat_go (fun e2 => ?_) (fun e2 => ?_)
    · have ey := of_decide_eq_true e2
      exact PySem.W.kat_yes (PySem.W.kat_nil ⟨rfl, by rw [ey, lx_irrefl]; rfl⟩)
    · obtain ⟨c, xs, ec, tc, ic⟩ := hb
      obtain ⟨c', xs', ec', tc', ic'⟩ := hb'
      cases ec
      cases ec'
      exact PySem.W.kat_no (PySem.W.kat_one _ _ (HT.lt_tupInts tc tc' ic ic' (by omega) ⟨rfl, rfl⟩))
  · have ex : ¬ x.1 = y.1 := by simpa using e1
    have el : lp x y = decide (x.1 < y.1) := by unfold lp; rw [lx_cons, if_neg ex]
    rw [el]
    exact PySem.W.kat_no (TS.oneLt_ints _ ⟨rfl, rfl⟩)
/-- the end of the sort -/
theorem key_tail {p kS : Addr} {keys : Array Value} {e e1 : Nat} {st : SortSt} {R : PySem.Fin → Shared → Prop} (hk : s.heap.get? kS = some (seqObj "list" keys e)) (hp : s.heap.get? p = some (seqObj "list" #[] e1)) (hne : kS ≠ p) (hks : keys.size ≤ sizeLine) (has : (arrOf st).size ≤ sizeLine) (hfl : failedOf st = none)
    (h : ∀ tk, R (.done (.ret .none)) { s with heap := (s.heap.update kS (Obj.mapSeq fun _ => (#[] : Array Value))).update p (Obj.mapSeq fun _ => (arrOf st).map (·.2)), toks := tk }) :
    wpAny (model prog w) A (ksk_tail p false e1 (.ref kS) st) R E s := by
  have s1 := Heap.SameBut.update s.heap kS (Obj.mapSeq fun _ => (#[] : Array Value))
  have hp1 : (s.heap.update kS (Obj.mapSeq fun _ => (#[] : Array Value))).get? p = some (seqObj "list" #[] e1) := (s1.2 p hne.symm).trans hp
  unfold ksk_tail
  try dsimp only
  refine wpAny_bind (listUpdate_at hk rfl ?_ hks (Nat.zero_le _))
  refine wpAny_bind (wpAny_letGo ?_)
  refine wpAny_bind (seqEpoch_at hp1 rfl ?_)
  refine wpAny_bind (listUpdate_at hp1 rfl ?_ (Nat.zero_le _) (by simp only [Bool.false_eq_true, if_false, Array.size_map]; omega))
  rw [hfl]
  simp only [bne_self_eq_false, Bool.false_eq_true, if_false]
  exact wpAny_pure (h _)
/-- the sort of the pairs -/
theorem key_end {p kS : Addr} {keys vs : List Value} {e e1 : Nat} {kv : Value → Int × List Int} {R : PySem.Fin → Shared → Prop} (hu : A.units + 1 < cLine) (hk : s.heap.get? kS = some (seqObj "list" keys.toArray e)) (hp : s.heap.get? p = some (seqObj "list" #[] e1)) (hne : kS ≠ p) (hl : keys.length = vs.length) (hz : vs.length ≤ sizeLine)
    (hK : ∀ q ∈ keys.zip vs, IsNT s.heap q.1 (kv q.2))
    (h : ∀ (ps : List Keyed) tk, Srtd (fun p q => lp (kv p.2) (kv q.2)) ps → Stb (fun p q => lp (kv p.2) (kv q.2)) ps (keys.zip vs) →
      R (.done (.ret .none)) { s with heap := (s.heap.update kS (Obj.mapSeq fun _ => (#[] : Array Value))).update p (Obj.mapSeq fun _ => (ps.map (·.2)).toArray), toks := tk }) :
    wpAny (model prog w) A (ksk_end p false vs.toArray e1 (.ref kS) keys.toArray) R E s := by
  have ez : (keys.toArray.zip vs.toArray).toList = keys.zip vs := by simp
  have hzl : (keys.zip vs).length = vs.length := by rw [List.length_zip, hl, Nat.min_self]
  have fin : ∀ st : SortSt, failedOf st = none → Srtd (fun p q : Keyed => lp (kv p.2) (kv q.2)) (arrOf st).toList → Stb (fun p q : Keyed => lp (kv p.2) (kv q.2)) (arrOf st).toList (keys.zip vs) → wpAny (model prog w) A (ksk_tail p false e1 (.ref kS) st) R E s := by
    intro st hf h1 h2
    have hsz : (arrOf st).size = vs.length := by rw [← Array.length_toList, h2.len, hzl]
    refine key_tail hk hp hne (by rw [List.size_toArray, hl]; exact hz) (by rw [hsz]; exact hz) hf fun tk => ?_
    have z := h (arrOf st).toList tk h1 h2
    have ea : ((arrOf st).toList.map (·.2)).toArray = (arrOf st).map (·.2) := by
      apply Array.ext'
      simp
    rw [ea] at z
    exact z
  unfold ksk_end
  simp only [Bool.false_eq_true, if_false]
  by_cases h2 : vs.toArray.size < 2
  · rw [if_pos h2, if_pos h2]
    refine wpAny_bind (wpAny_pure ?_)
    rw [StateT.run_pure]
    refine wpAny_bind (wpAny_pure ?_)
    try dsimp only
    refine fin (SortSt.mk' general' (keys.toArray.zip vs.toArray) #[] 7 none) rfl ?_ ?_
    · show Srtd _ (keys.toArray.zip vs.toArray).toList
      rw [ez]
      rw [List.size_toArray] at h2
      match hq : keys.zip vs, hzl with
      | [], _ => exact List.Pairwise.nil
      | [x], _ => exact List.pairwise_singleton _ _
      | x :: y :: r, hh => rw [List.length_cons, List.length_cons] at hh; omega
    · show Stb _ (keys.toArray.zip vs.toArray).toList _
      rw [ez]; exact Stb.refl _
  · rw [if_neg h2, if_neg h2]
    rw [List.size_toArray] at h2
    have kt : ∃ fs, PySem.W.KatTups s.heap keys fs ∧ fs.length = keys.length ∧ ∀ f, f ∈ fs → ∃ n t, f = Value.int n t := by
      have go : ∀ (ks us : List Value), ks.length = us.length → (∀ q ∈ ks.zip us, IsNT s.heap q.1 (kv q.2)) → ∃ fs, PySem.W.KatTups s.heap ks fs ∧ fs.length = ks.length ∧ ∀ f, f ∈ fs → ∃ n t, f = Value.int n t := by
        intro ks
        induction ks with
        | nil => exact fun us _ _ => ⟨[], PySem.W.KatTups.nil, rfl, fun f hf => by simp at hf⟩
        | cons v ks ih =>
          intro us hl x
          cases us with
          | nil => simp at hl
          | cons u us =>
            obtain ⟨fs, kk, hl', hi⟩ := ih us (by simpa using hl) fun q hq => x q (List.mem_cons_of_mem _ hq)
            obtain ⟨a, o, t, b, n, e, ho, hc, hd, _⟩ := x (v, u) (List.mem_cons_self ..)
            have e : v = .ref a := e
            rw [e]
            refine ⟨.int (kv u).1 t :: fs, PySem.W.KatTups.cons ho hc hd rfl kk, by simp [hl'], ?_⟩
            intro f hf
            rcases List.mem_cons.mp hf with rfl | hf
            · exact ⟨_, t, rfl⟩
            · exact hi f hf
      exact go keys vs hl hK
    obtain ⟨fs, f1, f2, f3⟩ := kt
    refine wpAny_bind (PySem.W.kat_kind (T := .type "int") f1 (by omega) (fun f hm => ?_) (by rfl) ?_)
    · obtain ⟨x, t, rfl⟩ := f3 f hm
      exact PySem.W.Looks.now
    have ei : (Value.type "int" != Value.type "tuple") = true := by first | decide +kernel | rfl | decide
    rw [ei]
    have O : Swo (fun p q : Keyed => lp (kv p.2) (kv q.2)) := swo_lp (α := Keyed) (fun p => kv p.2)
    refine wpAny_bind (wpAny_mono (wpS_sortO (st0 := SortSt.mk' (tuples' true) (keys.toArray.zip vs.toArray) #[] 7 none)
      (Q := fun _ st' => Srtd (fun p q : Keyed => lp (kv p.2) (kv q.2)) (arrOf st').toList ∧ Stb (fun p q : Keyed => lp (kv p.2) (kv q.2)) (arrOf st').toList (keys.toArray.zip vs.toArray).toList ∧ failedOf st' = none) O (nt_cmpK hu) rfl
        (fun q hq => hK q (by rw [← ez]; exact hq)) rfl rfl fun st' a1 a2 a3 => ⟨a1, a2, a3⟩) ?_ fun _ _ e => e)
    rintro ⟨⟨⟩, st'⟩ s' ⟨rfl, hp1, hp2, hf⟩
    try dsimp only
    rw [ez] at hp2
    exact fin st' hf hp1 hp2
end
end Km

set_option Elab.async false
set_option linter.all false
set_option maxRecDepth 100000
set_option maxHeartbeats 4000000
namespace Km
open PySem PySem.Spec PyProof.Rows L2 Kg Kd LamX SrtO Srt Ku
/-- what is a key of x -/
def KeyV (K : PySem.W.Frag) (H : Hp) (v : V) (p : Int × List Int) : Prop := ∃ t b, v = .ref t ∧ H t = some (.tup [.int p.1, .ref b]) ∧ SqT K H b (p.2.map V.int)
theorem KeyV.same {K : PySem.W.Frag} {H H' : Hp} {v : V} {p : Int × List Int} (h : KeyV K H v p) (t : ∀ a xs, H a = some (.tup xs) → H' a = some (.tup xs)) (q : ∀ a xs, SqT K H a xs → SqT K H' a xs) : KeyV K H' v p := by
  obtain ⟨a, b, e, h1, h2⟩ := h
  exact ⟨a, b, e, t _ _ h1, q _ _ h2⟩
theorem sqt_keep {K : PySem.W.Frag} {H H' : Hp} {a : Addr} {xs : List V} (h : SqT K H a xs) (k : ∀ b o, H b = some o → (∀ ys, o ≠ .lst ys) → H' b = some o) : SqT K H' a xs := by
  rcases h with h | h
  · refine .inl ?_
    rcases h with h | ⟨o, h⟩
    · exact .inl (k _ _ h (fun ys z => nomatch z))
    · exact .inr ⟨o, k _ _ h (fun ys z => nomatch z)⟩
  · exact .inr h
section
variable {X : Cx} {pins : List (Addr × Obj)} {σ : L2.St} {H : Hp} {s : Shared}
theorem isNT_of (I : Inv X pins σ H s) {v : V} {u : Value} {p : Int × List Int} (h : KeyV X.K H v p) (r : RelV v u) : IsNT s.heap u p := by
  obtain ⟨t, b, rfl, ht, hb⟩ := h
  cases (show u = Value.ref t from r)
  obtain ⟨_, its2, r2, o, ho, hc, n, hd'⟩ := I.hok _ _ ht
  obtain ⟨u1, u2, rfl, ri, rj⟩ := vals2 r2
  obtain ⟨t1, rfl⟩ := ri
  cases (show u2 = Value.ref b from rj)
  exact ⟨t, o, t1, b, n, rfl, ho, hc, hd', tupI_raw I hb⟩
/-- an object that is not tracked, made since the def began, is written and tracked from then on -/
theorem inv_take {p : Addr} {o : Obj} {u : HO} {h' : Heap} {t' : Nat} (I : Inv X pins σ H s) (hp : s.heap.get? p = some o) (hn : H p = none) (h0 : X.s_0.heap.objs.size ≤ p) (hL : p ≠ X.env.locals) (hcl : ∀ v, o.data ≠ .cell v) (hpn : ∀ q ∈ X.pn ++ pins, q.1 ≠ p)
    (k : ∀ b v, b ≠ p → s.heap.get? b = some v → h'.get? b = some v) (hs : Heap.SameBut p s.heap h') (hob : ObjOk X.prog X.w (upd H p u) h' p u) (hq : ∃ v, h'.get? p = some v) : Inv X pins σ (upd H p u) { s with heap := h', toks := t' } := by
  have ne : ∀ b v, H b = some v → b ≠ p := fun b v e z => by rw [z, hn] at e; cases e
  refine I.step (g' := s.gens) (d' := s.drawn) (ch := [p]) (fun b hb => ?_) (fun b v _ _ hb e n => k b v (fun z => hb (by rw [z]; exact List.mem_singleton.mpr rfl)) e) (fun b v _ _ hb e n => ⟨v.slots, k b v (fun z => hb (by rw [z]; exact List.mem_singleton.mpr rfl)) e⟩)
    (fun b v hb e n => by rw [upd_ne (fun z => hb (by rw [z]; exact List.mem_singleton.mpr rfl))]; exact n) (fun b v hb e => ⟨v, k b v (fun z => hb (by rw [z]; exact List.mem_singleton.mpr rfl)) e⟩) (fun b xs e => by rw [upd_ne (ne b _ e)]; exact e) (fun b x v e => by rw [upd_ne (ne b _ e)]; exact e) (fun b ps e => ⟨#[], by rw [upd_ne (ne b _ e), e]; simp⟩)
    (fun m hm => hm.sameBut hs hL.symm) (fun b v e => ?_) I.bare
  · rw [List.mem_singleton] at hb
    subst hb
    refine ⟨.inr h0, hL, fun x c e z => ?_, hpn⟩
    obtain ⟨w', oc, ho, hd⟩ := I.cell x c e
    rw [z, hp] at ho
    cases ho
    exact hcl _ hd
  · by_cases hb : b = p
    · subst hb
      rw [upd_same] at e
      cases e
      exact hob
    · rw [upd_ne hb] at e
      refine (I.hok b v e).stay (fun c w' hc q => k c w' ?_ q) (fun c q => by rw [upd_ne (ne c _ q)]; exact q) fun c xs q => by rw [upd_ne (ne c _ q)]; exact q
      rcases hc with z | z
      · rw [z]; exact hb
      · exact ne c _ z
theorem vals_at {xs : List V} {us : List Value} (r : Vals xs us) {i : Nat} {u : Value} (h : us[i]? = some u) : ∃ x, xs[i]? = some x ∧ RelV x u := by
  induction r generalizing i with
  | nil => simp at h
  | cons a t ih =>
    cases i with
    | zero =>
      simp at h
      subst h
      exact ⟨_, rfl, a⟩
    | succ i => exact ih (by simpa using h)
/-- the keys are made, the pairs sorted -/
theorem key_rest {p kS f : Addr} {fo : Obj} {e1 : Nat} {A : Around} {vs : List Value} {xs : List V} {k : V → Int × List Int} {R : PySem.Fin → Shared → Prop} {E : Value → Shared → Prop} (hu : A.units + 1 < cLine)
    (I : Inv X ((p, seqObj "list" #[] e1) :: (f, fo) :: pins) σ H s) (hkS : H kS = some (.lst [])) {Hb : Hp} (sb : Same Hb H) (nkS : Hb kS = none) (nP : Hb p = none) (h0 : X.s_0.heap.objs.size ≤ p) (hpn : ∀ q ∈ X.pn ++ ((f, fo) :: pins), q.1 ≠ p)
    (rv : Vals xs vs) (hx : ∀ x ∈ xs, ∃ a, x = V.ref a) (hz : xs.length ≤ 900)
    (call_ : ∀ (x : V) (u : Value) (H1 : Hp) (s1 : Shared), x ∈ xs → RelV x u → Inv X ((p, seqObj "list" #[] e1) :: (f, fo) :: pins) σ H1 s1 → Same Hb H1 →
      wpAny (model X.prog X.w) A (call (.ref f) [u]) (EP X ((p, seqObj "list" #[] e1) :: (f, fo) :: pins) σ (fun v H2 => Same H1 H2 ∧ KeyV X.K H2 v (k x))) (fun _ _ => False) s1)
    (done : ∀ ys H' s', Inv X ((f, fo) :: pins) σ H' s' → Same Hb H' → H' p = some (.lst ys) → Srtd (fun x y => lp (k x) (k y)) ys → Stb (fun x y => lp (k x) (k y)) ys xs → R (.done (.ret .none)) s') :
    wpAny (model X.prog X.w) A (ksk_rest p (.ref f) false vs.toArray e1 (.ref kS)) R E s := by
  obtain ⟨b1, b2⟩ := refs_back rv hx
  have vl : vs.length = xs.length := rv.length.symm
  unfold ksk_rest
  refine wpAny_bind (wpAny_rule ?_)
  first
    | rw [List.forIn_toArray]
    | (rw [← Array.forIn_toList]; simp only [List.toList_toArray])
    | rw [← Array.forIn_toList]
  refine wpAny_bind (ksk_fold (fun i s' => ∃ (H' : Hp) (ks : List V), Inv X ((p, seqObj "list" #[] e1) :: (f, fo) :: pins) σ H' s' ∧ Same Hb H' ∧ H' kS = some (.lst ks) ∧ ks.length = i ∧ ∀ (j : Nat) v x, ks[j]? = some v → xs[j]? = some x → KeyV X.K H' v (k x)) vs 0 s
    ⟨H, [], I, sb, hkS, rfl, fun j v x h => by simp at h⟩ ?step ?done)
  case step =>
    rintro j u s' hu' ⟨H', ks, I', sb', hk', kl, kk⟩
    simp only [Nat.zero_add] at kl ⊢
    obtain ⟨x, hxj, rx⟩ := vals_at rv hu'
    have hj : j < vs.length := (List.getElem?_eq_some_iff.mp hu').1
    refine wpAny_bind (wpAny_attempt (wpAny_mono (call_ x u H' s' (List.mem_of_getElem? hxj) rx I' sb') (fun w s2 he => ?_) fun _ _ hF => hF.elim))
    obtain ⟨v, H2, I2, rw2, s2', kv2⟩ := he
    try dsimp only
    have hk2 := s2' _ _ hk'
    obtain ⟨z, its, n, ri, ho⟩ := (show ObjOk X.prog X.w H2 s2.heap kS (.lst ks) from I2.hok _ _ hk2)
    have il : its.length = ks.length := ri.length.symm
    obtain ⟨c2, hc2⟩ : ∃ c2, (s2.heap.update kS (Obj.mapSeq (·.push w))).get? kS = some (seqObj "list" (its.toArray.push w) c2) := ⟨_, get?_update_seq ho (·.push w)⟩
    refine wpAny_bind (listUpdate_at ho rfl ?_ (by rw [List.size_toArray, il]; exact z) (by rw [Array.size_push, List.size_toArray, il]; omega))
    have ea : (its ++ [w]).toArray = its.toArray.push w := by simp
    have small : (ks ++ [v]).length ≤ sizeLine := by
      rw [List.length_append, List.length_singleton]
      exact Nat.le_of_lt (small1000 (by omega))
    refine wpAny_pure ⟨rfl, upd H2 kS (.lst (ks ++ [v])), ks ++ [v], I2.write (x := kS) (e := kS) (t' := s2.toks) (by rw [hk2]; trivial) (.inl rfl) (fun b v' hb e => by rw [Heap.get?_update_ne _ _ _ _ hb]; exact e) ⟨_, hc2⟩ ⟨small, its ++ [w], c2, ri.append (.cons rw2 .nil), by rw [ea]; exact hc2⟩, fun b o e => ?_, upd_same, by rw [List.length_append, kl]; rfl, fun i v' x' h1 h2 => ?_⟩
    · rw [upd_ne (ne_of_none e nkS)]; exact s2' _ _ (sb' _ _ e)
    · have tupk : ∀ a ys, H2 a = some (.tup ys) → upd H2 kS (.lst (ks ++ [v])) a = some (.tup ys) := fun a ys e => by
        rw [upd_ne (fun z => by rw [z, hk2] at e; cases e)]; exact e
      have sqk : ∀ a ys, SqT X.K H2 a ys → SqT X.K (upd H2 kS (.lst (ks ++ [v]))) a ys := fun a ys e => sqt_keep e fun b o e' no => by
        rw [upd_ne (fun z => no ks (by rw [z, hk2] at e'; exact (Option.some.inj e').symm))]; exact e'
      by_cases c : i < ks.length
      · rw [List.getElem?_append_left c] at h1
        exact ((kk i v' x' h1 h2).same (fun a ys e => s2' _ _ e) (fun a ys e => sqt_keep e fun b o e' _ => s2' _ _ e')).same tupk sqk
      · have ei : i = ks.length := by
          have := (List.getElem?_eq_some_iff.mp h1).1
          rw [List.length_append, List.length_singleton] at this
          omega
        subst ei
        rw [List.getElem?_append_right (Nat.le_refl _), Nat.sub_self] at h1
        cases h1
        rw [kl, hxj] at h2
        cases h2
        exact kv2.same tupk sqk
  case done =>
    rintro s' ⟨H', ks, I', sb', hk', kl, kk⟩
    rw [Nat.zero_add] at kl
    obtain ⟨z, its, n, ri, ho⟩ := (show ObjOk X.prog X.w H' s'.heap kS (.lst ks) from I'.hok _ _ hk')
    have il : its.length = ks.length := ri.length.symm
    obtain ⟨pp1, pp2, pp3, pp4, pp5⟩ := I'.pin (p, seqObj "list" #[] e1) (List.mem_append_right _ (List.mem_cons_self ..))
    have hne : kS ≠ p := fun z => by rw [z] at hk'; rw [pp2] at hk'; cases hk'
    try dsimp only
    refine wpAny_bind (listItems_at ho rfl ?_)
    refine key_end (kv := fun u => k (backV u)) hu ho pp1 hne (by omega) (by rw [vl]; exact Nat.le_of_lt (small1000 (by omega))) (fun q hq => ?_) (fun ps tk h1 h2 => ?_)
    · obtain ⟨j, hj⟩ := List.mem_iff_getElem?.mp hq
      rw [List.getElem?_zip_eq_some] at hj
      obtain ⟨v, hv, rvv⟩ := vals_at ri hj.1
      obtain ⟨x, hxx, rxx⟩ := vals_at rv hj.2
      have e := kk j v x hv hxx
      have ex : x = backV q.2 := by
        rw [b1, List.getElem?_map, hj.2] at hxx
        exact (Option.some.inj hxx).symm
      rw [ex] at e
      exact isNT_of I' e rvv
    · -- the sorted list
      have zl : (its.zip vs).length = vs.length := by rw [List.length_zip]; omega
      have I1 : Inv X ((f, fo) :: pins) σ (upd H' kS (.lst [])) { s' with heap := s'.heap.update kS (Obj.mapSeq fun _ => (#[] : Array Value)), toks := tk } := by
        obtain ⟨c2, hc2⟩ : ∃ c2, (s'.heap.update kS (Obj.mapSeq fun _ => (#[] : Array Value))).get? kS = some (seqObj "list" #[] c2) := ⟨_, get?_update_seq ho (fun _ => #[])⟩
        exact (I'.pins_of (pins' := (f, fo) :: pins) fun q hq => I'.pin q (List.mem_append_right _ (List.mem_cons_of_mem _ hq))).write (x := kS) (e := kS) (t' := tk) (by rw [hk']; trivial) (.inl rfl) (fun b v' hb e => by rw [Heap.get?_update_ne _ _ _ _ hb]; exact e) ⟨_, hc2⟩ ⟨Nat.zero_le _, [], c2, .nil, hc2⟩
      have hp1 : (s'.heap.update kS (Obj.mapSeq fun _ => (#[] : Array Value))).get? p = some (seqObj "list" #[] e1) := by rw [Heap.get?_update_ne _ _ _ _ hne.symm]; exact pp1
      have O : Swo (fun x y : V => lp (k x) (k y)) := swo_lp k
      have g1 : Srtd (fun x y => lp (k x) (k y)) (ps.map fun q : Keyed => backV q.2) := srtd_map h1
      have g2 : Stb (fun x y => lp (k x) (k y)) (ps.map fun q : Keyed => backV q.2) xs := by
        have z := Stb.map O (fun q : Keyed => backV q.2) h2
        have e : (its.zip vs).map (fun q : Keyed => backV q.2) = xs := by
          rw [b1]
          have : (its.zip vs).map (fun q : Keyed => backV q.2) = ((its.zip vs).map Prod.snd).map backV := by rw [List.map_map]; rfl
          rw [this, List.map_snd_zip (by omega)]
        rw [e] at z
        exact z
      have hv3 : ∀ u ∈ ps.map (·.2), ∃ a, u = Value.ref a := fun u hu => by
        obtain ⟨q, hq, rfl⟩ := List.mem_map.mp hu
        exact b2 _ (List.of_mem_zip (h2.perm.mem_iff.mp hq)).2
      obtain ⟨c3, hc3⟩ : ∃ c3, ((s'.heap.update kS (Obj.mapSeq fun _ => (#[] : Array Value))).update p (Obj.mapSeq fun _ => (ps.map (·.2)).toArray)).get? p = some (seqObj "list" (ps.map (·.2)).toArray c3) := ⟨_, get?_update_seq hp1 (fun _ => (ps.map (·.2)).toArray)⟩
      have np1 : upd H' kS (.lst []) p = none := by rw [upd_ne hne.symm]; exact pp2
      have em : ps.map (fun q : Keyed => backV q.2) = (ps.map (·.2)).map backV := by rw [List.map_map]; rfl
      have I2 := inv_take (p := p) (u := .lst (ps.map fun q : Keyed => backV q.2)) (t' := tk) (h' := (s'.heap.update kS (Obj.mapSeq fun _ => (#[] : Array Value))).update p (Obj.mapSeq fun _ => (ps.map (·.2)).toArray)) I1 hp1 np1 h0 pp3 (fun v z => nomatch z) hpn
        (fun b v hb e => by rw [Heap.get?_update_ne _ _ _ _ hb]; exact e) (Heap.SameBut.update ..) ⟨by rw [g2.len]; exact Nat.le_of_lt (small1000 (by omega)), _, c3, by rw [em]; exact vals_back hv3, hc3⟩ ⟨_, hc3⟩
      refine done _ _ _ I2 (fun b o e => ?_) upd_same g1 g2
      rw [upd_ne (ne_of_none e nP), upd_ne (ne_of_none e nkS)]
      exact sb' _ _ e
end
end Km

set_option Elab.async false
set_option linter.all false
set_option maxRecDepth 100000
set_option maxHeartbeats 4000000
namespace Km
open PySem PySem.Spec PyProof.Rows L2 Kg Kd LamX SrtO Srt Ku
section
variable {X : Cx} {pins : List (Addr × Obj)} {σ : L2.St} {H : Hp} {s : Shared}
theorem fs_sub {b : Addr} (I : Inv X pins σ H s) (h : b ∈ X.fs) : b ∈ frs X.stack := by
  rcases I.ok.stk with e | ⟨e, hf⟩
  · rw [e]; exact h
  · rw [e]
    show b ∈ List.filterMap (·.frame) (X.env :: X.outer)
    rw [List.filterMap_cons, hf]
    exact List.mem_cons_of_mem _ h
/-- what is tracked is there -/
theorem ok_there {P : Program} {w : World} {h : Heap} {a : Addr} {o : HO} (x : ObjOk P w H h a o) : ∃ ob, h.get? a = some ob := by
  cases o with
  | lst xs => obtain ⟨_, _, _, _, z⟩ := x; exact ⟨_, z⟩
  | tup xs => obtain ⟨_, _, _, ob, z, _⟩ := x; exact ⟨ob, z⟩
  | dK kvs => obtain ⟨_, _, _, _, ob, _, _, z, _⟩ := x; exact ⟨ob, z⟩
  | dT kvs => obtain ⟨_, _, _, _, ob, _, _, z, _⟩ := x; exact ⟨ob, z⟩
  | set S n => obtain ⟨ob, _, _, _, z, _⟩ := x; exact ⟨ob, z⟩
  | ins C dx fs => obtain ⟨_, _, _, z, _⟩ := x; exact ⟨_, z⟩
  | own y => exact x
  | xd fs => obtain ⟨_, ⟨ob, _, _, z, _⟩, _⟩ := x; exact ⟨ob, z⟩
  | rng lo hi => obtain ⟨_, _, _, z⟩ := x; exact ⟨_, z⟩
  | frz ob u => exact ⟨ob, x.1⟩
  | tbl ps => exact ⟨_, x⟩
  | met f y => exact ⟨_, x⟩
  | ext φ => exact x.2.1
/-- sorted(l, key=f) -/
theorem sorted_key {f l : Addr} {fo : Obj} {vs : List Value} {xs : List V} {k : V → Int × List Int} {Q : VK} {E : Value → Shared → Prop} (hu : X.A.units + 64 < cLine)
    (I : Inv X pins σ H s) (hf : s.heap.get? f = some fo) (hfn : H f = none) (hfs : f ∉ frs X.stack) (hfc : ∀ v, fo.data ≠ .cell v) (hfL : f ≠ X.env.locals)
    (rv : Vals xs vs) (hx : ∀ x ∈ xs, ∃ a, x = V.ref a) (hz : xs.length ≤ 900)
    (hcol : ∀ (Q : List Value → Shared → Prop), (∀ (h' : Heap) (tk : Nat), (∀ b o, s.heap.get? b = some o → h'.get? b = some o) → Q vs { s with heap := h', toks := tk }) → wpAny (model X.prog X.w) X.A.in1 (collect (.ref l)) Q (fun e s' => E e s') s)
    (call_ : ∀ (p : Addr × Obj) (x : V) (u : Value) (H1 : Hp) (s1 : Shared), x ∈ xs → RelV x u → Inv X (p :: (f, fo) :: pins) σ H1 s1 → Same H H1 →
      wpAny (model X.prog X.w) X.A.in1.in1 (call (.ref f) [u]) (EP X (p :: (f, fo) :: pins) σ (fun v H2 => Same H1 H2 ∧ KeyV X.K H2 v (k x))) (fun _ _ => False) s1)
    (q : ∀ ys p H', Srtd (fun x y => lp (k x) (k y)) ys → Stb (fun x y => lp (k x) (k y)) ys xs → Same H H' → H p = none → H' p = some (.lst ys) → Q (.ref p) H') :
    wpAny (model X.prog X.w) X.A (call (.builtin "sorted") [.ref l] [(Str.ofString "key", .ref f)]) (EP X pins σ Q) E s := by
  have vl : vs.length = xs.length := rv.length.symm
  have hz' : vs.length ≤ sizeLine := by rw [vl]; exact Nat.le_of_lt (small1000 (by omega))
  refine call_function_entry_kw kind_sorted plain_sorted entry_sorted (ksk_s1 _ _) ?_
  unfold Builtin.«sorted»
  refine wpAny_bind (m := checkCount "sorted" 1 1 _) (wpAny_pure ?_)
  refine wpAny_bind (hcol _ fun h' tk kp' => ?_)
  refine wpAny_bind (wpAny_newList ?_ hz')
  have hoL : (h'.push (seqObj "list" vs.toArray 0)).get? h'.objs.size = some (seqObj "list" vs.toArray 0) := Heap.get?_push_size _ rfl
  show wpAny _ _ _ _ _ { s with heap := h'.push (seqObj "list" vs.toArray 0), toks := tk }
  refine wpAny_bind (wpAny_holding (wpAny_call_entry_kw slot_list_sort ⟨_, hoL, rfl⟩ entry_list_sort ?_ (ksk_l1 _ _)))
  rw [ksk_t1]
  obtain ⟨e1, ho1⟩ : ∃ e1, ((h'.push (seqObj "list" vs.toArray 0)).update h'.objs.size (Obj.mapSeq fun _ => (#[] : Array Value))).get? h'.objs.size = some (seqObj "list" #[] e1) := ⟨_, get?_update_seq hoL fun _ => #[]⟩
  unfold ksk_tree
  refine wpAny_bind (listItems_at hoL rfl ?_)
  refine wpAny_bind (listUpdate_at hoL rfl ?_ (by rw [List.size_toArray]; exact hz') (Nat.zero_le _))
  refine wpAny_bind (seqEpoch_at ho1 rfl ?_)
  refine wpAny_bind (wpAny_newTuple ?_ (by show vs.length ≤ _; exact hz'))
  refine wpAny_bind (wpAny_newList ?_ (Nat.zero_le _))
  refine wpAny_holding ?_
  generalize hP : h'.objs.size = p at hoL ho1 ⊢
  generalize hA : (h'.push (seqObj "list" vs.toArray 0)).update p (Obj.mapSeq fun _ => (#[] : Array Value)) = hAA at ho1 ⊢
  have szA : hAA.objs.size = p + 1 := by rw [← hA, Heap.size_update, size_push', hP]
  have kpA : ∀ b o, s.heap.get? b = some o → hAA.get? b = some o := fun b o e => by
    have lt := Heap.lt_size (kp' b o e)
    rw [← hA, Heap.get?_update_ne _ _ _ _ (Nat.ne_of_lt (by rw [hP] at lt; exact lt))]
    exact Heap.get?_push_of_some _ (kp' b o e)
  have hk2 : (hAA.push (seqObj "tuple" vs.toArray 0)).objs.size = p + 2 := by rw [size_push', szA]
  have kp1 : ∀ b o, s.heap.get? b = some o → ((hAA.push (seqObj "tuple" vs.toArray 0)).push (seqObj "list" #[] 0)).get? b = some o := fun b o e => Heap.get?_push_of_some _ (Heap.get?_push_of_some _ (kpA b o e))
  have off : ∀ b o, s.heap.get? b = some o → b < p := fun b o z => by
    have lt := Heap.lt_size (kp' b o z)
    rw [hP] at lt
    exact lt
  have far : ∀ b, p ≤ b → H b = none := fun b hb => by
    cases z : H b with
    | none => rfl
    | some u =>
      obtain ⟨ob, z2⟩ := ok_there (I.hok b u z)
      exact absurd (Nat.lt_of_lt_of_le (off b ob z2) hb) (Nat.lt_irrefl _)
  have locp : X.env.locals < p := by
    obtain ⟨m, ⟨o, es, ep, z, _⟩, _⟩ := I.loc
    exact off _ _ z
  have s0p : X.s_0.heap.objs.size ≤ p := Nat.le_trans I.ok.above (Nat.le_of_lt locp)
  have nofs : p ∉ X.fs := fun z => by
    obtain ⟨_, o, z2, _⟩ := I.ok.funs.mem z
    exact absurd (Nat.lt_of_lt_of_le (Heap.lt_size z2) s0p) (Nat.lt_irrefl _)
  have nP : H p = none := far p (Nat.le_refl _)
  have nK : H (p + 2) = none := far (p + 2) (Nat.le_add_right _ _)
  have I0 : Inv X ((f, fo) :: pins) σ H s := I.pins_of (pins' := (f, fo) :: pins) fun r hr => by
    rcases List.mem_cons.mp hr with z | z
    · rw [z]
      exact ⟨hf, hfn, hfL, fun y => hfs (fs_sub I y), hfc⟩
    · exact I.pin r (List.mem_append_right _ z)
  have pinp : ∀ b, p ≤ b → ∀ r ∈ X.pn ++ ((f, fo) :: pins), r.1 ≠ b := fun b hb r hr z => by
    have lt := off _ _ (I0.pin r hr).1
    rw [z] at lt
    exact absurd (Nat.lt_of_lt_of_le lt hb) (Nat.lt_irrefl _)
  have hkS : ((hAA.push (seqObj "tuple" vs.toArray 0)).push (seqObj "list" #[] 0)).get? (p + 2) = some (seqObj "list" #[] 0) := by rw [← hk2]; exact Heap.get?_push_size _ rfl
  have I1 : Inv X ((f, fo) :: pins) σ (upd H (p + 2) (.lst [])) { s with heap := (hAA.push (seqObj "tuple" vs.toArray 0)).push (seqObj "list" #[] 0), toks := tk } :=
    inv_take (s := { s with heap := (hAA.push (seqObj "tuple" vs.toArray 0)).push (seqObj "list" #[] 0), toks := tk }) (o := seqObj "list" #[] 0) (p := p + 2) (t' := tk) (h' := (hAA.push (seqObj "tuple" vs.toArray 0)).push (seqObj "list" #[] 0)) (I0.kept (t' := tk) kp1) hkS nK (Nat.le_trans s0p (Nat.le_add_right _ _)) (Nat.ne_of_gt (Nat.lt_of_lt_of_le locp (Nat.le_add_right _ _))) (fun v z => nomatch z) (pinp _ (Nat.le_add_right _ _)) (fun b v _ z => z) ⟨rfl, fun b _ => rfl⟩ ⟨Nat.zero_le _, [], 0, .nil, hkS⟩ ⟨_, hkS⟩
  have hpn := pinp p (Nat.le_refl _)
  have I2 : Inv X ((p, seqObj "list" #[] e1) :: (f, fo) :: pins) σ (upd H (p + 2) (.lst [])) { s with heap := (hAA.push (seqObj "tuple" vs.toArray 0)).push (seqObj "list" #[] 0), toks := tk } := I1.pins_of fun r hr => by
    rcases List.mem_cons.mp hr with z | z
    · rw [z]
      exact ⟨Heap.get?_push_of_some _ (Heap.get?_push_of_some _ ho1), by rw [upd_ne (by show p ≠ p + 2; omega)]; exact nP, Nat.ne_of_gt locp, nofs, fun v z => nomatch z⟩
    · exact I1.pin r (List.mem_append_right _ z)
  rw [hk2]
  refine key_rest (k := k) (xs := xs) (p := p) (kS := p + 2) (in2_units hu) I2 upd_same (Hb := H) (same_new nK) nK nP s0p hpn rv hx hz (fun x u H1 s1 hm rx J sm => call_ _ x u H1 s1 hm rx J sm) fun ys H' s' J sm hp hs hb => ⟨_, rfl, ?_⟩
  exact wpAny_pure ⟨_, rfl, .ref p, H', J.pins_of (pins' := pins) fun r hr => J.pin r (List.mem_append_right _ (List.mem_cons_of_mem _ hr)), rfl, q ys p H' hs hb sm nP hp⟩
end
end Km

set_option Elab.async false
set_option linter.all false
set_option maxRecDepth 100000
set_option maxHeartbeats 4000000
namespace Km
open PySem PySem.Spec PyProof.Rows L2 Kg Kd LamX SrtO Srt Ku
/-- sorted(e, key=lambda a: body), e a list -/
def tSortLam (K : PySem.W.Frag) (T : List (Addr × Str)) (t : TA) (tb : TE) : TE := fun σ H Q => t σ H fun us H1 => ∃ (l : Addr) (xs : List V) (k : V → Int × List Int), us = [.ref l] ∧ H1 l = some (.lst xs) ∧ (∀ x ∈ xs, ∃ a, x = V.ref a) ∧ xs.length ≤ 900 ∧ Tabs T H1 ∧
  (∀ H2, ExtN H1 H2 → ∀ x ∈ xs, tb (some x :: σ) H2 (fun v H3 => Same H2 H3 ∧ KeyV K H3 v (k x))) ∧
  ∀ ys p H', Srtd (fun x y => lp (k x) (k y)) ys → Stb (fun x y => lp (k x) (k y)) ys xs → ExtN H1 H' → Tabs T H' → H' p = some (.lst ys) → Q (.ref p) H'
section
variable {X : Cx}
theorem pe_sortLam {T : List (Addr × Str)} {c P : Addr} {k : Nat} {a : Str} {e : Expr} {params : Arguments} {body : Expr} {scope : Scope} {t : TA} {tb : TE} {p1 lpos kpos pos : Pos} (hg : Gl X "sorted") (hm : X.mg "sorted" = none) (hv : bootBuiltins "sorted" = some (.builtin "sorted")) (ha : PA X [e] t)
    (TB : TabB X.base X.mg c P) (hcode : X.env.code = .ref c) (hmT : (P, X.env.qual ++ "<lambda>") ∈ T) (hu : ∀ p ∈ T, p.1 = P → p.2 = X.env.qual ++ "<lambda>") (hr : Room (k + 3) X.A) (L : LamS1 X.env.scope scope a) (na : a ∉ X.N) (hdef : defaultsOf params X.env = ([], []))
    (hbind : ∀ (q : Str) (cl : List (Str × Addr)) (pm cv ctv u : Value), bindArgs (PySem.W.kla_fn "<lambda>" q params body scope cl pm cv ctv) ⟨[u], []⟩ = pure [(a, u)])
    (hbody : ∀ (A : Around) (s : Shared) (H : Hp) (f c' : Addr), Room k (A.deeper (lamEnv X scope s.heap.objs.size f c')) → PE (lamCx1 X a A X.stack s H scope f c') body tb)
    (he : backTo pos (starEach [e] X.env) = (false, eval e X.env) :: backTo pos (starEach [] X.env) := by rfl) (hpl : (backTo pos (starEach [e] X.env)).any (·.1) = false := by rfl) :
    PE X (.Call (.Name "sorted" p1) [e] [⟨some "key", .Lambda params body scope lpos, kpos⟩] pos) (tSortLam X.K T t tb) := by
  refine ⟨fun pins s σ H Q I h => ?_⟩
  refine wpAny_Call_Name_kw (ld_blt I hg hm hv ?_ (by decide) (by decide))
  refine PyProof.Rows.callWith_kw (thn (ha.run pos pins s σ H _ I h) fun us s1 ⟨vs, H1, I1, r1, q1⟩ => ?_) he hpl rfl rfl
  obtain ⟨l, xs, kf, rfl, hl, hx, hz, hT, hk, q⟩ := q1
  obtain ⟨u, rfl, ru⟩ := vals1 r1
  cases (show u = Value.ref l from ru)
  show wpAny _ _ (evalAll [(do let v ← eval (.Lambda params body scope lpos) X.env; standAt pos; pure v)]) _ _ s1
  refine wpAny_evalAll_cons (wpAny_bind (lam_make2 I1 TB hcode hmT hu hT hdef (L.has I1.ok) fun f c' pm ctv H2 s2 I2 eN T2 hf hfn hfs hco => wpAny_bind (wpAny_standAt (wpAny_pure (wpAny_evalAll_nil ?_)))))
  show wpAny _ _ (call (.builtin "sorted") [.ref l] [(Str.ofString "key", .ref f)]) _ _ s2
  have hl2 := eN _ _ hl (fun ps z => nomatch z)
  obtain ⟨its, rv, hL, hz2⟩ := I2.list (SqL.of hl2)
  have fL : f ≠ X.env.locals := fun z => by
    obtain ⟨m, ⟨o, es, ep, ho, hd, _⟩, _⟩ := I2.loc
    rw [← z, hf] at ho
    cases ho
    cases hd
  have hr1 : Room (k + 1) X.A.in1.in1 := Room.in1 (Room.in1 hr)
  refine sorted_key (k := kf) hr.units I2 hf hfn hfs (fun v z => nomatch z) fL rv hx hz (fun R hR => collect_list hL.isList (hR _ s2.toks (fun b o e => ?_)) (by rw [← rv.length]; exact hz2)) (fun p x u H3 s3 hm3 rx J sm => ?_) (fun ys p H' g1 g2 sm np hp => ?_)
  · have lt := Heap.lt_size e
    rw [Heap.get?_update_ne _ _ _ _ (Nat.ne_of_lt lt)]
    exact Heap.get?_push_of_some _ e
  · have hf3 := (J.pin (f, _) (List.mem_append_right _ (List.mem_cons_of_mem _ (List.mem_cons_self ..)))).1
    exact wpAny_call (lam_call J L na hf3 (sm _ _ hco) J.env0.in1.in1 hr1 rx (hbind _ _ _ _ _ _) (fun A s H hr' => hbody A s H f c' hr') (hk H3 (eN.trans (.of sm)) x hm3))
  · exact q ys p H' g1 g2 (eN.trans (.of sm)) (T2.ext sm) hp
end
end Km

set_option Elab.async false
set_option linter.all false
set_option maxRecDepth 100000
set_option maxHeartbeats 4000000
namespace Km
open PySem PySem.Spec PyProof.Rows L2 Kg Kd LamX SrtO Srt Ku
/-- sorted(e, key=lambda a: body), e a dict whose keys are tuples -/
def tSortLamD (K : PySem.W.Frag) (T : List (Addr × Str)) (t : TA) (tb : TE) : TE := fun σ H Q => t σ H fun us H1 => ∃ (d : Addr) (kvs : List (List Key × V)), us = [.ref d] ∧ H1 d = some (.dT kvs) ∧ kvs.length ≤ 900 ∧ Tabs T H1 ∧
  ∀ H2 bs, ExtN H1 H2 → Tabs T H2 → IsKeys H2 kvs bs → ∃ k : V → Int × List Int, (∀ H3, Same H2 H3 → ∀ x ∈ bs.map V.ref, tb (some x :: σ) H3 (fun v H4 => Same H3 H4 ∧ KeyV K H4 v (k x))) ∧
  ∀ ys p H', Srtd (fun x y => lp (k x) (k y)) ys → Stb (fun x y => lp (k x) (k y)) ys (bs.map V.ref) → Same H2 H' → Tabs T H' → H' p = some (.lst ys) → Q (.ref p) H'
theorem vals_refs : ∀ bs : List Addr, Vals (bs.map V.ref) (bs.map Value.ref)
  | [] => .nil
  | _ :: bs => .cons rfl (vals_refs bs)
section
variable {X : Cx}
theorem pe_sortLamD {T : List (Addr × Str)} {c P : Addr} {k : Nat} {a : Str} {e : Expr} {params : Arguments} {body : Expr} {scope : Scope} {t : TA} {tb : TE} {p1 lpos kpos pos : Pos} (hc : X.calm = true) (hg : Gl X "sorted") (hm : X.mg "sorted" = none) (hv : bootBuiltins "sorted" = some (.builtin "sorted")) (ha : PA X [e] t)
    (TB : TabB X.base X.mg c P) (hcode : X.env.code = .ref c) (hmT : (P, X.env.qual ++ "<lambda>") ∈ T) (hu : ∀ p ∈ T, p.1 = P → p.2 = X.env.qual ++ "<lambda>") (hr : Room (k + 3) X.A) (L : LamS1 X.env.scope scope a) (na : a ∉ X.N) (hdef : defaultsOf params X.env = ([], []))
    (hbind : ∀ (q : Str) (cl : List (Str × Addr)) (pm cv ctv u : Value), bindArgs (PySem.W.kla_fn "<lambda>" q params body scope cl pm cv ctv) ⟨[u], []⟩ = pure [(a, u)])
    (hbody : ∀ (A : Around) (s : Shared) (H : Hp) (f c' : Addr), Room k (A.deeper (lamEnv X scope s.heap.objs.size f c')) → PE (lamCx1 X a A X.stack s H scope f c') body tb)
    (he : backTo pos (starEach [e] X.env) = (false, eval e X.env) :: backTo pos (starEach [] X.env) := by rfl) (hpl : (backTo pos (starEach [e] X.env)).any (·.1) = false := by rfl) :
    PE X (.Call (.Name "sorted" p1) [e] [⟨some "key", .Lambda params body scope lpos, kpos⟩] pos) (tSortLamD X.K T t tb) := by
  refine ⟨fun pins s σ H Q I h => ?_⟩
  refine wpAny_Call_Name_kw (ld_blt I hg hm hv ?_ (by decide) (by decide))
  refine PyProof.Rows.callWith_kw (thn (ha.run pos pins s σ H _ I h) fun us s1 ⟨vs, H1, I1, r1, q1⟩ => ?_) he hpl rfl rfl
  obtain ⟨d, kvs, rfl, hd, hz, hT, q⟩ := q1
  obtain ⟨u, rfl, ru⟩ := vals1 r1
  cases (show u = Value.ref d from ru)
  show wpAny _ _ (evalAll [(do let v ← eval (.Lambda params body scope lpos) X.env; standAt pos; pure v)]) _ _ s1
  refine wpAny_evalAll_cons (wpAny_bind (lam_make2 I1 TB hcode hmT hu hT hdef (L.has I1.ok) fun f c' pm ctv H2 s2 I2 eN T2 hf hfn hfs hco => wpAny_bind (wpAny_standAt (wpAny_pure (wpAny_evalAll_nil ?_)))))
  show wpAny _ _ (call (.builtin "sorted") [.ref d] [(Str.ofString "key", .ref f)]) _ _ s2
  have hd2 := eN _ _ hd (fun ps z => nomatch z)
  obtain ⟨z, lo, ks, pr, o, es, ep, ho, hx, hdt, hes, hn⟩ := (show ObjOk X.prog X.w H2 s2.heap d (.dT kvs) from I2.hok _ _ hd2)
  have l1 : es.size = ks.length := size_of_entries hes
  have l2 : kvs.length = ks.length := Paired.length pr
  obtain ⟨kf, hk, q⟩ := q H2 (ks.map fun x => x.2.1) eN T2 (isKeys_of pr)
  have fL : f ≠ X.env.locals := fun z => by
    obtain ⟨m, ⟨o, es, ep, ho, hd, _⟩, _⟩ := I2.loc
    rw [← z, hf] at ho
    cases ho
    cases hd
  have hr1 : Room (k + 1) X.A.in1.in1 := Room.in1 (Room.in1 hr)
  refine sorted_key (k := kf) (xs := (ks.map fun x => x.2.1).map V.ref) (vs := (ks.map fun x => x.2.1).map Value.ref) hr.units I2 hf hfn hfs (fun v z => nomatch z) fL (vals_refs _) (fun x hm => by obtain ⟨b, _, rfl⟩ := List.mem_map.mp hm; exact ⟨b, rfl⟩) (by rw [List.length_map, List.length_map]; omega)
    (fun R hR => PySem.W.kdu_collect (A := X.A.in1) (kdl_raw lo hx hdt) (I2.ok.hd hc) ho (by omega) fun h' tk acc kp it => ?_) (fun p x u H3 s3 hm3 rx J sm => ?_) (fun ys p H' g1 g2 sm np hp => q ys p H' g1 g2 sm (T2.ext sm) hp)
  · have ea : acc.toList = (ks.map fun x => x.2.1).map Value.ref := by
      rw [List.map_map]
      have hl : acc.toList.length = ks.length := by rw [Array.length_toList, it.1]; exact l1
      apply List.ext_getElem?
      intro j
      rw [List.getElem?_map]
      by_cases hj : j < ks.length
      · have h1 : acc.toList[j]? = some acc.toList[j] := List.getElem?_eq_getElem (by omega)
        obtain ⟨en, hen, hv⟩ := it.2 j acc.toList[j] (by rw [← Array.getElem?_toList]; exact h1)
        have qe := entry_at hes j
        rw [hen, List.getElem?_eq_getElem hj] at qe
        have e2 : en = entryOfKey (tupleKind (mixKind X.prog X.w)) ks[j] := Option.some.inj qe
        rw [h1, List.getElem?_eq_getElem hj, hv, e2]
        rfl
      · rw [List.getElem?_eq_none (by omega), List.getElem?_eq_none (by omega)]
        rfl
    rw [ea]
    exact hR h' tk kp
  · have hf3 := (J.pin (f, _) (List.mem_append_right _ (List.mem_cons_of_mem _ (List.mem_cons_self ..)))).1
    exact wpAny_call (lam_call J L na hf3 (sm _ _ hco) J.env0.in1.in1 hr1 rx (hbind _ _ _ _ _ _) (fun A s H hr' => hbody A s H f c' hr') (hk H3 sm x hm3))
end
end Km

set_option Elab.async false
set_option linter.all false
set_option maxRecDepth 100000
set_option maxHeartbeats 4000000
namespace Km
open PySem PySem.Spec PyProof.Rows L2 Kg Kd LamX
/-- a def by its body, its code object told -/
theorem okC {P : Program} {w : World} {K : PySem.W.Frag} {mg : Str → Option Value} {base : Heap} {x qual : Str} {st : Stmt} {f : Addr} {fd : FuncData} {N ps : List Str} {k : Nat} {sp : Sp} (F : Fun K x qual st f fd) (S : FnScope N ps (defScope st)) (len : ∀ vs H Q E, sp vs H Q E → vs.length = ps.length)
    (body : ∀ (A : Around) (outer : List Env) (s : Shared) (H : Hp) (vs : List V) (Q : VK) (E : XK), Room k (A.deeper (envOfC qual (defScope st) s.heap.objs.size f fd.code)) → sp vs H Q E →
      ∃ t, PSs (cxOf CX0 P w K mg base N qual (defScope st) f fd.code A outer s H E).nox (defBody st) t ∧ t { nx := fun _ H' => Q .non H', rt := Q } (start N vs) H) : FnOk P w K mg base CX0 (k + 1) f fd ps sp := by
  obtain ⟨z1, z2, z3, z4, z5, z6, z7, z8, z9, e, h1, h2⟩ := F.ex
  subst e
  refine fn_of h1 h2 S len fun A outer s H vs Q E r p => ?_
  obtain ⟨t, b1, b2⟩ := body A outer s H vs Q E r p
  exact ⟨t, b1.nox, b2⟩
end Km

set_option Elab.async false
set_option linter.all false
set_option maxRecDepth 100000
set_option maxHeartbeats 4000000
/-! Comprehensions over tuples, lists and ranges in which nothing that stands is changed. -/
namespace Kf
open PySem PySem.Spec PyProof.Rows L2 Kg Kd
theorem rgm_succ (P : Nat → Bool) (f : Nat → V) (i : Nat) : ((List.range (i + 1)).filter P).map f = ((List.range i).filter P).map f ++ (if P i = true then [f i] else []) := by
  rw [List.range_succ, List.filter_append, List.map_append]
  congr 1
  by_cases c : P i = true
  · simp [c]
  · simp [c]
theorem rgm_len (P : Nat → Bool) (f : Nat → V) (i : Nat) : (((List.range i).filter P).map f).length ≤ i := by
  have := List.length_filter_le P (List.range i)
  rw [List.length_map]
  rwa [List.length_range] at this
section
variable {K : PySem.W.Frag} {a : Addr} {xs : List V} {g : TG} {tt : TT} {te : TE} {vs : List Nat} {σ : L2.St} {H1 : Hp} {D : Addr} {Qd : Hp → Prop} {n : Nat}
/-- what one turn asks -/
def FmTurn (P : Nat → Bool) (f : Nat → V) (g : TG) (tt : TT) (te : TE) (vs : List Nat) (σ : L2.St) (H1 : Hp) (i : Nat) (x : V) : Prop :=
  ∀ (H : Hp), Same H1 H → ∀ (R : V → Hp → Prop) (R0 : Hp → Prop), (∀ H', Same H H' → (P i = true → R (f i) H') ∧ (P i = false → R0 H')) →
    g x (wipe σ vs) H fun σ2 H2 => wipe σ2 vs = wipe σ vs ∧ tt σ2 H2 fun b H3 => if b = true then te σ2 H3 R else R0 H3
theorem fm_step {P : Nat → Bool} {f : Nat → V} {i : Nat} {x : V} {H : Hp} (nD : H1 D = none) (hn : i < 900) (p : Same H1 H ∧ H D = some (.lst (((List.range i).filter P).map f))) (hs : FmTurn P f g tt te vs σ H1 i x) :
    g x (wipe σ vs) H fun σ2 H2 => wipe σ2 vs = wipe σ vs ∧ tt σ2 H2 fun b H3 =>
      if b = true then te σ2 H3 fun y H4 => ∃ acc, H4 D = some (.lst acc) ∧ acc.length < sizeLine ∧ (Same H1 (upd H4 D (.lst (acc ++ [y]))) ∧ (upd H4 D (.lst (acc ++ [y]))) D = some (.lst (((List.range (i + 1)).filter P).map f))) else (Same H1 H3 ∧ H3 D = some (.lst (((List.range (i + 1)).filter P).map f))) := by
  refine hs H p.1 _ _ (fun H' s' => ⟨fun c => ?_, fun c => ?_⟩)
  · refine ⟨_, s' _ _ p.2, ?_, fun b o z => ?_, ?_⟩
    · have := rgm_len P f i
      exact small1000 (by omega)
    · rw [upd_ne (ne_of_none z nD)]; exact s' _ _ (p.1 _ _ z)
    · rw [upd_same, rgm_succ, if_pos c]
  · refine ⟨p.1.trans s', ?_⟩
    rw [rgm_succ, if_neg (by rw [c]; exact Bool.false_ne_true), List.append_nil]
    exact s' _ _ p.2
theorem lc_tfm (P : Nat → Bool) (f : Nat → V) (nD : H1 D = none) (hn : xs.length ≤ 900) (ha : H1 a = some (.tup xs)) (hs : ∀ (i : Nat) (x : V), xs[i]? = some x → FmTurn P f g tt te vs σ H1 i x)
    (hd : ∀ H, Same H1 H → H D = some (.lst (((List.range xs.length).filter P).map f)) → Qd H) :
    ∃ W : Nat → Nat → Hp → Prop, (∃ m, W 0 m (upd H1 D (.lst []))) ∧ ∀ i m H, W i m H →
      ((Itt K a).stop i H ∧ Qd H) ∨ ((Itt K a).go i H ∧ ∃ Nx : Hp → Prop, (∀ H', Nx H' → ∃ m', m' < m ∧ W (i + 1) m' H') ∧ ∀ x H', (Itt K a).yld i H x H' → g x (wipe σ vs) H' fun σ2 H2 => wipe σ2 vs = wipe σ vs ∧ tt σ2 H2 fun b H3 =>
        if b = true then te σ2 H3 fun y H4 => ∃ acc, H4 D = some (.lst acc) ∧ acc.length < sizeLine ∧ Nx (upd H4 D (.lst (acc ++ [y]))) else Nx H3) :=
  lc_tup (K := K) (a := a) (xs := xs) (fun i H => Same H1 H ∧ H D = some (.lst (((List.range i).filter P).map f))) ⟨same_new nD, upd_same⟩ (fun i H _ p => SqT.of (p.1 _ _ ha))
    (fun i x H hx p => fm_step nD (by have := (List.getElem?_eq_some_iff.mp hx).1; omega) p (hs i x hx)) (fun H p => hd H p.1 p.2)
theorem lc_lfm (P : Nat → Bool) (f : Nat → V) (nD : H1 D = none) (hn : xs.length ≤ 900) (ha : H1 a = some (.lst xs)) (hs : ∀ (i : Nat) (x : V), xs[i]? = some x → FmTurn P f g tt te vs σ H1 i x)
    (hd : ∀ H, Same H1 H → H D = some (.lst (((List.range xs.length).filter P).map f)) → Qd H) :
    ∃ W : Nat → Nat → Hp → Prop, (∃ m, W 0 m (upd H1 D (.lst []))) ∧ ∀ i m H, W i m H →
      ((Itl K a).stop i H ∧ Qd H) ∨ ((Itl K a).go i H ∧ ∃ Nx : Hp → Prop, (∀ H', Nx H' → ∃ m', m' < m ∧ W (i + 1) m' H') ∧ ∀ x H', (Itl K a).yld i H x H' → g x (wipe σ vs) H' fun σ2 H2 => wipe σ2 vs = wipe σ vs ∧ tt σ2 H2 fun b H3 =>
        if b = true then te σ2 H3 fun y H4 => ∃ acc, H4 D = some (.lst acc) ∧ acc.length < sizeLine ∧ Nx (upd H4 D (.lst (acc ++ [y]))) else Nx H3) :=
  lc_list (K := K) (a := a) (xs := xs) (fun i H => Same H1 H ∧ H D = some (.lst (((List.range i).filter P).map f))) ⟨same_new nD, upd_same⟩ (fun i H _ p => SqL.of (p.1 _ _ ha))
    (fun i x H hx p => fm_step nD (by have := (List.getElem?_eq_some_iff.mp hx).1; omega) p (hs i x hx)) (fun H p => hd H p.1 p.2)
theorem lc_rfm (P : Nat → Bool) (f : Nat → V) (nD : H1 D = none) (hn : n ≤ 900) (hs : ∀ (i : Nat), i < n → FmTurn P f g tt te vs σ H1 i (.int (0 + (i : Nat))))
    (hd : ∀ H, Same H1 H → H D = some (.lst (((List.range n).filter P).map f)) → Qd H) :
    ∃ W : Nat → Nat → Hp → Prop, (∃ m, W 0 m (upd H1 D (.lst []))) ∧ ∀ i m H, W i m H →
      ((Itr 0 n).stop i H ∧ Qd H) ∨ ((Itr 0 n).go i H ∧ ∃ Nx : Hp → Prop, (∀ H', Nx H' → ∃ m', m' < m ∧ W (i + 1) m' H') ∧ ∀ x H', (Itr 0 n).yld i H x H' → g x (wipe σ vs) H' fun σ2 H2 => wipe σ2 vs = wipe σ vs ∧ tt σ2 H2 fun b H3 =>
        if b = true then te σ2 H3 fun y H4 => ∃ acc, H4 D = some (.lst acc) ∧ acc.length < sizeLine ∧ Nx (upd H4 D (.lst (acc ++ [y]))) else Nx H3) :=
  lc_range (lo := 0) (n := n) (fun i H => Same H1 H ∧ H D = some (.lst (((List.range i).filter P).map f))) ⟨same_new nD, upd_same⟩
    (fun i H hi p => fm_step nD (by omega) p (hs i hi)) (fun H p => hd H p.1 p.2)
def all1 : Nat → Bool := fun _ => true
theorem rg_all1 (n : Nat) : (List.range n).filter all1 = List.range n := List.filter_eq_self.mpr fun _ _ => rfl
/-- a turn without a test -/
theorem fm_one {f : Nat → V} {i : Nat} {x : V} (mono : ∀ {x σ H A B}, (∀ s h, A s h → B s h) → g x σ H A → g x σ H B) (hs : ∀ (H : Hp), Same H1 H → ∀ (R : V → Hp → Prop), (∀ H', Same H H' → R (f i) H') → g x (wipe σ vs) H fun σ2 H2 => wipe σ2 vs = wipe σ vs ∧ te σ2 H2 R) : FmTurn all1 f g tYes te vs σ H1 i x :=
  fun H s R R0 h => mono (fun s2 h2 z => ⟨z.1, by
    have e : tYes s2 h2 (fun b H3 => if b = true then te s2 H3 R else R0 H3) = (if true = true then te s2 h2 R else R0 h2) := rfl
    rw [e, if_pos rfl]; exact z.2⟩) (hs H s R (fun H' s' => (h H' s').1 rfl))
theorem gName_mono' {i : Nat} {x : V} {σ : L2.St} {H : Hp} {A B : L2.St → Hp → Prop} (h : ∀ s h, A s h → B s h) (z : gName i x σ H A) : gName i x σ H B := h _ _ z
/-- the items of a list, by their places -/
theorem rg_map {α : Type} {l : List α} {f : Nat → V} {v : α → V} (h : ∀ i x, l[i]? = some x → f i = v x) : (List.range l.length).map f = l.map v := by
  apply List.ext_getElem?
  intro i
  rw [List.getElem?_map, List.getElem?_map]
  by_cases c : i < l.length
  · rw [List.getElem?_range c, List.getElem?_eq_getElem c]
    show some (f i) = some (v l[i])
    rw [h i l[i] (List.getElem?_eq_getElem c)]
  · rw [List.getElem?_eq_none (by rw [List.length_range]; omega), List.getElem?_eq_none (by omega)]; rfl
theorem rg_filt {α : Type} {f : Nat → V} {v : α → V} {P : Nat → Bool} {Q : α → Bool} : ∀ {l : List α}, (∀ i x, l[i]? = some x → P i = Q x ∧ f i = v x) → ((List.range l.length).filter P).map f = (l.filter Q).map v := by
  intro l h
  have key : ∀ m, m ≤ l.length → ((List.range m).filter P).map f = ((l.take m).filter Q).map v := by
    intro m
    induction m with
    | zero => intro _; simp
    | succ m ih =>
      intro hm
      obtain ⟨e1, e2⟩ := h m l[m] (List.getElem?_eq_getElem (by omega))
      rw [rgm_succ, ih (by omega), List.take_add_one, List.getElem?_eq_getElem (show m < l.length by omega), List.filter_append, List.map_append]
      congr 1
      by_cases c : P m = true
      · rw [if_pos c]
        rw [e1] at c
        simp [c, e2]
      · rw [if_neg c]
        rw [e1] at c
        simp [c]
  have := key l.length (Nat.le_refl _)
  rwa [List.take_length] at this
end
end Kf

set_option Elab.async false
set_option linter.all false
set_option maxRecDepth 100000
set_option maxHeartbeats 4000000
/-! Heaps of which all but the tables stays. -/
namespace Kf
open PySem PySem.Spec PyProof.Rows L2 Kg Kd LamX
/-- all but tables stays as it was, and the tables of T go on -/
def Gr (T : List (Addr × Str)) (H H' : Hp) : Prop := ExtN H H' ∧ (Tabs T H → Tabs T H')
theorem Gr.refl (T : List (Addr × Str)) (H : Hp) : Gr T H H := ⟨.refl H, id⟩
theorem Gr.trans {T : List (Addr × Str)} {H H1 H2 : Hp} (a : Gr T H H1) (b : Gr T H1 H2) : Gr T H H2 := ⟨a.1.trans b.1, fun t => b.2 (a.2 t)⟩
theorem Gr.of {T : List (Addr × Str)} {H H' : Hp} (s : Same H H') : Gr T H H' := ⟨.of s, fun t => t.ext s⟩
theorem Gr.thn {T : List (Addr × Str)} {H H1 H2 : Hp} (a : Gr T H H1) (b : Same H1 H2) : Gr T H H2 := a.trans (.of b)
theorem Gr.aft {T : List (Addr × Str)} {H H1 H2 : Hp} (a : Same H H1) (b : Gr T H1 H2) : Gr T H H2 := Gr.trans (.of a) b
theorem Gr.tup {T : List (Addr × Str)} {H H' : Hp} (g : Gr T H H') {a : Addr} {xs : List V} (h : H a = some (.tup xs)) : H' a = some (.tup xs) := g.1 _ _ h fun _ z => nomatch z
theorem Gr.lst {T : List (Addr × Str)} {H H' : Hp} (g : Gr T H H') {a : Addr} {xs : List V} (h : H a = some (.lst xs)) : H' a = some (.lst xs) := g.1 _ _ h fun _ z => nomatch z
theorem Gr.ins {T : List (Addr × Str)} {H H' : Hp} (g : Gr T H H') {a C dx : Addr} {fs : List (Str × V)} (h : H a = some (.ins C dx fs)) : H' a = some (.ins C dx fs) := g.1 _ _ h fun _ z => nomatch z
theorem Gr.kf {T : List (Addr × Str)} {H H' : Hp} (g : Gr T H H') : KF H H' := fun a o h f => g.1 a o h fun ps z => by rw [z] at f; exact f
mutual
theorem da_ext {av : Addr → Prop} {H H' : Hp} (k : ExtN H H') : ∀ {v : V} {d : PyData}, Da av H v d → Da av H' v d
  | _, _, .non => .non
  | _, _, .bl b => .bl b
  | _, _, .int i => .int i
  | _, _, .str x => .str x
  | _, _, .lst n h z r => .lst n (k _ _ h fun _ y => nomatch y) z (das_ext k r)
  | _, _, .tup n h z r => .tup n (k _ _ h fun _ y => nomatch y) z (das_ext k r)
  | _, _, .dc0 n h => .dc0 n (k _ _ h fun _ y => nomatch y)
  | _, _, .dc1 n h => .dc1 n (k _ _ h fun _ y => nomatch y)
theorem das_ext {av : Addr → Prop} {H H' : Hp} (k : ExtN H H') : ∀ {vs : List V} {ds : List PyData}, DaAll av H vs ds → DaAll av H' vs ds
  | _, _, .nil => .nil
  | _, _, .cons h r => .cons (da_ext k h) (das_ext k r)
end
theorem Gr.da {T : List (Addr × Str)} {H H' : Hp} {av : Addr → Prop} {v : V} {d : PyData} (g : Gr T H H') (h : Da av H v d) : Da av H' v d := da_ext g.1 h
theorem Gr.tu {T : List (Addr × Str)} {H H' : Hp} {v : V} {d : PyData} (g : Gr T H H') (h : Tu H v d) : Tu H' v d := h.keep g.kf
theorem Gr.tus {T : List (Addr × Str)} {H H' : Hp} {v : List V} {d : List PyData} (g : Gr T H H') (h : TuAll H v d) : TuAll H' v d := h.keep g.kf
/-- what changes lists alone leaves tables -/
theorem tabs_keep {T : List (Addr × Str)} {ds : Addr → Prop} {H H' : Hp} (k : Keep ds H H') (hd : ∀ a, ds a → ∃ xs, H a = some (.lst xs)) (t : Tabs T H) : Tabs T H' := by
  intro p hp
  obtain ⟨ps, h1, h2, h3⟩ := t p hp
  refine ⟨ps, k _ _ h1 fun z => ?_, h2, fun pos cv hc => ?_⟩
  · obtain ⟨xs, e⟩ := hd _ z
    rw [h1] at e; cases e
  · obtain ⟨c, e1, e2⟩ := h3 pos cv hc
    refine ⟨c, e1, k _ _ e2 fun z => ?_⟩
    obtain ⟨xs, e⟩ := hd _ z
    rw [e2] at e
    unfold CodeO at e
    cases e
/-- what was put at a place where nothing but a table may have stood -/
theorem ne_gr {T : List (Addr × Str)} {H H1 : Hp} {p b : Addr} {o : HO} (g : Gr T H H1) (n : H1 p = none) (h : H b = some o) (z : ∀ ps, o ≠ .tbl ps) : b ≠ p := fun e => by
  have y := g.1 _ _ h z
  rw [e, n] at y; cases y
/-- one more list item at D, which was new -/
theorem Gr.putL {T : List (Addr × Str)} {H H1 H2 : Hp} {D : Addr} {xs : List V} {u : HO} (n : H D = none) (g : Gr T H H1) (h : H1 D = some (.lst xs)) : Gr T H (upd H1 D u) := by
  refine ⟨fun b o e z => ?_, fun t => tabs_keep (ds := fun a => a = D) (Keep.put rfl) (fun a z => ⟨xs, by rw [z]; exact h⟩) (g.2 t)⟩
  rw [upd_ne (ne_of_none e n)]; exact g.1 b o e z
end Kf
namespace Kf
open PySem PySem.Spec PyProof.Rows L2 Kg Kd LamX
theorem tabs_put {T : List (Addr × Str)} {H : Hp} {D : Addr} {o u : HO} (h : H D = some o) (n1 : ∀ ps, o ≠ .tbl ps) (n2 : ∀ φ, o ≠ .ext φ) (t : Tabs T H) : Tabs T (upd H D u) := by
  intro p hp
  obtain ⟨ps, h1, h2, h3⟩ := t p hp
  refine ⟨ps, ?_, h2, fun pos cv hc => ?_⟩
  · rw [upd_ne fun z => n1 ps (by rw [z, h] at h1; exact Option.some.inj h1)]; exact h1
  · obtain ⟨c, e1, e2⟩ := h3 pos cv hc
    refine ⟨c, e1, ?_⟩
    rw [upd_ne fun z => n2 _ (by rw [z, h] at e2; exact Option.some.inj e2)]; exact e2
theorem Gr.putD {T : List (Addr × Str)} {H H1 : Hp} {D : Addr} {kvs : List (List Key × V)} {u : HO} (n : H D = none) (g : Gr T H H1) (h : H1 D = some (.dT kvs)) : Gr T H (upd H1 D u) :=
  ⟨fun b o e z => by rw [upd_ne (ne_of_none e n)]; exact g.1 b o e z, fun t => tabs_put h (fun _ z => nomatch z) (fun _ z => nomatch z) (g.2 t)⟩
end Kf

set_option Elab.async false
set_option linter.all false
set_option maxRecDepth 100000
set_option maxHeartbeats 4000000
/-! Tuples of kinds read off the heap; sorted lists of them. -/
namespace Kf
open PySem PySem.Spec PyProof.Rows L2 Kg Kd LamX
def toN : V → Nat
  | .int i => i.toNat
  | _ => 0
def dec (H : Hp) : V → List Nat
  | .ref t => match H t with
    | some (.tup vs) => vs.map toN
    | _ => []
  | _ => []
theorem dec_at {H : Hp} {t : Addr} {l : List Nat} (h : H t = some (.tup (l.map iV))) : dec H (.ref t) = l := by
  simp only [dec, h]
  rw [List.map_map]
  exact (List.map_congr_left (fun x _ => (by show ((x : Nat) : Int).toNat = x; omega))).trans (List.map_id _)
theorem dec_tu {H : Hp} {x : V} {l : List Nat} (h : Tu H x (pdI l)) : dec H x = l := by
  obtain ⟨a, rfl, ha, _⟩ := tu_inv h
  exact dec_at ha
theorem dec_tus {H : Hp} : ∀ {xs : List V} {ls : List (List Nat)}, TuAll H xs (ls.map pdI) → xs.map (dec H) = ls
  | [], [], _ => rfl
  | x :: xs, l :: ls, .cons h r => by rw [List.map_cons, dec_tu h, dec_tus r]
theorem tus_of {H : Hp} : ∀ {ys : List V}, (∀ y ∈ ys, Tu H y (pdI (dec H y))) → TuAll H ys ((ys.map (dec H)).map pdI)
  | [], _ => .nil
  | y :: ys, h => .cons (h y (List.mem_cons_self ..)) (tus_of fun z hz => h z (List.mem_cons_of_mem _ hz))
theorem tus_mem {H : Hp} : ∀ {xs : List V} {ls : List (List Nat)}, TuAll H xs (ls.map pdI) → ∀ x ∈ xs, Tu H x (pdI (dec H x))
  | [], [], _, _, hx => nomatch hx
  | x :: xs, l :: ls, .cons h r, y, hy => by
    rcases List.mem_cons.mp hy with e | e
    · rw [e, dec_tu h]; exact h
    · exact tus_mem r y e
theorem tus_ref {H : Hp} {xs : List V} {ls : List (List Nat)} (h : TuAll H xs (ls.map pdI)) : ∀ x ∈ xs, ∃ a, x = V.ref a := fun x hx => by
  obtain ⟨a, e, _⟩ := tu_inv (tus_mem h x hx)
  exact ⟨a, e⟩
theorem dec_sorted {α : Type} {H : Hp} {xs ys : List V} {ls : List (List Nat)} {g : List Nat → α} {lt : α → α → Bool} (tri : ∀ a b, a = b ∨ lt a b = true ∨ lt b a = true) (inj : ∀ a b, g a = g b → a = b) (hx : TuAll H xs (ls.map pdI)) (nd : ls.Nodup)
    (srt : ys.Pairwise (fun x y => lt (g (dec H y)) (g (dec H x)) = false)) (pm : ys.Perm xs) : ∃ ms : List (List Nat), TuAll H ys (ms.map pdI) ∧ ms.Pairwise (fun a b => lt (g a) (g b) = true) ∧ (∀ l, l ∈ ms ↔ l ∈ ls) ∧ ms.length = ls.length := by
  have p2 : (ys.map (dec H)).Perm ls := by rw [← dec_tus hx]; exact pm.map _
  refine ⟨ys.map (dec H), tus_of fun y hy => tus_mem hx y (pm.mem_iff.mp hy), ?_, fun l => p2.mem_iff, p2.length_eq⟩
  have nd2 : (ys.map (dec H)).Nodup := p2.nodup_iff.mpr nd
  refine List.pairwise_map.mpr (((List.pairwise_map.mp nd2).and srt).imp fun {a b} z => ?_)
  rcases tri (g (dec H a)) (g (dec H b)) with e | e | e
  · exact absurd (inj _ _ e) z.1
  · exact e
  · rw [z.2] at e; cases e
theorem lp_tri (a b : Int × List Int) : a = b ∨ Ku.lp a b = true ∨ Ku.lp b a = true := by
  rcases Ku.lx_tri (a.1 :: a.2) (b.1 :: b.2) with e | e | e
  · exact .inl (Prod.ext (List.cons.inj e).1 (List.cons.inj e).2)
  · exact .inr (.inl e)
  · exact .inr (.inr e)
/-- (len(l), l) -/
def gLen (l : List Nat) : Int × List Int := (((l.length : Nat) : Int), ci l)
theorem gLen_inj (a b : List Nat) (h : gLen a = gLen b) : a = b := ci_inj (Prod.mk.inj h).2
end Kf

set_option Elab.async false
set_option linter.all false
set_option maxRecDepth 100000
set_option maxHeartbeats 4000000
/-! Comprehensions over tuples and lists whose items are known as data; the number of lots. -/
namespace Kf
open PySem PySem.Spec PyProof.Rows L2 Kg Kd LamX
/-- one turn that tells b of the item, and y if b holds -/
def FmT (b : Bool) (y : V) (g : TG) (tt : TT) (te : TE) (vs : List Nat) (σ : L2.St) (H1 : Hp) (x : V) : Prop :=
  ∀ (H : Hp), Same H1 H → ∀ (R : V → Hp → Prop) (R0 : Hp → Prop), (∀ H', Same H H' → (b = true → R y H') ∧ (b = false → R0 H')) →
    g x (wipe σ vs) H fun σ2 H2 => wipe σ2 vs = wipe σ vs ∧ tt σ2 H2 fun b H3 => if b = true then te σ2 H3 R else R0 H3
section
variable {K : PySem.W.Frag} {a : Addr} {xs : List V} {g : TG} {tt : TT} {te : TE} {vs : List Nat} {σ : L2.St} {H1 : Hp} {D : Addr} {Qd : Hp → Prop} {n : Nat} {α : Type} {ls : List α}
def atB (ls : List α) (q : α → Bool) : Nat → Bool := fun i => match ls[i]? with | some e => q e | none => false
def atV (ls : List α) (v : α → V) : Nat → V := fun i => match ls[i]? with | some e => v e | none => .non
theorem atB_at {q : α → Bool} {i : Nat} {e : α} (h : ls[i]? = some e) : atB ls q i = q e := by simp only [atB, h]
theorem atV_at {v : α → V} {i : Nat} {e : α} (h : ls[i]? = some e) : atV ls v i = v e := by simp only [atV, h]
theorem rg_at (q : α → Bool) (v : α → V) : ((List.range ls.length).filter (atB ls q)).map (atV ls v) = (ls.filter q).map v := rg_filt fun i x h => ⟨atB_at h, atV_at h⟩
theorem fmt_turn {q : α → Bool} {v : α → V} {i : Nat} {x : V} {e : α} (h : ls[i]? = some e) (z : FmT (q e) (v e) g tt te vs σ H1 x) : FmTurn (atB ls q) (atV ls v) g tt te vs σ H1 i x := by
  intro H s R R0 hR
  refine z H s R R0 fun H' s' => ?_
  have y := hR H' s'
  rw [atB_at h, atV_at h] at y
  exact y
/-- a turn without a test -/
theorem fmt_one {y x : V} (mono : ∀ {x σ H A B}, (∀ s h, A s h → B s h) → g x σ H A → g x σ H B) (hs : ∀ (H : Hp), Same H1 H → ∀ (R : V → Hp → Prop), (∀ H', Same H H' → R y H') → g x (wipe σ vs) H fun σ2 H2 => wipe σ2 vs = wipe σ vs ∧ te σ2 H2 R) : FmT true y g tYes te vs σ H1 x :=
  fun H s R R0 h => mono (fun s2 h2 z => ⟨z.1, by
    have e : tYes s2 h2 (fun b H3 => if b = true then te s2 H3 R else R0 H3) = (if true = true then te s2 h2 R else R0 h2) := rfl
    rw [e, if_pos rfl]; exact z.2⟩) (hs H s R (fun H' s' => (h H' s').1 rfl))
theorem filt_all (l : List α) : l.filter (fun _ => true) = l := List.filter_eq_self.mpr fun _ _ => rfl
theorem lc_tI (q : α → Bool) (v : α → V) (nD : H1 D = none) (hn : xs.length ≤ 900) (ha : H1 a = some (.tup xs)) (hl : xs.length = ls.length) (hs : ∀ (i : Nat) (x : V) (e : α), xs[i]? = some x → ls[i]? = some e → FmT (q e) (v e) g tt te vs σ H1 x)
    (hd : ∀ H, Same H1 H → H D = some (.lst ((ls.filter q).map v)) → Qd H) :
    ∃ W : Nat → Nat → Hp → Prop, (∃ m, W 0 m (upd H1 D (.lst []))) ∧ ∀ i m H, W i m H →
      ((Itt K a).stop i H ∧ Qd H) ∨ ((Itt K a).go i H ∧ ∃ Nx : Hp → Prop, (∀ H', Nx H' → ∃ m', m' < m ∧ W (i + 1) m' H') ∧ ∀ x H', (Itt K a).yld i H x H' → g x (wipe σ vs) H' fun σ2 H2 => wipe σ2 vs = wipe σ vs ∧ tt σ2 H2 fun b H3 =>
        if b = true then te σ2 H3 fun y H4 => ∃ acc, H4 D = some (.lst acc) ∧ acc.length < sizeLine ∧ Nx (upd H4 D (.lst (acc ++ [y]))) else Nx H3) :=
  lc_tfm (atB ls q) (atV ls v) nD hn ha (fun i x hx => by
    have hi : i < ls.length := by have := (List.getElem?_eq_some_iff.mp hx).1; omega
    exact fmt_turn (List.getElem?_eq_getElem hi) (hs i x _ hx (List.getElem?_eq_getElem hi))) (fun H s h => hd H s (by rw [hl, rg_at] at h; exact h))
theorem lc_lI (q : α → Bool) (v : α → V) (nD : H1 D = none) (hn : xs.length ≤ 900) (ha : H1 a = some (.lst xs)) (hl : xs.length = ls.length) (hs : ∀ (i : Nat) (x : V) (e : α), xs[i]? = some x → ls[i]? = some e → FmT (q e) (v e) g tt te vs σ H1 x)
    (hd : ∀ H, Same H1 H → H D = some (.lst ((ls.filter q).map v)) → Qd H) :
    ∃ W : Nat → Nat → Hp → Prop, (∃ m, W 0 m (upd H1 D (.lst []))) ∧ ∀ i m H, W i m H →
      ((Itl K a).stop i H ∧ Qd H) ∨ ((Itl K a).go i H ∧ ∃ Nx : Hp → Prop, (∀ H', Nx H' → ∃ m', m' < m ∧ W (i + 1) m' H') ∧ ∀ x H', (Itl K a).yld i H x H' → g x (wipe σ vs) H' fun σ2 H2 => wipe σ2 vs = wipe σ vs ∧ tt σ2 H2 fun b H3 =>
        if b = true then te σ2 H3 fun y H4 => ∃ acc, H4 D = some (.lst acc) ∧ acc.length < sizeLine ∧ Nx (upd H4 D (.lst (acc ++ [y]))) else Nx H3) :=
  lc_lfm (atB ls q) (atV ls v) nD hn ha (fun i x hx => by
    have hi : i < ls.length := by have := (List.getElem?_eq_some_iff.mp hx).1; omega
    exact fmt_turn (List.getElem?_eq_getElem hi) (hs i x _ hx (List.getElem?_eq_getElem hi))) (fun H s h => hd H s (by rw [hl, rg_at] at h; exact h))
/-! the items themselves -/
theorem tus_zip {H : Hp} {dd : α → PyData} : ∀ {xs : List V} {ls : List α}, TuAll H xs (ls.map dd) → ∀ (q : α → Bool), TuAll H (((xs.zip ls).filter fun p => q p.2).map fun p => p.1) ((ls.filter q).map dd)
  | [], [], _, q => .nil
  | x :: xs, l :: ls, .cons h r, q => by
    have z := tus_zip r q
    rw [List.zip_cons_cons, List.filter_cons, List.filter_cons]
    cases c : q l with
    | true => simp only [c, if_true, List.map_cons]; exact .cons h z
    | false => simpa [c] using z
theorem zip_get {i : Nat} {x : V} {e : α} (hx : xs[i]? = some x) (he : ls[i]? = some e) : (xs.zip ls)[i]? = some (x, e) := by
  rw [List.getElem?_zip_eq_some]; exact ⟨hx, he⟩
theorem lc_tS {dd : α → PyData} (q : α → Bool) (nD : H1 D = none) (hn : xs.length ≤ 900) (ha : H1 a = some (.tup xs)) (hx : TuAll H1 xs (ls.map dd)) (hs : ∀ (i : Nat) (x : V) (e : α), xs[i]? = some x → ls[i]? = some e → Tu H1 x (dd e) → FmT (q e) x g tt te vs σ H1 x)
    (hd : ∀ H ys, Same H1 H → H D = some (.lst ys) → TuAll H ys ((ls.filter q).map dd) → Qd H) :
    ∃ W : Nat → Nat → Hp → Prop, (∃ m, W 0 m (upd H1 D (.lst []))) ∧ ∀ i m H, W i m H →
      ((Itt K a).stop i H ∧ Qd H) ∨ ((Itt K a).go i H ∧ ∃ Nx : Hp → Prop, (∀ H', Nx H' → ∃ m', m' < m ∧ W (i + 1) m' H') ∧ ∀ x H', (Itt K a).yld i H x H' → g x (wipe σ vs) H' fun σ2 H2 => wipe σ2 vs = wipe σ vs ∧ tt σ2 H2 fun b H3 =>
        if b = true then te σ2 H3 fun y H4 => ∃ acc, H4 D = some (.lst acc) ∧ acc.length < sizeLine ∧ Nx (upd H4 D (.lst (acc ++ [y]))) else Nx H3) := by
  have hl : xs.length = ls.length := by rw [hx.length, List.length_map]
  refine lc_tI (ls := xs.zip ls) (fun p => q p.2) (fun p => p.1) nD hn ha (by rw [List.length_zip]; omega) (fun i x p hxi hp => ?_) (fun H s h => hd H _ s h ((tus_zip hx q).keep (.of_same s)))
  obtain ⟨x', e⟩ := p
  obtain ⟨h1, h2⟩ := List.getElem?_zip_eq_some.mp hp
  have ex : x' = x := Option.some.inj (h1.symm.trans hxi)
  subst ex
  obtain ⟨d, g1, g2⟩ := hx.get hxi
  rw [List.getElem?_map, h2] at g1
  cases g1
  exact hs i _ e hxi h2 g2
theorem lc_lS {dd : α → PyData} (q : α → Bool) (nD : H1 D = none) (hn : xs.length ≤ 900) (ha : H1 a = some (.lst xs)) (hx : TuAll H1 xs (ls.map dd)) (hs : ∀ (i : Nat) (x : V) (e : α), xs[i]? = some x → ls[i]? = some e → Tu H1 x (dd e) → FmT (q e) x g tt te vs σ H1 x)
    (hd : ∀ H ys, Same H1 H → H D = some (.lst ys) → TuAll H ys ((ls.filter q).map dd) → Qd H) :
    ∃ W : Nat → Nat → Hp → Prop, (∃ m, W 0 m (upd H1 D (.lst []))) ∧ ∀ i m H, W i m H →
      ((Itl K a).stop i H ∧ Qd H) ∨ ((Itl K a).go i H ∧ ∃ Nx : Hp → Prop, (∀ H', Nx H' → ∃ m', m' < m ∧ W (i + 1) m' H') ∧ ∀ x H', (Itl K a).yld i H x H' → g x (wipe σ vs) H' fun σ2 H2 => wipe σ2 vs = wipe σ vs ∧ tt σ2 H2 fun b H3 =>
        if b = true then te σ2 H3 fun y H4 => ∃ acc, H4 D = some (.lst acc) ∧ acc.length < sizeLine ∧ Nx (upd H4 D (.lst (acc ++ [y]))) else Nx H3) := by
  have hl : xs.length = ls.length := by rw [hx.length, List.length_map]
  refine lc_lI (ls := xs.zip ls) (fun p => q p.2) (fun p => p.1) nD hn ha (by rw [List.length_zip]; omega) (fun i x p hxi hp => ?_) (fun H s h => hd H _ s h ((tus_zip hx q).keep (.of_same s)))
  obtain ⟨x', e⟩ := p
  obtain ⟨h1, h2⟩ := List.getElem?_zip_eq_some.mp hp
  have ex : x' = x := Option.some.inj (h1.symm.trans hxi)
  subst ex
  obtain ⟨d, g1, g2⟩ := hx.get hxi
  rw [List.getElem?_map, h2] at g1
  cases g1
  exact hs i _ e hxi h2 g2
/-- [x for x, y in zip(xs, ys) if ..] of two lists -/
theorem lc_zS {b : Addr} {ys : List V} {dd : α → PyData} (q : α → Bool) (nD : H1 D = none) (hn : xs.length ≤ 900) (ha : H1 a = some (.lst xs)) (hb : H1 b = some (.lst ys)) (hx : TuAll H1 xs (ls.map dd)) (hy : ys.length = ls.length)
    (hs : ∀ (i : Nat) (x y : V) (e : α), xs[i]? = some x → ys[i]? = some y → ls[i]? = some e → Tu H1 x (dd e) → ∀ (H : Hp) (t : Addr), Same H1 H → H t = some (.tup [x, y]) → ∀ (R : V → Hp → Prop) (R0 : Hp → Prop), (∀ H', Same H H' → (q e = true → R x H') ∧ (q e = false → R0 H')) →
      g (.ref t) (wipe σ vs) H fun σ2 H2 => wipe σ2 vs = wipe σ vs ∧ tt σ2 H2 fun b H3 => if b = true then te σ2 H3 R else R0 H3)
    (hd : ∀ H zs, Same H1 H → H D = some (.lst zs) → TuAll H zs ((ls.filter q).map dd) → Qd H) :
    ∃ W : Nat → Nat → Hp → Prop, (∃ m, W 0 m (upd H1 D (.lst []))) ∧ ∀ i m H, W i m H →
      ((Itz K a b).stop i H ∧ Qd H) ∨ ((Itz K a b).go i H ∧ ∃ Nx : Hp → Prop, (∀ H', Nx H' → ∃ m', m' < m ∧ W (i + 1) m' H') ∧ ∀ x H', (Itz K a b).yld i H x H' → g x (wipe σ vs) H' fun σ2 H2 => wipe σ2 vs = wipe σ vs ∧ tt σ2 H2 fun b H3 =>
        if b = true then te σ2 H3 fun y H4 => ∃ acc, H4 D = some (.lst acc) ∧ acc.length < sizeLine ∧ Nx (upd H4 D (.lst (acc ++ [y]))) else Nx H3) := by
  have hl : xs.length = ls.length := by rw [hx.length, List.length_map]
  have zl : (xs.zip ls).length = xs.length := by rw [List.length_zip]; omega
  refine lc_it (walk_zip (K := K) (xs := xs) (ys := ys) (n := xs.length) (by omega)) (fun i H => Same H1 H ∧ H D = some (.lst (((List.range i).filter (atB (xs.zip ls) fun p => q p.2)).map (atV (xs.zip ls) fun p => p.1)))) ⟨same_new nD, upd_same⟩ (fun i H _ p => ⟨SqL.of (p.1 _ _ ha), SqL.of (p.1 _ _ hb)⟩) (fun i v H H' hi p yy => ?_) (fun H p => ?_)
  · obtain ⟨t, v1, v2, rfl, nT, rfl, f1, f2⟩ := yy
    have s' := same_new (o := HO.tup [v1, v2]) nT
    have he : ls[i]? = some ls[i] := List.getElem?_eq_getElem (by omega)
    have hz : (xs.zip ls)[i]? = some (v1, ls[i]) := zip_get f1 he
    obtain ⟨dx, g1, g2⟩ := hx.get f1
    rw [List.getElem?_map, he] at g1
    cases g1
    refine hs i v1 v2 _ f1 f2 he g2 _ t (p.1.trans s') upd_same _ _ (fun H2 s2 => ⟨fun c => ⟨_, s2 _ _ (s' _ _ p.2), ?_, fun bb o z => ?_, ?_⟩, fun c => ⟨p.1.trans (s'.trans s2), ?_⟩⟩)
    · have := rgm_len (atB (xs.zip ls) fun p => q p.2) (atV (xs.zip ls) fun p => p.1) i
      exact small1000 (by omega)
    · rw [upd_ne (ne_of_none z nD)]; exact s2 _ _ (s' _ _ (p.1 _ _ z))
    · rw [upd_same, rgm_succ, atB_at hz, atV_at hz, if_pos c]
    · rw [rgm_succ, atB_at hz, atV_at hz, if_neg (by rw [c]; exact Bool.false_ne_true), List.append_nil]
      exact s2 _ _ (s' _ _ p.2)
  · obtain ⟨s, h⟩ := p
    rw [← zl, rg_at] at h
    exact hd H _ s h ((tus_zip hx q).keep (.of_same s))
end
/-! ### the first that is so -/
theorem find_at {α : Type} {l : List α} {q : α → Bool} {i : Nat} {e : α} (h : ∀ z ∈ l.take i, q z = false) (he : l[i]? = some e) (qe : q e = true) : l.find? q = some e := by
  have hi : i < l.length := (List.getElem?_eq_some_iff.mp he).1
  have e1 : l = l.take i ++ e :: l.drop (i + 1) := by
    have : l.drop i = e :: l.drop (i + 1) := by
      obtain ⟨z1, z2⟩ := List.getElem?_eq_some_iff.mp he
      rw [List.drop_eq_getElem_cons z1, z2]
    rw [← this, List.take_append_drop]
  rw [e1, List.find?_append]
  have n : (l.take i).find? q = none := List.find?_eq_none.mpr fun z hz => by rw [h z hz]; exact Bool.false_ne_true
  rw [n, List.find?_cons_of_pos qe]; rfl
theorem find_no {α : Type} {l : List α} {q : α → Bool} (h : ∀ z ∈ l, q z = false) : l.find? q = none := List.find?_eq_none.mpr fun z hz => by rw [h z hz]; exact Bool.false_ne_true
theorem take_no {α : Type} {l : List α} {q : α → Bool} {i : Nat} {e : α} (h : ∀ z ∈ l.take i, q z = false) (he : l[i]? = some e) (qe : q e = false) : ∀ z ∈ l.take (i + 1), q z = false := by
  intro z hz
  rw [List.take_add_one, he] at hz
  rcases List.mem_append.mp hz with y | y
  · exact h z y
  · rw [show z = e from List.mem_singleton.mp y]; exact qe
theorem find_hd {α : Type} (l : List α) (q : α → Bool) : (l.filter q).head? = l.find? q := by
  induction l with
  | nil => rfl
  | cons a r ih =>
    rw [List.filter_cons, List.find?_cons]
    cases q a with
    | true => rfl
    | false => simpa using ih
/-! ### how many lots there are -/
theorem IsLots.nodup {es : List (List Nat)} {cl ho : List Nat} {sv : Bool} {ls : List (List Nat)} (h : IsLots es cl ho sv ls) : ls.Nodup := by
  obtain ⟨A, B, rfl, P⟩ := h
  refine List.nodup_append.mpr ⟨nodup_ord (fun a => lxN_irrefl a) P.oa, ?_, fun a ha b hb e => ?_⟩
  · refine List.pairwise_map.mpr (List.Pairwise.imp_of_mem (fun {p q} hp hq z e => ?_) P.ob)
    have l1 := (P.mb p).mp hp
    have l2 := (P.mb q).mp hq
    obtain ⟨_, ⟨k1, a1, a2, a3, a4, a5⟩, m1⟩ := l1
    obtain ⟨_, ⟨k2, b1, b2, b3, b4, b5⟩, m2⟩ := l2
    have e1 : p.1 = q.1 := by
      have := m1 k2 b1 b2 b3 (b4.trans e.symm)
      have := m2 k1 a1 a2 a3 (a4.trans e)
      omega
    have : p = q := Prod.ext e1 e
    rw [this, lpN_irrefl] at z
    cases z
  · obtain ⟨p, hp, e2⟩ := List.mem_map.mp hb
    have l1 := ((P.mb p).mp hp).1
    have k1 := (P.ma a).mp ha
    rw [e2, ← e] at l1
    rw [l1] at k1
    cases k1
theorem IsLots.len63 {es : List (List Nat)} {cl ho : List Nat} {sv : Bool} {ls : List (List Nat)} (n6 : es.length ≤ 6) (h : IsLots es cl ho sv ls) : ls.length ≤ 63 := by
  have hs : ∀ l ∈ ls, l ∈ ((List.range 63).map fun i => ksOf es.length (i + 1)) := fun l hl => by
    obtain ⟨so, ne⟩ := h.som hl
    obtain ⟨c, hc, rfl⟩ := ksOf_all so
    have : 2 ^ es.length ≤ 2 ^ 6 := Nat.pow_le_pow_right (by decide) n6
    have c0 : c ≠ 0 := fun z => ne (by rw [z, ksOf_zero])
    refine List.mem_map.mpr ⟨c - 1, List.mem_range.mpr (by omega), ?_⟩
    show ksOf es.length (c - 1 + 1) = _
    rw [show c - 1 + 1 = c by omega]
  have z := nodup_sub h.nodup hs
  rwa [List.length_map, List.length_range] at z
/-! ### the answers that are told -/
def ansL (c : Ch) (ls : List (List Nat)) : List Nat := (List.range 10).filter (fun a => ls.any (fun l => decide (c.answer l = a)))
theorem ansL_mem {c : Ch} {ls : List (List Nat)} {a n : Nat} (h : c.ok n) : a ∈ ansL c ls ↔ ∃ l ∈ ls, c.answer l = a := by
  unfold ansL
  rw [List.mem_filter, List.mem_range, List.any_eq_true]
  constructor
  · rintro ⟨_, l, h1, h2⟩; exact ⟨l, h1, of_decide_eq_true h2⟩
  · rintro ⟨l, h1, h2⟩
    have := Ch.answer_le (lot := l) h
    exact ⟨by omega, l, h1, decide_eq_true h2⟩
end Kf

set_option Elab.async false
set_option linter.all false
set_option maxRecDepth 100000
set_option maxHeartbeats 4000000
/-! Walks over a list or a tuple; trees without idle tests and without same sides. -/
namespace Kf
open PySem PySem.Spec PyProof.Rows L2 Kg Kd
def iSq (K : PySem.W.Frag) (tl : TE) : TI := fun σ H R => tl σ H fun x H1 => ∃ a xs, x = .ref a ∧ ((SqL K H1 a xs ∧ R (Itl K a) H1) ∨ (SqT K H1 a xs ∧ R (Itt K a) H1))
theorem pi_sq {X : Cx} {tg l : Expr} {tl : TE} (hl : PE X l tl) : PI X tg l (iSq X.K tl) := by
  refine ⟨fun pins s σ H R I h => ?_⟩
  refine thn (hl.run pins s σ H _ I h) fun v s1 ⟨x, H1, I1, r1, q1⟩ => ?_
  obtain ⟨a, xs, e, q⟩ := q1
  subst e
  cases r1
  rcases q with ⟨hq, q⟩ | ⟨hq, q⟩
  · obtain ⟨its, rv, p, hz⟩ := I1.list hq
    refine wpAny_pyIter_list p.isList ?_
    refine ⟨s1.heap.objs.size, [s1.heap.objs.size], _, _, H1, rfl, I1.kept (t' := s1.toks) fun b o e => Heap.get?_push_of_some _ e, turn_list a _, ⟨_, Heap.get?_push_size _ rfl, rfl, rfl⟩, fun b hb => ?_, q⟩
    have e : b = s1.heap.objs.size := by simpa using hb
    subst e
    exact I1.fpOk (Nat.le_refl _) (I1.hok.fresh (Nat.le_refl _))
  · obtain ⟨its, rv, p, hz⟩ := I1.tuple hq
    refine wpAny_pyIter_tuple (show s1.heap.IsTuple a its.toArray from p) ?_
    refine ⟨s1.heap.objs.size, [s1.heap.objs.size], _, _, H1, rfl, I1.kept (t' := s1.toks) fun b o e => Heap.get?_push_of_some _ e, turn_tuple a _, ⟨_, Heap.get?_push_size _ rfl, rfl, rfl⟩, fun b hb => ?_, q⟩
    have e : b = s1.heap.objs.size := by simpa using hb
    subst e
    exact I1.fpOk (Nat.le_refl _) (I1.hok.fresh (Nat.le_refl _))
/-- lots in a list or a tuple -/
def SqA (H : Hp) (a : Addr) (xs : List V) : Prop := H a = some (.lst xs) ∨ H a = some (.tup xs)
theorem SqA.same {H H' : Hp} {a : Addr} {xs : List V} (h : SqA H a xs) (s : Same H H') : SqA H' a xs := h.imp (s _ _) (s _ _)
def Tr.beq : Tr → Tr → Bool
  | .ans a, .ans b => a == b
  | .tst k y n, .tst k' y' n' => k == k' && (y.beq y' && n.beq n')
  | _, _ => false
theorem Tr.beq_iff : ∀ {t u : Tr}, t.beq u = true ↔ t = u
  | .ans a, .ans b => by
    show (a == b) = true ↔ _
    rw [beq_iff_eq]
    exact ⟨fun h => by rw [h], fun h => Tr.ans.inj h⟩
  | .ans _, .tst _ _ _ => ⟨fun h => (nomatch h), fun h => (nomatch h)⟩
  | .tst _ _ _, .ans _ => ⟨fun h => (nomatch h), fun h => (nomatch h)⟩
  | .tst k y n, .tst k' y' n' => by
    show (k == k' && (y.beq y' && n.beq n')) = true ↔ _
    rw [Bool.and_eq_true, Bool.and_eq_true, beq_iff_eq, Tr.beq_iff, Tr.beq_iff]
    constructor
    · rintro ⟨rfl, rfl, rfl⟩; rfl
    · intro h
      have := Tr.tst.inj h
      exact this
instance : DecidableEq Tr := fun _ _ => decidable_of_iff _ Tr.beq_iff
def wk (k : Nat) (ls : List (List Nat)) : List (List Nat) := ls.filter fun l => decide (k ∈ l)
def wo (k : Nat) (ls : List (List Nat)) : List (List Nat) := ls.filter fun l => !decide (k ∈ l)
theorem wk_len (k : Nat) (ls : List (List Nat)) : (wk k ls).length ≤ ls.length := List.length_filter_le ..
theorem wo_len (k : Nat) (ls : List (List Nat)) : (wo k ls).length ≤ ls.length := List.length_filter_le ..
theorem wk_nil {k : Nat} {ls : List (List Nat)} (h : wk k ls = []) : wo k ls = ls := List.filter_eq_self.mpr fun l hl => by
  have := List.filter_eq_nil_iff.mp h l hl
  simpa using this
theorem wo_nil {k : Nat} {ls : List (List Nat)} (h : wo k ls = []) : wk k ls = ls := List.filter_eq_self.mpr fun l hl => by
  have := List.filter_eq_nil_iff.mp h l hl
  simpa using this
theorem mem_wk {k : Nat} {ls : List (List Nat)} {l : List Nat} : l ∈ wk k ls ↔ l ∈ ls ∧ k ∈ l := by
  unfold wk; rw [List.mem_filter, decide_eq_true_iff]
theorem mem_wo {k : Nat} {ls : List (List Nat)} {l : List Nat} : l ∈ wo k ls ↔ l ∈ ls ∧ k ∉ l := by
  unfold wo; rw [List.mem_filter]; simp
namespace Tr
/-- a tree without the tests that all these lots answer the same -/
def cut : Tr → List (List Nat) → Tr
  | .ans a, _ => .ans a
  | .tst k y n, ls => if wo k ls = [] then y.cut (wk k ls) else if wk k ls = [] then n.cut (wo k ls) else .tst k (y.cut (wk k ls)) (n.cut (wo k ls))
/-- a tree without the tests whose sides are the same -/
def fold : Tr → Tr
  | .ans a => .ans a
  | .tst k y n => if y.fold = n.fold then y.fold else .tst k y.fold n.fold
theorem cut_dep : ∀ (t : Tr) (ls : List (List Nat)), (t.cut ls).dep ≤ t.dep
  | .ans _, _ => Nat.le_refl _
  | .tst k y n, ls => by
    have h1 := cut_dep y (wk k ls)
    have h2 := cut_dep n (wo k ls)
    have e : (Tr.tst k y n).dep = 1 + max y.dep n.dep := rfl
    rw [e, cut]
    split
    · omega
    · split
      · omega
      · show 1 + max _ _ ≤ _
        omega
theorem fold_dep : ∀ (t : Tr), t.fold.dep ≤ t.dep
  | .ans _ => Nat.le_refl _
  | .tst k y n => by
    have h1 := fold_dep y
    have h2 := fold_dep n
    have e : (Tr.tst k y n).dep = 1 + max y.dep n.dep := rfl
    rw [e, fold]
    split
    · omega
    · show 1 + max _ _ ≤ _
      omega
theorem cut_size : ∀ (t : Tr) (ls : List (List Nat)), (t.cut ls).size ≤ t.size
  | .ans _, _ => Nat.le_refl _
  | .tst k y n, ls => by
    have h1 := cut_size y (wk k ls)
    have h2 := cut_size n (wo k ls)
    have e : (Tr.tst k y n).size = 1 + y.size + n.size := rfl
    rw [e, cut]
    split
    · omega
    · split
      · omega
      · show 1 + _ + _ ≤ _
        omega
theorem fold_size : ∀ (t : Tr), t.fold.size ≤ t.size
  | .ans _ => Nat.le_refl _
  | .tst k y n => by
    have h1 := fold_size y
    have h2 := fold_size n
    have e : (Tr.tst k y n).size = 1 + y.size + n.size := rfl
    rw [e, fold]
    split
    · omega
    · show 1 + _ + _ ≤ _
      omega
theorem cut_ok {m : Nat} : ∀ {t : Tr} {ls : List (List Nat)}, t.ok m → (t.cut ls).ok m
  | .ans _, _, h => h
  | .tst k y n, ls, h => by
    have h1 := cut_ok (ls := wk k ls) h.2.1
    have h2 := cut_ok (ls := wo k ls) h.2.2
    rw [cut]
    split
    · exact h1
    · split
      · exact h2
      · exact ⟨h.1, h1, h2⟩
theorem fold_ok {m : Nat} : ∀ {t : Tr}, t.ok m → t.fold.ok m
  | .ans _, h => h
  | .tst k y n, h => by
    have h1 := fold_ok h.2.1
    have h2 := fold_ok h.2.2
    rw [fold]
    split
    · exact h1
    · exact ⟨h.1, h1, h2⟩
theorem cut_ans : ∀ (t : Tr) {ls : List (List Nat)} {l : List Nat}, l ∈ ls → (t.cut ls).answer l = t.answer l
  | .ans _, _, _, _ => rfl
  | .tst k y n, ls, l, h => by
    have e : (Tr.tst k y n).answer l = if k ∈ l then y.answer l else n.answer l := rfl
    rw [e, cut]
    by_cases c : k ∈ l
    · have m := mem_wk.mpr ⟨h, c⟩
      rw [if_pos c]
      split
      · exact cut_ans y m
      · split
        · next z => rw [z] at m; cases m
        · show (if k ∈ l then _ else _) = _
          rw [if_pos c]; exact cut_ans y m
    · have m := mem_wo.mpr ⟨h, c⟩
      rw [if_neg c]
      split
      · next z => rw [z] at m; cases m
      · split
        · exact cut_ans n m
        · show (if k ∈ l then _ else _) = _
          rw [if_neg c]; exact cut_ans n m
theorem fold_ans (l : List Nat) : ∀ t : Tr, t.fold.answer l = t.answer l
  | .ans _ => rfl
  | .tst k y n => by
    have e : (Tr.tst k y n).answer l = if k ∈ l then y.answer l else n.answer l := rfl
    rw [e, fold]
    split
    · next z =>
      rw [fold_ans l y, ← fold_ans l n, ← z, fold_ans l y]
      split <;> rfl
    · show (if k ∈ l then _ else _) = _
      rw [fold_ans l y, fold_ans l n]
/-- each test has lots on both sides -/
def good : Tr → List (List Nat) → Prop
  | .ans _, _ => True
  | .tst k y n, ls => wk k ls ≠ [] ∧ wo k ls ≠ [] ∧ y.good (wk k ls) ∧ n.good (wo k ls)
/-- no test has the same sides -/
def norm : Tr → Prop
  | .ans _ => True
  | .tst _ y n => y ≠ n ∧ y.norm ∧ n.norm
theorem good_cut : ∀ (t : Tr) (ls : List (List Nat)), (t.cut ls).good ls
  | .ans _, _ => trivial
  | .tst k y n, ls => by
    rw [cut]
    split
    · next z => rw [wo_nil z]; exact good_cut y ls
    · split
      · next z => rw [wk_nil z]; exact good_cut n ls
      · next z1 z2 => exact ⟨z2, z1, good_cut y _, good_cut n _⟩
theorem good_mono : ∀ {t : Tr} {ls ms : List (List Nat)}, t.good ls → (∀ l ∈ ls, l ∈ ms) → t.good ms
  | .ans _, _, _, _, _ => trivial
  | .tst k y n, ls, ms, h, s => by
    have a1 : ∀ l ∈ wk k ls, l ∈ wk k ms := fun l hl => mem_wk.mpr ⟨s l (mem_wk.mp hl).1, (mem_wk.mp hl).2⟩
    have a2 : ∀ l ∈ wo k ls, l ∈ wo k ms := fun l hl => mem_wo.mpr ⟨s l (mem_wo.mp hl).1, (mem_wo.mp hl).2⟩
    refine ⟨fun z => ?_, fun z => ?_, good_mono h.2.2.1 a1, good_mono h.2.2.2 a2⟩
    · obtain ⟨l, hl⟩ := List.exists_mem_of_ne_nil _ h.1
      have := a1 l hl
      rw [z] at this; cases this
    · obtain ⟨l, hl⟩ := List.exists_mem_of_ne_nil _ h.2.1
      have := a2 l hl
      rw [z] at this; cases this
theorem good_fold : ∀ {t : Tr} {ls : List (List Nat)}, t.good ls → t.fold.good ls
  | .ans _, _, _ => trivial
  | .tst k y n, ls, h => by
    rw [fold]
    split
    · exact good_mono (good_fold h.2.2.1) fun l hl => (mem_wk.mp hl).1
    · exact ⟨h.1, h.2.1, good_fold h.2.2.1, good_fold h.2.2.2⟩
theorem cut_good : ∀ {t : Tr} {ls : List (List Nat)}, t.good ls → t.cut ls = t
  | .ans _, _, _ => rfl
  | .tst k y n, ls, h => by
    rw [cut, if_neg h.2.1, if_neg h.1, cut_good h.2.2.1, cut_good h.2.2.2]
theorem norm_fold : ∀ t : Tr, t.fold.norm
  | .ans _ => trivial
  | .tst k y n => by
    rw [fold]
    split
    · exact norm_fold y
    · next z => exact ⟨z, norm_fold y, norm_fold n⟩
theorem fold_norm : ∀ {t : Tr}, t.norm → t.fold = t
  | .ans _, _ => rfl
  | .tst k y n, h => by
    rw [fold, fold_norm h.2.1, fold_norm h.2.2, if_neg h.1]
end Tr
def trimT (ls : List (List Nat)) (t : Tr) : Tr := if ls = [] then t.fold else (t.cut ls).fold
/-- trimmed once more it stays -/
theorem trim_again {ls : List (List Nat)} (h : ls ≠ []) (t : Tr) : trimT ls (trimT ls t) = trimT ls t := by
  unfold trimT
  rw [if_neg h, if_neg h, Tr.cut_good (Tr.good_fold (Tr.good_cut t ls)), Tr.fold_norm (Tr.norm_fold _)]
theorem trim_ans {ls : List (List Nat)} {l : List Nat} (h : l ∈ ls) (t : Tr) : (trimT ls t).answer l = t.answer l := by
  unfold trimT
  rw [if_neg (fun z => by rw [z] at h; cases h), Tr.fold_ans, Tr.cut_ans t h]
theorem trim_dep (ls : List (List Nat)) (t : Tr) : (trimT ls t).dep ≤ t.dep := by
  unfold trimT
  split
  · exact Tr.fold_dep t
  · exact Nat.le_trans (Tr.fold_dep _) (Tr.cut_dep t ls)
theorem trim_size (ls : List (List Nat)) (t : Tr) : (trimT ls t).size ≤ t.size := by
  unfold trimT
  split
  · exact Tr.fold_size t
  · exact Nat.le_trans (Tr.fold_size _) (Tr.cut_size t ls)
theorem trim_ok {ls : List (List Nat)} {m : Nat} {t : Tr} (h : t.ok m) : (trimT ls t).ok m := by
  unfold trimT
  split
  · exact Tr.fold_ok h
  · exact Tr.fold_ok (Tr.cut_ok h)
theorem eqv_tr : ∀ t u : Tr, PyData.eqv t.d u.d = decide (t = u)
  | .ans a, .ans b => by
    show PyData.eqv (.int _) (.int _) = _
    rw [PyData.eqv]
    by_cases c : a = b
    · subst c; simp
    · have : ¬ ((a : Nat) : Int) = (b : Nat) := by omega
      simp [c, this]
  | .ans _, .tst _ _ _ => by
    show PyData.eqv (.int _) (.tuple _) = _
    simp [PyData.eqv]
  | .tst _ _ _, .ans _ => by
    show PyData.eqv (.tuple _) (.int _) = _
    simp [PyData.eqv]
  | .tst k y n, .tst k' y' n' => by
    have h1 := eqv_tr y y'
    have h2 := eqv_tr n n'
    show PyData.eqv (.tuple [.int ((k : Nat) : Int), y.d, n.d]) (.tuple [.int ((k' : Nat) : Int), y'.d, n'.d]) = _
    simp only [PyData.eqv, PyData.eqvAll, h1, h2]
    by_cases c : k = k'
    · subst c; by_cases c1 : y = y' <;> by_cases c2 : n = n' <;> simp [c1, c2]
    · have : ¬ ((k : Nat) : Int) = (k' : Nat) := by omega
      simp [c, this]
theorem sh_tr {t : Tr} (h : t.dep ≤ 60) : SeqAt.shaped t.d = true := by
  unfold SeqAt.shaped
  rw [Bool.and_eq_true]
  exact ⟨Tr.d_lay t, decide_eq_true (by rw [Tr.d_dep]; omega)⟩
end Kf

set_option Elab.async false
set_option linter.all false
set_option maxRecDepth 100000
set_option maxHeartbeats 4000000
/-! Texts of trees. -/
namespace Kf
open PySem PySem.Spec PyProof.Rows L2 Kg Kd TL
def sS (l : List Nat) : Str := ⟨l.toArray⟩
theorem tl_sS (l : List Nat) : tl (sS l) = l := rfl
theorem sS_tl (s : Str) : sS (tl s) = s := mk_tl s
theorem eq_sS {s : Str} {l : List Nat} (h : tl s = l) : s = sS l := ext_tl h
theorem sS_len (l : List Nat) : (sS l).length = l.length := by rw [len_tl, tl_sS]
theorem sS_app (a b : List Nat) : sS a ++ sS b = sS (a ++ b) := eq_sS (by rw [tl_append, tl_sS, tl_sS])
theorem app_len (x y : Str) : (x ++ y).length = x.length + y.length := by rw [len_tl, len_tl, len_tl, tl_append, List.length_append]
theorem num_sS {n : Nat} (h : n < 10) : (Str.ofString (toString ((n : Nat) : Int))) = sS [48 + n] := eq_sS (by rw [tl_num, numL_lt h])
theorem int_sign : ∀ d : Nat, d ≤ 9 → PySem.intText? (sS [48 + d]) = some ((d : Nat) : Int)
  | 0, _ => by decide +kernel
  | 1, _ => by decide +kernel
  | 2, _ => by decide +kernel
  | 3, _ => by decide +kernel
  | 4, _ => by decide +kernel
  | 5, _ => by decide +kernel
  | 6, _ => by decide +kernel
  | 7, _ => by decide +kernel
  | 8, _ => by decide +kernel
  | 9, _ => by decide +kernel
  | n + 10, h => absurd h (by omega)
theorem sign_at {L pre rest : List Nat} {c p : Nat} (h : L = pre ++ c :: rest) (hp : pre.length = p) : L[p]? = some c := by
  subst hp; rw [h]; simp
theorem sS_ne {a b : List Nat} (h : a ≠ b) : ¬ (V.str (sS a) = V.str (sS b)) := fun z => h (by
  have := congrArg tl (V.str.inj z)
  exact this)
/-- the text of a tree -/
def Tr.tx : Tr → List Nat
  | .ans a => [48 + a]
  | .tst k y n => 40 :: (48 + k) :: 63 :: 32 :: (y.tx ++ 32 :: (n.tx ++ [41]))
theorem Tr.tx_len : ∀ t : Tr, t.tx.length = 7 * t.size + 1
  | .ans _ => rfl
  | .tst k y n => by
    have h1 := tx_len y
    have h2 := tx_len n
    show (40 :: (48 + k) :: 63 :: 32 :: (y.tx ++ 32 :: (n.tx ++ [41]))).length = 7 * (1 + y.size + n.size) + 1
    simp only [List.length_cons, List.length_append, List.length_nil, h1, h2]
    omega
theorem big1000 : 1000 ≤ sizeLine := by decide
theorem log_sm : ∀ d : Nat, d ≤ 9 → (((d : Nat) : Int)).natAbs.log2 < 1920
  | 0, _ => by decide +kernel
  | 1, _ => by decide +kernel
  | 2, _ => by decide +kernel
  | 3, _ => by decide +kernel
  | 4, _ => by decide +kernel
  | 5, _ => by decide +kernel
  | 6, _ => by decide +kernel
  | 7, _ => by decide +kernel
  | 8, _ => by decide +kernel
  | 9, _ => by decide +kernel
  | n + 10, h => absurd h (by omega)
end Kf

set_option Elab.async false
set_option linter.all false
set_option maxRecDepth 100000
set_option maxHeartbeats 4000000
/-! Texts cut at a sign; words, lines, remarks; numerals. -/
namespace Kf
open PySem PySem.Spec PyProof.Rows L2 Kg Kd TL
def cutA (c : Nat) : List Nat → List Nat → List (List Nat)
  | acc, [] => [acc]
  | acc, x :: r => if x = c then acc :: cutA c [] r else cutA c (acc ++ [x]) r
theorem pre_one (c x : Nat) (r : List Nat) : pre [c] (x :: r) = decide (x = c) := by
  unfold pre
  show ([x] == [c]) = _
  by_cases h : x = c
  · subst h; simp
  · simp [h]
theorem spl_one (c : Nat) : ∀ l acc : List Nat, spl [c] 0 acc l = cutA c acc l
  | [], acc => rfl
  | x :: r, acc => by
    show (if pre [c] (x :: r) = true then acc :: spl [c] 0 [] r else spl [c] 0 (acc ++ [x]) r) = if x = c then acc :: cutA c [] r else cutA c (acc ++ [x]) r
    rw [pre_one, spl_one c r, spl_one c r]
    by_cases h : x = c
    · simp [h]
    · simp [h]
theorem split_sS (l : List Nat) {c : Nat} (hc : c < 256) : Txt.split (sS l) (sS [c]) = (cutA c [] l).map sS := by
  rw [← spl_one]
  exact SX.split_S (a := l) (b := [c]) (by simp) (by simp [hc])
theorem cutA_at {c : Nat} : ∀ a acc b : List Nat, c ∉ a → cutA c acc (a ++ c :: b) = (acc ++ a) :: cutA c [] b
  | [], acc, b, _ => by
    show (if c = c then acc :: cutA c [] b else _) = _
    rw [if_pos rfl, List.append_nil]
  | x :: a, acc, b, h => by
    have h1 : x ≠ c := fun e => h (by rw [e]; exact List.mem_cons_self ..)
    show (if x = c then _ else cutA c (acc ++ [x]) (a ++ c :: b)) = _
    rw [if_neg h1, cutA_at a _ b fun z => h (List.mem_cons_of_mem _ z)]
    simp
theorem cutA_end {c : Nat} : ∀ a acc : List Nat, c ∉ a → cutA c acc a = [acc ++ a]
  | [], acc, _ => by
    show [acc] = _
    rw [List.append_nil]
  | x :: a, acc, h => by
    have h1 : x ≠ c := fun e => h (by rw [e]; exact List.mem_cons_self ..)
    show (if x = c then _ else cutA c (acc ++ [x]) a) = _
    rw [if_neg h1, cutA_end a _ fun z => h (List.mem_cons_of_mem _ z)]
    simp
theorem cutA_len (c : Nat) : ∀ l acc : List Nat, (cutA c acc l).length ≤ l.length + 1
  | [], acc => Nat.le_refl _
  | x :: r, acc => by
    show (if x = c then acc :: cutA c [] r else cutA c (acc ++ [x]) r).length ≤ _
    have h1 := cutA_len c r []
    have h2 := cutA_len c r (acc ++ [x])
    split
    · simp; omega
    · simp; omega
/-- each part is no longer than the text -/
theorem cutA_part (c : Nat) : ∀ (l acc w : List Nat), w ∈ cutA c acc l → w.length ≤ acc.length + l.length
  | [], acc, w, h => by
    have : w = acc := List.mem_singleton.mp h
    subst this; simp
  | x :: r, acc, w, h => by
    have h' : w ∈ (if x = c then acc :: cutA c [] r else cutA c (acc ++ [x]) r) := h
    split at h'
    · rcases List.mem_cons.mp h' with e | e
      · subst e; simp
      · have := cutA_part c r [] w e
        simp at this ⊢; omega
    · have := cutA_part c r _ w h'
      simp at this ⊢; omega
/-! ### words -/
def wordsL (l : List Nat) : List (List Nat) := (cutA 32 [] l).filter fun w => decide (0 < w.length)
theorem wordsL_sp (l : List Nat) : wordsL (32 :: l) = wordsL l := by
  unfold wordsL
  have e : cutA 32 [] (32 :: l) = [] :: cutA 32 [] l := cutA_at [] [] l (by simp)
  rw [e]; rfl
theorem wordsL_word {w : List Nat} (l : List Nat) (h0 : w ≠ []) (h : 32 ∉ w) : wordsL (w ++ 32 :: l) = w :: wordsL l := by
  unfold wordsL
  rw [cutA_at w [] l h, List.nil_append, List.filter_cons_of_pos (by simp; exact List.length_pos_iff.mpr h0)]
theorem wordsL_last {w : List Nat} (h0 : w ≠ []) (h : 32 ∉ w) : wordsL w = [w] := by
  unfold wordsL
  rw [cutA_end w [] h, List.nil_append, List.filter_cons_of_pos (by simp; exact List.length_pos_iff.mpr h0)]; rfl
theorem wordsL_nil : wordsL [] = [] := rfl
theorem wordsL_len (l : List Nat) : (wordsL l).length ≤ l.length + 1 := Nat.le_trans (List.length_filter_le _ _) (cutA_len 32 l [])
theorem wordsL_mem {l w : List Nat} (h : w ∈ wordsL l) : w ≠ [] ∧ w.length ≤ l.length := by
  obtain ⟨h1, h2⟩ := List.mem_filter.mp h
  have := cutA_part 32 l [] w h1
  refine ⟨List.length_pos_iff.mp (by simpa using h2), by simpa using this⟩
/-- some blanks ahead -/
theorem wordsL_sps (n : Nat) (l : List Nat) : wordsL (List.replicate n 32 ++ l) = wordsL l := by
  induction n with
  | zero => rfl
  | succ n ih => rw [List.replicate_succ, List.cons_append, wordsL_sp, ih]
/-! ### remarks -/
def remL (l : List Nat) : List Nat := l.takeWhile fun x => decide (x ≠ 35)
theorem par_rem : ∀ l acc : List Nat, (35 ∈ l → ∃ q, par [35] acc l = some (acc ++ remL l, q)) ∧ (35 ∉ l → par [35] acc l = none ∧ remL l = l)
  | [], acc => ⟨fun h => (nomatch h), fun _ => ⟨rfl, rfl⟩⟩
  | x :: r, acc => by
    have hp := pre_one 35 x r
    have step : par [35] acc (x :: r) = if x = 35 then some (acc, (x :: r).drop 1) else par [35] (acc ++ [x]) r := by
      show (if pre [35] (x :: r) = true then some (acc, (x :: r).drop 1) else par [35] (acc ++ [x]) r) = _
      rw [hp]
      by_cases h : x = 35 <;> simp [h]
    rw [step]
    by_cases h : x = 35
    · subst h
      rw [if_pos rfl]
      refine ⟨fun _ => ⟨r, ?_⟩, fun z => absurd (List.mem_cons_self ..) z⟩
      simp [remL]
    · rw [if_neg h]
      have er : remL (x :: r) = x :: remL r := by unfold remL; rw [List.takeWhile_cons_of_pos (by simpa using h)]
      obtain ⟨h1, h2⟩ := par_rem r (acc ++ [x])
      refine ⟨fun z => ?_, fun z => ?_⟩
      · rcases List.mem_cons.mp z with e | e
        · exact absurd e.symm h
        · obtain ⟨q, hq⟩ := h1 e
          exact ⟨q, by rw [hq, er]; simp⟩
      · obtain ⟨a1, a2⟩ := h2 fun e => z (List.mem_cons_of_mem _ e)
        exact ⟨a1, by rw [er, a2]⟩
theorem part_rem (l : List Nat) : (Txt.partition (sS l) (sS [35])).1 = sS (remL l) := by
  by_cases h : 35 ∈ l
  · obtain ⟨q, hq⟩ := (par_rem l []).1 h
    have e : Txt.partition (sS l) (sS [35]) = _ := SX.partition_some (a := l) (b := [35]) (by simp) hq
    rw [e]; rfl
  · obtain ⟨h1, h2⟩ := (par_rem l []).2 h
    have e : Txt.partition (sS l) (sS [35]) = _ := SX.partition_none (a := l) (b := [35]) (by simp) h1
    rw [e, h2]; rfl
theorem remL_len (l : List Nat) : (remL l).length ≤ l.length := (List.takeWhile_sublist _).length_le
/-- nothing is cut -/
theorem remL_free {l : List Nat} (h : 35 ∉ l) : remL l = l := ((par_rem l []).2 h).2
theorem remL_at {l : List Nat} (m : List Nat) (h : 35 ∉ l) : remL (l ++ 35 :: m) = l := by
  unfold remL
  rw [List.takeWhile_append_of_pos (fun x hx => by simp; exact fun e => h (e ▸ hx))]
  simp
/-! ### lines with words -/
def lwL (l : List Nat) : List (Nat × List (List Nat)) := ((cutA 10 [] l).zipIdx.map fun p => (p.2 + 1, wordsL (remL p.1))).filter fun p => decide (0 < p.2.length)
/-- the words alone -/
def wlL (l : List Nat) : List (List (List Nat)) := ((cutA 10 [] l).map fun p => wordsL (remL p)).filter fun p => decide (0 < p.length)
theorem lw_wl (l : List Nat) : (lwL l).map (·.2) = wlL l := by
  unfold lwL wlL
  have aux : ∀ (xs : List (List Nat)) (k : Nat), (((xs.zipIdx k).map fun p => (p.2 + 1, wordsL (remL p.1))).filter fun p => decide (0 < p.2.length)).map (·.2) = (xs.map fun p => wordsL (remL p)).filter fun p => decide (0 < p.length) := by
    intro xs
    induction xs with
    | nil => intro k; rfl
    | cons x xs ih =>
      intro k
      rw [List.zipIdx_cons, List.map_cons, List.map_cons, List.filter_cons, List.filter_cons]
      cases decide (0 < (wordsL (remL x)).length) with
      | true =>
        simp only [if_true, List.map_cons]
        rw [ih]
      | false =>
        simp only [Bool.false_eq_true, if_false]
        exact ih _
  exact aux _ 0
/-! ### lines joined and cut -/
theorem cut_join {c : Nat} : ∀ (ls : List (List Nat)), ls ≠ [] → (∀ l ∈ ls, c ∉ l) → ∀ t, cutA c [] (joinL [c] ls ++ c :: t) = ls ++ cutA c [] t
  | [], h, _, _ => absurd rfl h
  | [x], _, h, t => by
    show cutA c [] (x ++ c :: t) = _
    rw [cutA_at x [] t (h x (List.mem_singleton.mpr rfl))]; rfl
  | x :: y :: r, _, h, t => by
    show cutA c [] ((x ++ ([c] ++ joinL [c] (y :: r))) ++ c :: t) = _
    have e : (x ++ ([c] ++ joinL [c] (y :: r))) ++ c :: t = x ++ c :: (joinL [c] (y :: r) ++ c :: t) := by simp
    rw [e, cutA_at x [] _ (h x (List.mem_cons_self ..)), cut_join (y :: r) (by simp) (fun l hl => h l (List.mem_cons_of_mem _ hl))]; rfl
theorem cut_join0 {c : Nat} : ∀ (ls : List (List Nat)), ls ≠ [] → (∀ l ∈ ls, c ∉ l) → cutA c [] (joinL [c] ls) = ls
  | [], h, _ => absurd rfl h
  | [x], _, h => by
    show cutA c [] x = _
    rw [cutA_end x [] (h x (List.mem_singleton.mpr rfl))]; rfl
  | x :: y :: r, _, h => by
    show cutA c [] (x ++ ([c] ++ joinL [c] (y :: r))) = _
    have e : x ++ ([c] ++ joinL [c] (y :: r)) = x ++ c :: joinL [c] (y :: r) := by simp
    rw [e, cutA_at x [] _ (h x (List.mem_cons_self ..)), cut_join0 (y :: r) (by simp) (fun l hl => h l (List.mem_cons_of_mem _ hl))]; rfl
theorem joinL_len (S : List Nat) : ∀ ls : List (List Nat), (joinL S ls).length ≤ (ls.map List.length).sum + ls.length * S.length
  | [] => by simp [joinL]
  | [x] => by simp [joinL]
  | x :: y :: r => by
    have := joinL_len S (y :: r)
    show (x ++ (S ++ joinL S (y :: r))).length ≤ _
    simp only [List.length_append, List.map_cons, List.sum_cons, List.length_cons] at this ⊢
    rw [Nat.add_mul] at this ⊢
    rw [Nat.add_mul]
    omega
/-! ### numerals -/
def isDg (c : Nat) : Bool := decide (48 ≤ c ∧ c ≤ 57)
def numW : List Nat → Option Nat
  | [a] => if isDg a = true then some (a - 48) else none
  | [a, b] => if isDg a = true ∧ isDg b = true ∧ a ≠ 48 then some (10 * (a - 48) + (b - 48)) else none
  | _ => none
theorem int_two : ∀ a : Fin 10, ∀ b : Fin 10, PySem.intText? (sS [48 + a.val, 48 + b.val]) = some (((10 * a.val + b.val : Nat) : Nat) : Int) := by decide +kernel
theorem int_numW {w : List Nat} {n : Nat} (h : numW w = some n) : PySem.intText? (sS w) = some ((n : Nat) : Int) ∧ w.length ≤ 2 ∧ n ≤ 99 := by
  unfold numW at h
  split at h
  · rename_i a
    split at h
    · rename_i c
      have c := of_decide_eq_true c
      cases h
      have := int_sign (a - 48) (by omega)
      rw [show 48 + (a - 48) = a by omega] at this
      exact ⟨this, by simp, by omega⟩
    · cases h
  · rename_i a b
    split at h
    · rename_i c
      have c1 := of_decide_eq_true c.1
      have c2 := of_decide_eq_true c.2.1
      cases h
      have := int_two ⟨a - 48, by omega⟩ ⟨b - 48, by omega⟩
      simp only [] at this
      rw [show 48 + (a - 48) = a by omega, show 48 + (b - 48) = b by omega] at this
      exact ⟨this, by simp, by omega⟩
    · cases h
  · cases h
def numsW (ws : List (List Nat)) : Option (List Nat) := if ws.all (fun w => (numW w).isSome) = true then some (ws.map fun w => (numW w).getD 0) else none
theorem numW_one {n : Nat} (h : n < 10) : numW [48 + n] = some n := by
  show (if isDg (48 + n) = true then some (48 + n - 48) else none) = _
  rw [if_pos (by unfold isDg; rw [decide_eq_true_iff]; omega)]
  congr 1; omega
theorem numsW_ones (l : List Nat) (h : ∀ x ∈ l, x < 10) : numsW (l.map fun x => [48 + x]) = some l := by
  unfold numsW
  rw [if_pos (List.all_eq_true.mpr fun w hw => by
    obtain ⟨x, hx, rfl⟩ := List.mem_map.mp hw
    rw [numW_one (h x hx)]; rfl), List.map_map]
  congr 1
  rw [List.map_congr_left (g := id) fun x hx => by
    show (numW [48 + x]).getD 0 = x
    rw [numW_one (h x hx)]; rfl]
  simp
end Kf

set_option Elab.async false
set_option linter.all false
set_option maxRecDepth 100000
set_option maxHeartbeats 8000000
/-! words_of, is_numeral, numbers_of -/
namespace Kc
open PySem PySem.Spec PyProof.Rows L2 Kg Kd Kr Kf Kl TL
abbrev sWof : Stmt := topS 8
abbrev nWof : List Str := ["line", "word"]
theorem scWof : FnScope nWof ["line"] (defScope sWof) := ⟨rfl, rfl, rfl, by decide +kernel, rfl, by decide +kernel, by decide +kernel⟩
abbrev sNml : Stmt := topS 9
abbrev nNml : List Str := ["word", "sign"]
theorem scNml : FnScope nNml ["word"] (defScope sNml) := ⟨rfl, rfl, rfl, by decide +kernel, rfl, by decide +kernel, by decide +kernel⟩
abbrev sNms : Stmt := topS 10
abbrev nNms : List Str := ["words", "word"]
theorem scNms : FnScope nNms ["words"] (defScope sNms) := ⟨rfl, rfl, rfl, by decide +kernel, rfl, by decide +kernel, by decide +kernel⟩
/-- a word as a value -/
abbrev wV (w : List Nat) : V := .str (sS w)
def spWof : Sp := fun vs H Q _ => ∃ (l : List Nat), vs = [.str (sS l)] ∧ l.length ≤ 800 ∧ ∀ H' a, Same H H' → H a = none → H' a = some (.lst ((wordsL l).map wV)) → Q (.ref a) H'
def spNml : Sp := fun vs H Q _ => ∃ (l : List Nat), vs = [.str (sS l)] ∧ l.length ≤ 800 ∧ ∀ H', Same H H' → Q (.bl (numW l).isSome) H'
def spNms : Sp := fun vs H Q _ => ∃ (a : Addr) (ws : List (List Nat)), vs = [.ref a] ∧ H a = some (.lst (ws.map wV)) ∧ ws.length ≤ 900 ∧ (∀ w ∈ ws, w.length ≤ 800) ∧
  (numsW ws = none → ∀ H', Same H H' → Q .non H') ∧ ∀ ns, numsW ws = some ns → ∀ H' r, Same H H' → H' r = some (.tup (ns.map iV)) → Q (.ref r) H'
theorem starts_one (a : Nat) (r : List Nat) : Txt.startswith (sS (a :: r)) (sS [48]) = decide (a = 48) := by
  unfold Txt.startswith
  rw [StrLaws.subAt_eq]
  by_cases h : a = 48
  · subst h; simp [sS, Str.length]
  · simp [sS, Str.length, h]
theorem dg_mem (c : Nat) : decide (c ∈ (Str.ofString "0123456789").cps.toList) = isDg c := by
  have e : (Str.ofString "0123456789").cps.toList = [48, 49, 50, 51, 52, 53, 54, 55, 56, 57] := by decide +kernel
  rw [e]
  unfold isDg
  rw [decide_eq_decide]
  simp only [List.mem_cons, List.not_mem_nil, or_false]
  omega
theorem numW_some (l : List Nat) : (numW l).isSome = (decide (1 ≤ l.length ∧ l.length ≤ 2) && (l.all isDg && (decide (l = [48]) || !(decide (l.head? = some 48))))) := by
  match l with
  | [] => rfl
  | [a] =>
    show (if isDg a = true then some (a - 48) else none).isSome = _
    cases h : isDg a with
    | false => simp [h]
    | true => 
      by_cases c : a = 48
      · subst c; rfl
      · simp [h, c]
  | [a, b] =>
    show (if isDg a = true ∧ isDg b = true ∧ a ≠ 48 then some (10 * (a - 48) + (b - 48)) else none).isSome = _
    cases h : isDg a with
    | false => simp [h]
    | true =>
      cases h2 : isDg b with
      | false => simp [h, h2]
      | true =>
        by_cases c : a = 48
        · subst c; simp [h2]
        · simp [h, h2, c]
  | a :: b :: c :: r =>
    show (none : Option Nat).isSome = _
    rw [decide_eq_false (by simp)]; rfl
section
variable {P : Program} {w : World} {K : PySem.W.Frag} {mg : Str → Option Value} {base : Heap} {f : Addr} {fd : FuncData} {k : Nat}
theorem ok_wof (F : Fun K "words_of" "words_of" sWof f fd) (B : Bl mg) : FnOk P w K mg base CX0 (k + 1) f fd ["line"] spWof := by
  refine F.ok scWof (fun vs H Q E h => ?_) (fun cdv A outer s H vs Q E hr h => ?_)
  · obtain ⟨l, rfl, _⟩ := h
    rfl
  · obtain ⟨l, rfl, hl, q⟩ := h
    refine ⟨_, (pss_one (ps_ret (pe_lc (own := [("word", 1)]) (g := (gName 1)) rfl scWof.nd (pi_list (pe_split (pv 0) pe_str))
        (blkOk_by (N := nWof) (sc := defScope sWof) (by decide +kernel)) (fun _ _ _ _ _ => (pg_name (i := 1) scWof.nd rfl (.inl rfl))) (fun _ _ _ _ _ => pts_one (pt_cmpR op_gt (pe_callB call_len_str (by rfl) B.len PySem.boot_len (pa_cons (pv 1) pa_nil)) pe_int (nomark _)))
        (fun _ _ _ _ _ => (pv 1))))), ?_⟩
    have bg := big1000
    have c1 : Str.ofString " " = sS [32] := eq_sS (by decide +kernel)
    refine ⟨_, rfl, ⟨_, rfl⟩, sS l, _, rfl, rfl, by decide, by rw [sS_len]; omega, fun p np => ?_⟩
    rw [c1, split_sS l (by decide)]
    have hp := upd_same (H := H) (a := p) (o := HO.lst (((cutA 32 [] l).map sS).map V.str))
    have s0 := same_new (o := HO.lst (((cutA 32 [] l).map sS).map V.str)) np
    have cl := cutA_len 32 l []
    have hp' : upd H p (HO.lst (((cutA 32 [] l).map sS).map V.str)) p = some (.lst ((cutA 32 [] l).map wV)) := by rw [hp, List.map_map]; rfl
    generalize upd H p (HO.lst (((cutA 32 [] l).map sS).map V.str)) = H1 at hp' s0
    refine ⟨p, rfl, ⟨_, SqL.of hp'⟩, fun D nD => ?_⟩
    refine lc_lI (K := K) (a := p) (xs := (cutA 32 [] l).map wV) (ls := cutA 32 [] l) (fun x => decide (0 < x.length)) wV nD (by rw [List.length_map]; omega) hp' (by rw [List.length_map]) (fun i x e hx he => ?_) (fun H2 s2 hD => ?_)
    · intro H3 s3 R R0 hR
      obtain ⟨e', h1, rfl⟩ := map_get hx
      rw [he] at h1
      cases h1
      have le := cutA_part 32 l [] e (List.mem_of_getElem? he)
      have le : e.length ≤ l.length := by simpa using le
      refine ⟨rfl, _, rfl, sS e, rfl, by rw [sS_len]; omega, _, _, rfl, rfl, _, rfl, ?_⟩
      rw [sS_len]
      cases c : decide (0 < e.length) with
      | true => exact iteD (decide_eq_true (by have := of_decide_eq_true c; omega)) ⟨_, rfl, (hR H3 (Same.refl _)).1 c⟩
      | false => exact iteE (decide_eq_false (by have := of_decide_eq_false c; omega)) ((hR H3 (Same.refl _)).2 c)
    · exact q H2 D (s0.trans s2) (s0.free nD) hD
theorem ok_nml {tk : Tok} (F : Fun K "is_numeral" "is_numeral" sNml f fd) (B : Bl mg) (dg : mg "DIGITS" = some (.str (Str.ofString "0123456789") tk)) : FnOk P w K mg base CX0 (k + 1) f fd ["word"] spNml := by
  refine F.ok scNml (fun vs H Q E h => ?_) (fun cdv A outer s H vs Q E hr h => ?_)
  · obtain ⟨l, rfl, _⟩ := h
    rfl
  · obtain ⟨l, rfl, hl, q⟩ := h
    refine ⟨_, (pss_cons (ps_if (PW.pt (pw_or (pt_not (pt_chain op_le op_le pe_int (pe_callB call_len_str (by rfl) B.len PySem.boot_len (pa_cons (pv 0) pa_nil)) pe_int)) (pw_or1 (pt_not (pt_val (pe_callB (cr_all rfl) (by rfl) B.all boot_all (pa_cons (pe_lc (own := [("sign", 1)]) (g := (gName 1)) rfl scNml.nd (pi_str (pv 0))
        (blkOk_by (N := nNml) (sc := defScope sNml) (by decide +kernel)) (fun _ _ _ _ _ => (pg_name (i := 1) scNml.nd rfl (.inl rfl))) (fun _ _ _ _ _ => pts_nil)
        (fun _ _ _ _ _ => (pe_cmpR op_in_sign (pv 1) (pe_glob (v := .str (Str.ofString "0123456789")) (by rfl) dg ⟨_, rfl⟩) rfl))) pa_nil))))))) (pss_one (ps_ret pe_bl)) pss_nil)
      (pss_one (ps_ret (pe_or (pe_cmpR op_eq (pv 0) pe_str (nomark _)) (pe_one (pe_not (pe_m1 PySem.F.slot_str_startswith PySem.F.type_str_startswith mt_startswith (pv 0) pe_str))))))), ?_⟩
    have bg := big1000
    have c0 : Str.ofString "0" = sS [48] := eq_sS (by decide +kernel)
    have q0 := fun H' s => q H' s
    rw [numW_some] at q
    refine ⟨_, rfl, sS l, rfl, by rw [sS_len]; omega, _, _, rfl, rfl, ?_⟩
    rw [sS_len]
    by_cases c1 : 1 ≤ l.length
    · refine ⟨_, rfl, iteD (decide_eq_true (by omega)) ⟨_, _, rfl, rfl, _, rfl, ?_⟩⟩
      by_cases c2 : l.length ≤ 2
      · rw [decide_eq_true (show ((l.length : Nat) : Int) ≤ 2 by omega)]
        rw [decide_eq_true (show 1 ≤ l.length ∧ l.length ≤ 2 from ⟨c1, c2⟩), Bool.true_and] at q
        refine iteF ⟨_, rfl, sS l, rfl, fun D nD => ?_⟩
        refine lc_it (walk_str (z := sS l)) (fun i H3 => Same H H3 ∧ H3 D = some (.lst (((l.take i).map isDg).map V.bl))) ⟨same_new nD, upd_same⟩ (fun _ _ _ _ => trivial) (fun i x H3 H4 hi pp yy => ?_) (fun H3 pp => ?_)
        · obtain ⟨s3, hD⟩ := pp
          obtain ⟨rfl, c, hc, rfl⟩ := yy
          have hc' : l[i]? = some c := by simpa [sS] using hc
          refine ⟨rfl, ?_⟩
          dsimp only [tYes]
          rw [if_pos rfl]
          refine ⟨_, rfl, c, _, rfl, rfl, ?_⟩
          rw [dg_mem]
          have tk : l.take (i + 1) = l.take i ++ [c] := by rw [List.take_add_one, hc']; rfl
          refine ⟨_, hD, ?_, fun b o z => ?_, ?_⟩
          · rw [List.length_map, List.length_map, List.length_take]
            exact small1000 (by omega)
          · rw [upd_ne (ne_of_none z nD)]; exact s3 _ _ z
          · rw [upd_same, tk, List.map_append, List.map_append]; rfl
        · obtain ⟨s3, hD⟩ := pp
          have e : l.take (sS l).cps.size = l := by
            have : (sS l).cps.size = l.length := by simp [sS]
            rw [this, List.take_length]
          rw [e] at hD
          refine ⟨D, l.map isDg, rfl, SqL.of hD, _, rfl, ?_⟩
          have ea : (l.map isDg).all id = l.all isDg := by rw [List.all_map]; rfl
          rw [ea]
          cases ca : l.all isDg with
          | false =>
            rw [ca] at q
            exact iteT (q H3 s3)
          | true =>
            rw [ca, Bool.true_and] at q
            have q1 := q H3 s3
            refine iteF ⟨_, rfl, rfl, _, rfl, ?_⟩
            rw [c0]
            have ee : decide (V.str (sS l) = V.str (sS [48])) = decide (l = [48]) := by
              rw [decide_eq_decide]
              exact ⟨fun z => Decidable.by_contra fun y => sS_ne y z, fun z => by rw [z]⟩
            rw [ee]
            cases cz : decide (l = [48]) with
            | true =>
              rw [cz] at q1
              exact iteT q1
            | false =>
              rw [cz, Bool.false_or] at q1
              refine iteF ⟨_, rfl, ⟨_, rfl⟩, sS l, _, rfl, rfl, _, rfl, ?_⟩
              show Q (V.bl !Txt.startswith (sS l) (sS [48])) H3
              cases l with
              | nil => exact absurd c1 (by simp)
              | cons a r =>
                rw [starts_one]
                have e2 : decide ((a :: r).head? = some 48) = decide (a = 48) := by simp
                rw [e2] at q1
                exact q1
      · rw [decide_eq_false (show ¬ ((l.length : Nat) : Int) ≤ 2 by omega)]
        rw [decide_eq_false (show ¬ (1 ≤ l.length ∧ l.length ≤ 2) by omega)] at q
        exact iteT (iteT (q H (Same.refl H)))
    · refine ⟨_, rfl, iteE (decide_eq_false (by omega)) ⟨_, rfl, ?_⟩⟩
      rw [decide_eq_false (show ¬ (1 ≤ l.length ∧ l.length ≤ 2) by omega)] at q
      exact iteT (iteT (q H (Same.refl H)))
theorem ok_nms (F : Fun K "numbers_of" "numbers_of" sNms f fd) (B : Bl mg) (GN : Cal P w K mg base "is_numeral" 1 ["word"] spNml) : FnOk P w K mg base CX0 2 f fd ["words"] spNms := by
  refine F.ok scNms (fun vs H Q E h => ?_) (fun cdv A outer s H vs Q E hr h => ?_)
  · obtain ⟨a, ws, rfl, _⟩ := h
    rfl
  · obtain ⟨a, ws, rfl, ha, hl, hw, qn, qs⟩ := h
    refine ⟨_, (pss_cons (ps_if (pt_not (pt_val (pe_callB (cr_all rfl) (by rfl) B.all boot_all (pa_cons (pe_lc (own := [("word", 1)]) (g := (gName 1)) rfl scNms.nd (pi_list (pv 0))
        (blkOk_by (N := nNms) (sc := defScope sNms) (by decide +kernel)) (fun _ _ _ _ _ => (pg_name (i := 1) scNms.nd rfl (.inl rfl))) (fun _ _ _ _ _ => pts_nil)
        (fun _ _ _ _ _ => (pe_cal GN hr (by rfl) (pa_cons (pv 1) pa_nil)))) pa_nil)))) (pss_one (ps_ret pe_non)) pss_nil)
      (pss_one (ps_ret (pe_callTy call_tupN (by rfl) B.tuple PyProof.Rows.boot_tuple (pa_cons (pe_lc (own := [("word", 1)]) (g := (gName 1)) rfl scNms.nd (pi_list (pv 0))
        (blkOk_by (N := nNms) (sc := defScope sNms) (by decide +kernel)) (fun _ _ _ _ _ => (pg_name (i := 1) scNms.nd rfl (.inl rfl))) (fun _ _ _ _ _ => pts_nil)
        (fun _ _ _ _ _ => (pe_callTy call_int_str (by rfl) B.int PyProof.Rows.boot_int (pa_cons (pv 1) pa_nil)))) pa_nil))))), ?_⟩
    have xl : (ws.map wV).length = ws.length := List.length_map ..
    refine ⟨_, rfl, a, rfl, ⟨_, SqL.of ha⟩, fun D nD => ?_⟩
    refine lc_lI (K := K) (a := a) (xs := ws.map wV) (ls := ws) (fun _ => true) (fun w => .bl (numW w).isSome) nD (by omega) ha xl (fun i x e hx he => fmt_one gName_mono' fun H2 s2 R hR => ?_) (fun H2 s2 hD => ?_)
    · obtain ⟨e', h1, rfl⟩ := map_get hx
      rw [he] at h1
      cases h1
      exact ⟨rfl, _, rfl, e, rfl, hw e (List.mem_of_getElem? he), hR⟩
    · rw [filt_all] at hD
      refine ⟨D, ws.map fun w => (numW w).isSome, rfl, SqL.of (by rw [hD, List.map_map]; rfl), _, rfl, ?_⟩
      have ea : (ws.map fun w => (numW w).isSome).all id = ws.all fun w => (numW w).isSome := by rw [List.all_map]; rfl
      rw [ea]
      cases ca : ws.all fun w => (numW w).isSome with
      | false =>
        refine iteT (qn ?_ H2 s2)
        unfold numsW
        rw [if_neg (by rw [ca]; exact Bool.false_ne_true)]
      | true =>
        have en : numsW ws = some (ws.map fun w => (numW w).getD 0) := by
          unfold numsW
          rw [if_pos ca]
        have h2 := s2 _ _ ha
        refine iteF ⟨_, rfl, a, rfl, ⟨_, SqL.of h2⟩, fun D2 nD2 => ?_⟩
        refine lc_lI (K := K) (a := a) (xs := ws.map wV) (ls := ws) (fun _ => true) (fun w => iV ((numW w).getD 0)) nD2 (by omega) h2 xl (fun i x e hx he => fmt_one gName_mono' fun H3 s3 R hR => ?_) (fun H3 s3 hD3 => ?_)
        · obtain ⟨e', h1, rfl⟩ := map_get hx
          rw [he] at h1
          cases h1
          have hs := List.all_eq_true.mp ca e (List.mem_of_getElem? he)
          obtain ⟨n, hn⟩ := Option.isSome_iff_exists.mp hs
          obtain ⟨i1, i2, i3⟩ := int_numW hn
          have hR' := hR H3 (Same.refl _)
          rw [hn] at hR'
          exact ⟨rfl, _, rfl, _, _, rfl, i1, (by rw [sS_len]; omega), hR'⟩
        · rw [filt_all] at hD3
          refine ⟨D2, _, rfl, .inl hD3, fun r H4 s4 hr' => ?_⟩
          exact qs _ en H4 r (s2.trans (s3.trans s4)) (by rw [hr', List.map_map]; rfl)
end
end Kc

set_option Elab.async false
set_option linter.all false
set_option maxRecDepth 100000
set_option maxHeartbeats 4000000
/-! x in t, t a tuple of data; witnesses. -/
namespace Kf
open PySem PySem.Spec PyProof.Rows L2 Kg Kd LamX
section
variable {X : Cx}
def rInT (K : PySem.W.Frag) : R2 := fun x y H Q => ∃ d ds, Dp K H x d ∧ Dp K H y (.tuple ds) ∧ SeqAt.shaped d = true ∧ SeqAt.shaped (.tuple ds) = true ∧ Q (.bl (ds.any fun z => PyData.eqv z d)) H
def rNotInT (K : PySem.W.Frag) : R2 := fun x y H Q => ∃ d ds, Dp K H x d ∧ Dp K H y (.tuple ds) ∧ SeqAt.shaped d = true ∧ SeqAt.shaped (.tuple ds) = true ∧ Q (.bl (!ds.any fun z => PyData.eqv z d)) H
theorem op_inT {K : PySem.W.Frag} (hK : X.K = K) (hu : X.A.units + 65 < cLine) : OpR X (compareOp .In) (rInT K) := by
  subst hK
  intro pins s σ H x y v u Q I rx ry ⟨d, ds, dx, dy, sx, sy, q⟩
  obtain ⟨as, r1⟩ := Dp.reads I d x v dx rx
  obtain ⟨bs, r2⟩ := Dp.reads I (.tuple ds) y u dy ry
  exact SeqAt.in_tuple_reads r2 r1 (SeqAt.canLay_of_shaped sy) (SeqAt.canLay_of_shaped sx) (room_in_shaped sx hu) ⟨.bl _, H, I, rfl, q⟩
theorem op_notInT {K : PySem.W.Frag} (hK : X.K = K) (hu : X.A.units + 65 < cLine) : OpR X (compareOp .NotIn) (rNotInT K) := by
  subst hK
  intro pins s σ H x y v u Q I rx ry ⟨d, ds, dx, dy, sx, sy, q⟩
  obtain ⟨as, r1⟩ := Dp.reads I d x v dx rx
  obtain ⟨bs, r2⟩ := Dp.reads I (.tuple ds) y u dy ry
  exact SeqAt.notIn_tuple_reads r2 r1 (SeqAt.canLay_of_shaped sy) (SeqAt.canLay_of_shaped sx) (room_in_shaped sx hu) ⟨.bl _, H, I, rfl, q⟩
end
/-! ### cuts -/
theorem cut_tk {xs : List V} {k : Nat} (h : k ≤ xs.length) : cutV xs none (some ((k : Nat) : Int)) = xs.take k := by
  have e0 : HT.sIx xs.length 0 none = 0 := rfl
  have e1 : HT.sIx xs.length xs.length (some ((k : Nat) : Int)) = k := by rw [HT.sIx_nat]; exact Nat.min_eq_left h
  unfold cutV
  rw [e0, e1, List.drop_zero, Nat.sub_zero]
theorem cut_dp {xs : List V} {k : Nat} (h : k ≤ xs.length) : cutV xs (some ((k : Nat) : Int)) none = xs.drop k := by
  have e0 : HT.sIx xs.length xs.length none = xs.length := rfl
  have e1 : HT.sIx xs.length 0 (some ((k : Nat) : Int)) = k := by rw [HT.sIx_nat]; exact Nat.min_eq_left h
  unfold cutV
  rw [e0, e1, List.take_of_length_le]
  rw [List.length_drop]
  exact Nat.le_refl _
theorem TuAll.tk {H : Hp} : ∀ {xs : List V} {ds : List PyData} (k : Nat), TuAll H xs ds → TuAll H (xs.take k) (ds.take k)
  | _, _, 0, _ => by simp; exact .nil
  | _, _, _ + 1, .nil => .nil
  | _, _, k + 1, .cons h r => .cons h (TuAll.tk k r)
theorem TuAll.dp_ {H : Hp} : ∀ {xs : List V} {ds : List PyData} (k : Nat), TuAll H xs ds → TuAll H (xs.drop k) (ds.drop k)
  | _, _, 0, h => by simpa using h
  | _, _, _ + 1, .nil => .nil
  | _, _, k + 1, .cons _ r => by simpa using TuAll.dp_ k r
theorem TuAll.rev {H : Hp} : ∀ {xs : List V} {ds : List PyData}, TuAll H xs ds → TuAll H xs.reverse ds.reverse
  | _, _, .nil => .nil
  | _, _, .cons h r => by rw [List.reverse_cons, List.reverse_cons]; exact (TuAll.rev r).append (.cons h .nil)
/-- parts can be put in order -/
theorem parts_any (l : List Nat) (h : l.Pairwise (· < ·)) : IsParts l ((prt l).mergeSort fun a b => !lpN (b.length, b) (a.length, a)) := by
  have tot : ∀ a b : List Nat, (!lpN (b.length, b) (a.length, a) || !lpN (a.length, a) (b.length, b)) = true := fun a b => by
    cases c : lpN (b.length, b) (a.length, a) with
    | false => rfl
    | true => rw [lpN_asym c]; rfl
  have tra : ∀ a b c : List Nat, (!lpN (b.length, b) (a.length, a)) = true → (!lpN (c.length, c) (b.length, b)) = true → (!lpN (c.length, c) (a.length, a)) = true := fun a b c h1 h2 => by
    rw [Bool.not_eq_true'] at h1 h2 ⊢
    cases z : lpN (c.length, c) (a.length, a) with
    | false => rfl
    | true =>
      rcases lp_tri (gLen a) (gLen b) with e | e | e
      · have := gLen_inj a b e
        subst this
        rw [z] at h2; cases h2
      · have : lpN (c.length, c) (b.length, b) = true := Ku.lx_trans z e
        rw [this] at h2; cases h2
      · have : lpN (b.length, b) (a.length, a) = true := e
        rw [this] at h1; cases h1
  have pw := List.pairwise_mergeSort tra tot (prt l)
  have pm := List.mergeSort_perm (prt l) (fun a b => !lpN (b.length, b) (a.length, a))
  have nd := pm.nodup_iff.mpr (prt_nodup h)
  refine ⟨(pw.and nd).imp fun {a b} z => ?_, fun x => by rw [pm.mem_iff, prt_mem]⟩
  have z1 := z.1
  rw [Bool.not_eq_true'] at z1
  rcases lp_tri (gLen a) (gLen b) with e | e | e
  · exact absurd (gLen_inj a b e) z.2
  · exact e
  · have : lpN (b.length, b) (a.length, a) = true := e
    rw [this] at z1; cases z1
/-- the elders of one new kind are there -/
theorem sing_any (n : Nat) (cl : List Nat) (sv : Bool) : ∃ sg, IsSing n cl sv sg := by
  cases sv with
  | false => exact ⟨_, sing_one⟩
  | true => exact ⟨_, sing_parts (parts_any _ (opn_asc n cl))⟩
/-- the witness of a lot -/
def witD (es : List (List Nat)) (ho : List Nat) (sg : List (List Nat)) (l : List Nat) : PyData :=
  match (opn es.length ho).find? (fun k => decide (lot es k = l)) with
  | some k => .tuple [.tuple [], .int ((k : Nat) : Int)]
  | none => match sg.find? (fun ks => decide (lotS es ks = l)) with
    | some ks => .tuple [.tuple [pdI ks], .int ((es.length : Nat) : Int)]
    | none => .none
def unl (a b : Ch) (l : List Nat) : Bool := !decide (a.answer l = b.answer l)
/-- a lot or None -/
def oL : Option (List Nat) → PyData
  | none => .none
  | some l => pdI l
end Kf

set_option Elab.async false
set_option linter.all false
set_option maxRecDepth 100000
set_option maxHeartbeats 4000000
/-! Rows: which are reached, which clash. -/
namespace Kf
open PySem PySem.Spec PyProof.Rows L2 Kg Kd LamX
def reachL (rs : List Row) (ls : List (List Nat)) : List Nat := (List.range rs.length).filter (fun i => ls.any (fun l => decide (chosenR l rs = some i)))
theorem chosen_lt {lot : List Nat} {rs : List Row} {i : Nat} (h : chosenR lot rs = some i) : i < rs.length := by
  unfold chosenR at h
  exact (List.findIdx?_eq_some_iff_getElem.mp h).1
def clsh (r s : Row) (ls : List (List Nat)) : Bool := !decide (r.2 = s.2) && ls.any (fun l => holds l r.1 && holds l s.1)
def clR (rs : List Row) (ls : List (List Nat)) (i j : Nat) : Bool := match rs[i]?, rs[j]? with
  | some r, some s => clsh r s ls
  | _, _ => false
theorem clR_at {rs : List Row} {ls : List (List Nat)} {i j : Nat} {r s : Row} (h : rs[i]? = some r) (k : rs[j]? = some s) : clR rs ls i j = clsh r s ls := by unfold clR; rw [h, k]
def bef (a b i j : Nat) : Prop := a < i ∨ (a = i ∧ b < j)
/-- the first clash ahead of (i, j) -/
def FirstC (q : Nat → Nat → Bool) (n i j : Nat) (o : Option (Nat × Nat)) : Prop := match o with
  | none => ∀ a b, a < b → b < n → bef a b i j → q a b = false
  | some p => p.1 < p.2 ∧ p.2 < n ∧ bef p.1 p.2 i j ∧ q p.1 p.2 = true ∧ ∀ a b, a < b → b < n → bef a b p.1 p.2 → q a b = false
theorem FirstC.uniq {q : Nat → Nat → Bool} {n i j : Nat} {o o' : Option (Nat × Nat)} (h : FirstC q n i j o) (k : FirstC q n i j o') : o = o' := by
  cases o with
  | none =>
    cases o' with
    | none => rfl
    | some p =>
      obtain ⟨h1, h2, h3, h4, _⟩ := k
      have := h p.1 p.2 h1 h2 h3
      rw [this] at h4; cases h4
  | some p =>
    obtain ⟨h1, h2, h3, h4, h5⟩ := h
    cases o' with
    | none =>
      have := k p.1 p.2 h1 h2 h3
      rw [this] at h4; cases h4
    | some p' =>
      obtain ⟨k1, k2, k3, k4, k5⟩ := k
      have n1 : ¬ bef p.1 p.2 p'.1 p'.2 := fun z => by rw [k5 _ _ h1 h2 z] at h4; cases h4
      have n2 : ¬ bef p'.1 p'.2 p.1 p.2 := fun z => by rw [h5 _ _ k1 k2 z] at k4; cases k4
      unfold bef at n1 n2
      congr 1
      exact Prod.ext (by omega) (by omega)
theorem FirstC.start (q : Nat → Nat → Bool) (n : Nat) : FirstC q n 0 1 none := fun a b h1 h2 h3 => by unfold bef at h3; omega
/-- the next pair -/
theorem FirstC.step {q : Nat → Nat → Bool} {n i j : Nat} {o : Option (Nat × Nat)} (h : FirstC q n i j o) (ij : i < j) (jn : j < n) : FirstC q n i (j + 1) (if o = none ∧ q i j = true then some (i, j) else o) := by
  cases o with
  | none =>
    by_cases c : q i j = true
    · rw [if_pos ⟨rfl, c⟩]
      exact ⟨ij, jn, by unfold bef; omega, c, h⟩
    · rw [if_neg (fun z => c z.2)]
      intro a b h1 h2 h3
      by_cases e : a = i ∧ b = j
      · rw [e.1, e.2]; exact Bool.not_eq_true _ ▸ c
      · exact h a b h1 h2 (by unfold bef at h3 ⊢; omega)
  | some p =>
    rw [if_neg (fun z => nomatch z.1)]
    obtain ⟨h1, h2, h3, h4, h5⟩ := h
    exact ⟨h1, h2, by unfold bef at h3 ⊢; omega, h4, h5⟩
/-- the next row of pairs -/
theorem FirstC.row {q : Nat → Nat → Bool} {n i j : Nat} {o : Option (Nat × Nat)} (h : FirstC q n i j o) (jn : n ≤ j) : FirstC q n (i + 1) (i + 2) o := by
  cases o with
  | none => exact fun a b h1 h2 h3 => h a b h1 h2 (by unfold bef at h3 ⊢; omega)
  | some p =>
    obtain ⟨h1, h2, h3, h4, h5⟩ := h
    exact ⟨h1, h2, by unfold bef at h3 ⊢; omega, h4, h5⟩
def pairD : Option (Nat × Nat) → PyData
  | none => .none
  | some p => .tuple [.int ((p.1 : Nat) : Int), .int ((p.2 : Nat) : Int)]
end Kf

set_option Elab.async false
set_option linter.all false
set_option maxRecDepth 100000
set_option maxHeartbeats 4000000
/-! Rows left out, fewest rows. -/
namespace Kf
open PySem PySem.Spec PyProof.Rows L2 Kg Kd LamX
theorem op_eqDK {X : Cx} {K : PySem.W.Frag} (h : X.K = K) (hu : X.A.units + 64 < cLine) : OpR X (compareOp .Eq) (rEqD K) := by subst h; exact op_eqD hu
def ansI (c : Ch) (ls : List (List Nat)) : List Int := ls.map fun l => ((c.answer l : Nat) : Int)
def sameAn (c e : Ch) (ls : List (List Nat)) : Bool := decide (ansI c ls = ansI e ls)
theorem sh_ints (l : List Int) : SeqAt.shaped (.list (l.map PyData.int)) = true := by
  unfold SeqAt.shaped
  rw [Bool.and_eq_true]
  refine ⟨Ku.lay_ints l, decide_eq_true ?_⟩
  show PyData.depthAll (l.map PyData.int) + 1 ≤ 64
  rw [Ku.dep_ints]; decide
theorem eqv_intsL (l m : List Int) : PyData.eqv (.list (l.map PyData.int)) (.list (m.map PyData.int)) = decide (l = m) := by
  rw [PyData.eqv, Ku.eqv_ints]
theorem dp_intsI {K : PySem.W.Frag} {H : Hp} : ∀ l : List Int, DpAll K H (l.map V.int) (l.map PyData.int)
  | [] => .nil
  | a :: l => .cons (.int a) (dp_intsI l)
theorem sameAn_iff {c e : Ch} {ls : List (List Nat)} : sameAn c e ls = true ↔ ∀ l ∈ ls, c.answer l = e.answer l := by
  unfold sameAn ansI
  rw [decide_eq_true_iff, List.map_inj_left]
  exact ⟨fun h l hl => by have := h l hl; omega, fun h l hl => by rw [h l hl]⟩
theorem like_same (c e : Ch) (ls : List (List Nat)) : (ls.filter (unl c e)).isEmpty = sameAn c e ls := by
  rw [Bool.eq_iff_iff, sameAn_iff, List.isEmpty_iff, List.filter_eq_nil_iff]
  refine forall_congr' fun l => forall_congr' fun _ => ?_
  unfold unl
  rw [Bool.not_eq_true', decide_eq_false_iff_not, Classical.not_not]
theorem sameAn_comm (c e : Ch) (ls : List (List Nat)) : sameAn c e ls = sameAn e c ls := by
  rw [Bool.eq_iff_iff, sameAn_iff, sameAn_iff]
  exact ⟨fun h l hl => (h l hl).symm, fun h l hl => (h l hl).symm⟩
theorem emp_eqL (A : List (List Nat)) : PyData.eqv (.list (A.map pdI)) (.list []) = A.isEmpty := by
  cases A <;> simp [PyData.eqv, PyData.eqvAll]
def noRow (rs : List Row) (k : Nat) : List Row := rs.take k ++ rs.drop (k + 1)
def spareL (rs : List Row) (ls : List (List Nat)) : List Nat := (List.range rs.length).filter (fun k => sameAn (.rows (noRow rs k)) (.rows rs) ls)
def pick (rs : List Row) (part : List Nat) : List Row := part.map fun k => rs.getD k ([], 0)
/-- the first part that is alike, else all -/
def fewL (rs : List Row) (ls ps : List (List Nat)) : List Nat := (ps.find? fun p => sameAn (.rows (pick rs p)) (.rows rs) ls).getD (List.range rs.length)
theorem getD_some {α : Type} {l : List α} {k : Nat} {d x : α} (h : l[k]? = some x) : l.getD k d = x := by rw [List.getD_eq_getElem?_getD, h]; rfl
theorem tus_pick {H : Hp} {xs : List V} {rs : List Row} (t : TuAll H xs (rs.map rwD)) : ∀ {part : List Nat}, (∀ k ∈ part, k < rs.length) → TuAll H (part.map fun k => xs.getD k .non) ((pick rs part).map rwD)
  | [], _ => .nil
  | k :: part, h => by
    have hk := h k (List.mem_cons_self ..)
    obtain ⟨x, hx, tx⟩ := t.get' (i := k) (d := rwD rs[k]) (by rw [List.getElem?_map, List.getElem?_eq_getElem hk]; rfl)
    refine .cons ?_ (tus_pick t fun j hj => h j (List.mem_cons_of_mem _ hj))
    show Tu H (xs.getD k .non) (rwD (rs.getD k ([], 0)))
    rw [getD_some hx, getD_some (List.getElem?_eq_getElem hk)]
    exact tx
theorem pick_few {n : Nat} {rs : List Row} (h : RowsOk n rs) {part : List Nat} (hp : ∀ k ∈ part, k < rs.length) : ∀ r ∈ pick rs part, r.1.length ≤ 900 := fun r hr => by
  obtain ⟨k, hk, rfl⟩ := List.mem_map.mp hr
  rw [getD_some (List.getElem?_eq_getElem (hp k hk))]
  have := (h.each _ (List.getElem_mem (hp k hk))).few
  omega
theorem pick_ok {n : Nat} {rs : List Row} (h : RowsOk n rs) {part : List Nat} (hp : ∀ k ∈ part, k < rs.length) (pl : part.length ≤ 6) : RowsOk n (pick rs part) := ⟨by unfold pick; rw [List.length_map]; exact pl, fun r hr => by
  obtain ⟨k, hk, rfl⟩ := List.mem_map.mp hr
  rw [getD_some (List.getElem?_eq_getElem (hp k hk))]
  exact h.each _ (List.getElem_mem (hp k hk))⟩
theorem noRow_ok {n : Nat} {rs : List Row} (h : RowsOk n rs) (k : Nat) : RowsOk n (noRow rs k) := by
  unfold noRow
  refine ⟨?_, fun r hr => ?_⟩
  · have := h.few
    rw [List.length_append, List.length_take, List.length_drop]; omega
  · rcases List.mem_append.mp hr with z | z
    · exact h.each r (List.mem_of_mem_take z)
    · exact h.each r (List.mem_of_mem_drop z)
theorem cut_neg {xs : List V} {k : Nat} (hk : 0 < k) : cutV xs (some (-((k : Nat) : Int))) none = xs.drop (xs.length - k) := by
  have e0 : HT.sIx xs.length xs.length none = xs.length := rfl
  have e1 : HT.sIx xs.length 0 (some (-((k : Nat) : Int))) = xs.length - k := by
    unfold HT.sIx
    simp only []
    rw [if_pos (by omega)]
    omega
  unfold cutV
  rw [e0, e1, List.take_of_length_le]
  rw [List.length_drop]
  exact Nat.le_refl _
end Kf
namespace Kf
open PySem PySem.Spec PyProof.Rows L2 Kg Kd LamX
/-! ### rows have the shape that is compared -/
theorem lay_needs : ∀ ns : List (Nat × Bool), PyData.canLayAll0 (ns.map needD) = true
  | [] => rfl
  | p :: r => by
    show (PyData.canLay0 (needD p) && PyData.canLayAll0 (r.map needD)) = true
    rw [lay_needs r]; rfl
theorem dep_needs : ∀ ns : List (Nat × Bool), PyData.depthAll (ns.map needD) ≤ 1
  | [] => Nat.zero_le _
  | p :: r => by
    show max (needD p).depth (PyData.depthAll (r.map needD)) ≤ 1
    have := dep_needs r
    have e : (needD p).depth = 1 := rfl
    omega
theorem lay_row (r : Row) : PyData.canLay0 (rwD r) = true := by
  show (PyData.canLayAll0 (r.1.map needD) && (true && true)) = true
  rw [lay_needs]; rfl
theorem dep_row (r : Row) : (rwD r).depth ≤ 3 := by
  show max (PyData.depthAll (r.1.map needD) + 1) (max 0 0) + 1 ≤ 3
  have := dep_needs r.1
  omega
theorem lay_rowsA : ∀ rs : List Row, PyData.canLayAll0 (rs.map rwD) = true
  | [] => rfl
  | p :: r => by
    show (PyData.canLay0 (rwD p) && PyData.canLayAll0 (r.map rwD)) = true
    rw [lay_rowsA r, lay_row]; rfl
theorem dep_rowsA : ∀ rs : List Row, PyData.depthAll (rs.map rwD) ≤ 3
  | [] => Nat.zero_le _
  | p :: r => by
    show max (rwD p).depth (PyData.depthAll (r.map rwD)) ≤ 3
    have := dep_rowsA r
    have := dep_row p
    omega
theorem sh_rows (rs : List Row) : SeqAt.shaped (rowsD rs) = true := by
  unfold SeqAt.shaped
  rw [Bool.and_eq_true]
  refine ⟨lay_rowsA rs, decide_eq_true ?_⟩
  show PyData.depthAll (rs.map rwD) + 1 ≤ 64
  have := dep_rowsA rs
  omega
theorem eqv_rowsE (rs : List Row) : PyData.eqv (rowsD rs) (.tuple []) = rs.isEmpty := by
  unfold rowsD
  cases rs <;> simp [PyData.eqv, PyData.eqvAll]
end Kf

set_option Elab.async false
set_option linter.all false
set_option maxRecDepth 100000
set_option maxHeartbeats 8000000
/-! _law_number of a word: its number, or -1 -/
namespace Kc
open PySem PySem.Spec PyProof.Rows L2 Kg Kd Kr Kf Kl TL
abbrev sLm6 : Stmt := topS 38
abbrev nLm6 : List Str := ["_law_word", "_law_digits", "_law_found", "_law_sign"]
theorem scLm6 : FnScope nLm6 ["_law_word"] (defScope sLm6) := ⟨rfl, rfl, rfl, by decide +kernel, rfl, by decide +kernel, by decide +kernel⟩
/-- a sign's digit -/
def dgI (c : Nat) : Int := if isDg c = true then ((c - 48 : Nat) : Int) else -1
/-- a word's number, or -1 -/
def numI (l : List Nat) : Int := match numW l with
  | some n => ((n : Nat) : Int)
  | none => -1
def dgv : List (Key × V) := [(.inr "0", .int 0), (.inr "1", .int 1), (.inr "2", .int 2), (.inr "3", .int 3), (.inr "4", .int 4), (.inr "5", .int 5), (.inr "6", .int 6), (.inr "7", .int 7), (.inr "8", .int 8), (.inr "9", .int 9)]
theorem dgv_merge : mergeK [] dgv = dgv := by decide +kernel
theorem sS_one {c d : Nat} (h : c ≠ d) : sS [c] ≠ sS [d] := fun z => by
  have : V.str (sS [c]) = V.str (sS [d]) := by rw [z]
  exact sS_ne (fun e => h (by injection e)) this
theorem dgv_get (c : Nat) : (valV dgv (.inr (sS [c]))).getD (.int (-1)) = .int (dgI c) := by
  have e : ∀ k : Nat, k < 10 → (Str.ofString (toString k)) = sS [48 + k] := fun k hk => by
    have : k = 0 ∨ k = 1 ∨ k = 2 ∨ k = 3 ∨ k = 4 ∨ k = 5 ∨ k = 6 ∨ k = 7 ∨ k = 8 ∨ k = 9 := by omega
    rcases this with h | h | h | h | h | h | h | h | h | h <;> subst h <;> exact eq_sS (by decide +kernel)
  by_cases h : 48 ≤ c ∧ c ≤ 57
  · have : c = 48 ∨ c = 49 ∨ c = 50 ∨ c = 51 ∨ c = 52 ∨ c = 53 ∨ c = 54 ∨ c = 55 ∨ c = 56 ∨ c = 57 := by omega
    rcases this with h | h | h | h | h | h | h | h | h | h <;> subst h <;> decide +kernel
  · have hd : dgI c = -1 := by
      unfold dgI isDg
      rw [decide_eq_false h, if_neg (by decide)]
    rw [hd]
    have no : ∀ (k : Nat) (x : Str), k < 10 → x = sS [48 + k] → decide ((Sum.inr x : Key) = .inr (sS [c])) = false := fun k x hk hx => decide_eq_false fun z => by
      have z := Sum.inr.inj z
      rw [hx] at z
      exact sS_one (c := 48 + k) (d := c) (by omega) z
    unfold valV dgv
    simp only [List.find?_cons, List.find?_nil, no 0 "0" (by decide) (eq_sS (by decide +kernel)), no 1 "1" (by decide) (eq_sS (by decide +kernel)), no 2 "2" (by decide) (eq_sS (by decide +kernel)), no 3 "3" (by decide) (eq_sS (by decide +kernel)), no 4 "4" (by decide) (eq_sS (by decide +kernel)), no 5 "5" (by decide) (eq_sS (by decide +kernel)), no 6 "6" (by decide) (eq_sS (by decide +kernel)), no 7 "7" (by decide) (eq_sS (by decide +kernel)), no 8 "8" (by decide) (eq_sS (by decide +kernel)), no 9 "9" (by decide) (eq_sS (by decide +kernel))]
    rfl
theorem dgI_neg (c : Nat) : decide (dgI c = -1) = !isDg c := by
  unfold dgI
  cases isDg c with
  | true => rw [if_pos rfl]; exact decide_eq_false (by omega)
  | false => rw [if_neg (by decide)]; rfl
theorem dgI_is {c : Nat} (h : isDg c = true) : dgI c = ((c - 48 : Nat) : Int) := by unfold dgI; rw [if_pos h]
def spLm6 : Sp := fun vs H Q _ => ∃ (l : List Nat), vs = [.str (sS l)] ∧ l.length ≤ 800 ∧ ∀ H', Same H H' → Q (.int (numI l)) H'
section
variable {P : Program} {w : World} {K : PySem.W.Frag} {mg : Str → Option Value} {base : Heap} {f : Addr} {fd : FuncData} {k : Nat}
theorem ok_lm6 (F : Fun K "_law_number" "_law_number" sLm6 f fd) (B : Bl mg) : FnOk P w K mg base CX0 (k + 1) f fd ["_law_word"] spLm6 := by
  refine F.ok scLm6 (fun vs H Q E h => ?_) (fun cdv A outer s H vs Q E hr h => ?_)
  · obtain ⟨l, rfl, _⟩ := h
    rfl
  · obtain ⟨l, rfl, hl, q⟩ := h
    have hu1 : (A.deeper (envOfC "_law_number" (defScope sLm6) s.heap.objs.size f cdv)).units + 1 < cLine := by have := hr.un; omega
    have bg := big1000
    refine ⟨_, (pss_cons (ps_set (i := 1) scLm6.nd rfl (.inr rfl) (pe_disp (pps_cons pe_str pe_int (pps_cons pe_str pe_int (pps_cons pe_str pe_int (pps_cons pe_str pe_int (pps_cons pe_str pe_int (pps_cons pe_str pe_int (pps_cons pe_str pe_int (pps_cons pe_str pe_int (pps_cons pe_str pe_int (pps_cons pe_str pe_int pps_nil)))))))))) (by rfl) (by rfl) (fun z => by cases z) (show 10 ≤ 15 by decide)))
      (pss_cons (ps_setLc (i := 2) (own := [("_law_sign", 3)]) (g := (gName 3)) rfl scLm6.nd rfl rfl (sw_true rfl rfl rfl (by decide +kernel)) (pi_str (pv 0))
        (blkOk_by (N := nLm6) (sc := defScope sLm6) (by decide +kernel)) (fun _ _ _ _ _ => (pg_name (i := 3) scLm6.nd rfl (.inl rfl))) (fun _ _ _ _ _ => pts_nil)
        (fun _ _ _ _ _ => pe_dget2 hu1 (pv 1) (pv 3) (pe_un un_neg pe_int) ⟨rfl, rfl, rfl, rfl⟩))
      (pss_cons (ps_if (PW.pt (pw_or (pt_cmpR (op_eqD hr.units) (pv 2) (pe_lst pa_nil) (nomark _)) (pw_or (pt_cmpR op_in_seq (pe_un un_neg pe_int) (pv 2) rfl) (pw_or (pt_cmpR op_gt (pe_callB call_len_seq (by rfl) B.len PySem.boot_len (pa_cons (pv 2) pa_nil)) pe_int (nomark _)) (pw_or1 (PW.pt (pw_and (pt_cmpR op_eq (pe_callB call_len_seq (by rfl) B.len PySem.boot_len (pa_cons (pv 2) pa_nil)) pe_int (nomark _)) (pw_and1 (pt_cmpR op_eq (pe_ix ix_list (pv 2) pe_int (fun _ _ => rfl)) pe_int (nomark _)))))))))) (pss_one (ps_ret (pe_un un_neg pe_int))) pss_nil)
      (pss_one (ps_ret (pe_ifExp (pt_cmpR op_eq (pe_callB call_len_seq (by rfl) B.len PySem.boot_len (pa_cons (pv 2) pa_nil)) pe_int (nomark _)) (pe_ix ix_list (pv 2) pe_int (fun _ _ => rfl)) (pe_op op_add (pe_op op_mul pe_int (pe_ix ix_list (pv 2) pe_int (fun _ _ => rfl))) (pe_ix ix_list (pv 2) pe_int (fun _ _ => rfl))))))))), ?_⟩
    intro Pd np
    refine ⟨upd_same, dgv, rfl, (show 10 ≤ 15 by decide), ?_⟩
    rw [dgv_merge]
    have s1 : Same H (upd (upd H Pd (HO.dK [])) Pd (HO.dK dgv)) := fun b o y => by
      have nb := ne_of_none y np
      rw [upd_ne nb, upd_ne nb]; exact y
    have hPd := upd_same (H := upd H Pd (HO.dK [])) (a := Pd) (o := HO.dK dgv)
    generalize upd (upd H Pd (HO.dK [])) Pd (HO.dK dgv) = H1 at s1 hPd ⊢
    refine ⟨_, rfl, sS l, rfl, fun D nD => ?_⟩
    refine lc_it (walk_str (z := sS l)) (fun i H3 => Same H1 H3 ∧ H3 D = some (.lst (((l.take i).map dgI).map V.int))) ⟨same_new nD, upd_same⟩ (fun _ _ _ _ => trivial) (fun i x H3 H4 hi pp yy => ?_) (fun H3 pp => ?_)
    · obtain ⟨s3, hD⟩ := pp
      obtain ⟨rfl, c, hc, rfl⟩ := yy
      have hc' : l[i]? = some c := by simpa [sS] using hc
      refine ⟨rfl, ?_⟩
      dsimp only [tYes]
      rw [if_pos rfl]
      have tk : l.take (i + 1) = l.take i ++ [c] := by rw [List.take_add_one, hc']; rfl
      refine ⟨_, rfl, Pd, rfl, .inl ⟨dgv, .inl (s3 _ _ hPd)⟩, _, rfl, _, rfl, _, DGet.k (s3 _ _ hPd) (k := .inr (sS [c])), ?_⟩
      rw [dgv_get]
      refine ⟨_, hD, ?_, fun b o z => ?_, ?_⟩
      · rw [List.length_map, List.length_map, List.length_take]
        exact small1000 (by omega)
      · rw [upd_ne (ne_of_none z nD)]; exact s3 _ _ z
      · rw [upd_same, tk, List.map_append, List.map_append]; rfl
    · obtain ⟨s3, hD⟩ := pp
      have e : l.take (sS l).cps.size = l := by
        have : (sS l).cps.size = l.length := by simp [sS]
        rw [this, List.take_length]
      rw [e] at hD
      have s13 := s1.trans s3
      have fl : ((l.map dgI).map V.int).all flatV = true := List.all_eq_true.mpr fun v hv => by
        obtain ⟨i, _, rfl⟩ := List.mem_map.mp hv
        rfl
      refine ⟨_, rfl, Nat.zero_le _, fun em nem => ?_⟩
      have s4 := same_new (o := HO.lst []) nem
      have hD4 := s4 _ _ hD
      have hem := upd_same (H := H3) (a := em) (o := HO.lst [])
      have q4 := fun H' (z : Same (upd H3 em (.lst [])) H') => q H' (s13.trans (s4.trans z))
      generalize upd H3 em (.lst []) = H5 at hD4 hem q4 ⊢
      have r5 := Same.refl H5
      have dD : Dp K H5 (.ref D) (.list ((l.map dgI).map PyData.int)) := .lst (SqL.of hD4) (dp_ints _)
      have ee : PyData.eqv (.list ((l.map dgI).map PyData.int)) (.list []) = decide (l = []) := by
        have z := eqv_intsL (l.map dgI) []
        rw [show (PyData.list (([] : List Int).map PyData.int)) = .list [] from rfl] at z
        rw [z]
        cases l <;> rfl
      refine ⟨.list ((l.map dgI).map PyData.int), .list [], dD, .lst (SqL.of hem) .nil, shaped_ints _, by decide +kernel, _, rfl, ?_⟩
      rw [ee]
      cases l with
      | nil => exact iteD (by rfl) (iteT ⟨1, rfl, q4 H5 r5⟩)
      | cons a r =>
        have ein : inV (V.int (-1)) ((((a :: r).map dgI)).map V.int) = !(a :: r).all isDg := by
          have key : ∀ l : List Nat, inV (V.int (-1)) ((l.map dgI).map V.int) = !l.all isDg := fun l => by
            induction l with
            | nil => rfl
            | cons c l ih =>
              unfold inV at ih ⊢
              rw [List.map_cons, List.map_cons, List.any_cons, ih, List.all_cons, Bool.not_and]
              congr 1
              have e2 : eqV (V.int (dgI c)) (V.int (-1)) = decide (dgI c = -1) := by
                show (dgI c == -1) = _
                rfl
              rw [e2, dgI_neg]
          exact key _
        refine iteE (by rfl) ⟨1, rfl, _, rfl, D, _, rfl, .inl (SqL.of hD4), rfl, fl, _, rfl, ?_⟩
        have ein2 : (if (false : Bool) = true then !inV (V.int (-1)) ((((a :: r).map dgI)).map V.int) else inV (V.int (-1)) ((((a :: r).map dgI)).map V.int)) = !(a :: r).all isDg := ein
        rw [ein2]
        have ln : ((((a :: r).map dgI)).map V.int).length = r.length + 1 := by rw [List.length_map, List.length_map, List.length_cons]
        have no : numW (a :: r) = none → numI (a :: r) = -1 := fun z => by unfold numI; rw [z]
        cases hd : (a :: r).all isDg with
        | false =>
          have nn : numW (a :: r) = none := by
            rw [List.all_eq_false] at hd
            obtain ⟨c, hc, hcd⟩ := hd
            cases hn : numW (a :: r) with
            | none => rfl
            | some n =>
              have z := numW_some (a :: r)
              rw [hn] at z
              have z2 : (a :: r).all isDg = true := by
                have z3 := z.symm
                simp only [Option.isSome_some, Bool.and_eq_true] at z3
                exact z3.2.1
              exact absurd (List.all_eq_true.mp z2 c hc) hcd
          have z := q4 H5 r5
          rw [no nn] at z
          exact iteD (by rfl) (iteT ⟨1, rfl, z⟩)
        | true =>
          refine iteE (by rfl) ⟨_, rfl, D, _, rfl, .inl (SqL.of hD4), _, _, rfl, rfl, _, rfl, ?_⟩
          rw [ln]
          have da := List.all_eq_true.mp hd
          have ea : dgI a = ((a - 48 : Nat) : Int) := dgI_is (da a List.mem_cons_self)
          cases r with
          | nil =>
            refine iteE (decide_eq_false (by show ¬ ((0 + 1 : Nat) : Int) > 2; decide)) ⟨_, rfl, D, _, rfl, .inl (SqL.of hD4), rfl, _, rfl, iteE (decide_eq_false fun z => by have := V.int.inj z; simp at this) (iteF ?_)⟩
            refine ⟨_, rfl, D, _, rfl, .inl (SqL.of hD4), rfl, _, rfl, iteD (decide_eq_true (by rfl)) ⟨_, rfl, D, _, 0, .int (dgI a), rfl, rfl, SqL.of hD4, atI_nat (j := 0) rfl, ?_⟩⟩
            have z := q4 H5 r5
            have en : numI [a] = dgI a := by
              rw [ea]
              show (match (if isDg a = true then some (a - 48) else none) with
                | some n => ((n : Nat) : Int)
                | none => -1) = _
              rw [if_pos (da a List.mem_cons_self)]
            rw [en] at z
            exact z
          | cons b r =>
            have eb : dgI b = ((b - 48 : Nat) : Int) := dgI_is (da b (List.mem_cons_of_mem _ List.mem_cons_self))
            cases r with
            | cons c r =>
              have z := q4 H5 r5
              rw [no (by rfl)] at z
              exact iteD (decide_eq_true (by show (((c :: r).length + 1 + 1 : Nat) : Int) > 2; rw [List.length_cons]; omega)) (iteT ⟨1, rfl, z⟩)
            | nil =>
              refine iteE (decide_eq_false (by show ¬ ((1 + 1 : Nat) : Int) > 2; decide)) ⟨_, rfl, D, _, rfl, .inl (SqL.of hD4), rfl, _, rfl, iteD (decide_eq_true (by rfl)) ?_⟩
              refine ⟨_, rfl, D, _, 0, .int (dgI a), rfl, rfl, SqL.of hD4, atI_nat (j := 0) rfl, rfl, _, rfl, ?_⟩
              have z := q4 H5 r5
              have a48 : 48 ≤ a := by have := of_decide_eq_true (da a List.mem_cons_self); omega
              by_cases c0 : a = 48
              · have en : numI [a, b] = -1 := no (by
                  show (if isDg a = true ∧ isDg b = true ∧ a ≠ 48 then some (10 * (a - 48) + (b - 48)) else none) = none
                  rw [if_neg fun y => y.2.2 c0])
                rw [en] at z
                exact iteD (by rw [ea, c0]; rfl) ⟨1, rfl, z⟩
              · refine iteE (decide_eq_false fun y => by have := V.int.inj y; rw [ea] at this; omega) ?_
                refine ⟨_, rfl, D, _, rfl, .inl (SqL.of hD4), rfl, _, rfl, iteE (decide_eq_false fun y => by have := V.int.inj y; simp at this) ?_⟩
                refine ⟨_, rfl, D, _, 0, .int (dgI a), rfl, rfl, SqL.of hD4, atI_nat (j := 0) rfl, _, _, rfl, rfl, .inl ⟨by decide, by decide⟩, ?_⟩
                refine ⟨_, rfl, D, _, 1, .int (dgI b), rfl, rfl, SqL.of hD4, atI_nat (j := 1) rfl, _, _, rfl, rfl, ?_⟩
                have en : numI [a, b] = 10 * dgI a + dgI b := by
                  rw [ea, eb]
                  show (match (if isDg a = true ∧ isDg b = true ∧ a ≠ 48 then some (10 * (a - 48) + (b - 48)) else none) with
                    | some n => ((n : Nat) : Int)
                    | none => -1) = _
                  rw [if_pos ⟨da a List.mem_cons_self, da b (List.mem_cons_of_mem _ List.mem_cons_self), c0⟩]
                  show (((10 * (a - 48) + (b - 48) : Nat)) : Int) = _
                  omega
                rw [en] at z
                exact z
end
end Kc

set_option Elab.async false
set_option linter.all false
set_option maxRecDepth 100000
set_option maxHeartbeats 4000000
/-! The texts of kinds. -/
namespace Kf
open PySem PySem.Spec PyProof.Rows L2 Kg Kd TL
def kindL : List Nat := [107, 105, 110, 100]
def closedL : List Nat := [99, 108, 111, 115, 101, 100]
def hollowL : List Nat := [104, 111, 108, 108, 111, 119]
def severalL : List Nat := [115, 101, 118, 101, 114, 97, 108]
def singleL : List Nat := [115, 105, 110, 103, 108, 101]
/-- the words of a kind -/
def kindW (es : List (List Nat)) (cl ho : List Nat) (k : Nat) : List (List Nat) := (kindL :: ((es[k]?).getD []).map fun e => [48 + e]) ++ (if k ∈ cl then [closedL] else []) ++ (if k ∈ ho then [hollowL] else [])
/-- its line, without the line feed -/
def kindN (es : List (List Nat)) (cl ho : List Nat) (k : Nat) : List Nat := joinL [32] (kindW es cl ho k)
def kindT (es : List (List Nat)) (cl ho : List Nat) (k : Nat) : List Nat := kindN es cl ho k ++ [10]
def firstL (sv : Bool) : List Nat := if sv = true then severalL else singleL
def kindsT (es : List (List Nat)) (cl ho : List Nat) (sv : Bool) : List Nat := firstL sv ++ [10] ++ (((List.range es.length).map fun k => kindT es cl ho k)).flatten
theorem word_ok {es : List (List Nat)} {cl ho : List Nat} {k : Nat} (lo : ∀ l, es[k]? = some l → ∀ x ∈ l, x < 10) : ∀ w ∈ kindW es cl ho k, w ≠ [] ∧ 32 ∉ w ∧ 35 ∉ w ∧ 10 ∉ w ∧ w.length ≤ 6 := by
  intro w hw
  unfold kindW at hw
  have lit : ∀ m : List Nat, (m = kindL ∨ m = closedL ∨ m = hollowL) → m ≠ [] ∧ 32 ∉ m ∧ 35 ∉ m ∧ 10 ∉ m ∧ m.length ≤ 6 := by
    rintro m (rfl | rfl | rfl) <;> decide
  rcases List.mem_append.mp hw with h | h
  · rcases List.mem_append.mp h with h | h
    · rcases List.mem_cons.mp h with h | h
      · exact lit w (.inl h)
      · obtain ⟨e, he, rfl⟩ := List.mem_map.mp h
        have e10 : e < 10 := by
          cases hk : es[k]? with
          | none => rw [hk] at he; exact absurd he (by simp)
          | some l => rw [hk] at he; exact lo l hk e he
        refine ⟨by simp, ?_, ?_, ?_, by simp⟩ <;> simp <;> omega
    · split at h
      · exact lit w (.inr (.inl (List.mem_singleton.mp h)))
      · cases h
  · split at h
    · exact lit w (.inr (.inr (List.mem_singleton.mp h)))
    · cases h
theorem kindW_len {es : List (List Nat)} {cl ho : List Nat} {k : Nat} (ll : ∀ l, es[k]? = some l → l.length ≤ 6) : (kindW es cl ho k).length ≤ 9 := by
  have h : ((es[k]?).getD []).length ≤ 6 := by
    cases hk : es[k]? with
    | none => simp
    | some l => exact ll l hk
  unfold kindW
  rw [List.length_append, List.length_append, List.length_cons, List.length_map]
  have h1 : (if k ∈ cl then [closedL] else []).length ≤ 1 := by split <;> simp
  have h2 : (if k ∈ ho then [hollowL] else []).length ≤ 1 := by split <;> simp
  omega
theorem sum_few {c : Nat} : ∀ {ws : List (List Nat)}, (∀ w ∈ ws, w.length ≤ c) → (ws.map List.length).sum ≤ ws.length * c
  | [], _ => by simp
  | w :: r, h => by
    have h1 := h w (List.mem_cons_self ..)
    have h2 := sum_few (ws := r) fun x hx => h x (List.mem_cons_of_mem _ hx)
    rw [List.map_cons, List.sum_cons, List.length_cons, Nat.add_mul]
    omega
theorem eld_lo {es : List (List Nat)} {sv : Bool} (E : Eld es sv) (k : Nat) : ∀ l, es[k]? = some l → ∀ x ∈ l, x < 10 := fun l hl x hx => by
  have h1 := E.low k l hl x hx
  have h2 := (List.getElem?_eq_some_iff.mp hl).1
  have := E.hi
  omega
theorem eld_len {es : List (List Nat)} {sv : Bool} (E : Eld es sv) (k : Nat) : ∀ l, es[k]? = some l → l.length ≤ 6 := fun l hl => by
  have h2 := (List.getElem?_eq_some_iff.mp hl).1
  have := E.hi
  have s : Som k l := ⟨E.asc k l hl, E.low k l hl⟩
  have := s.len
  omega
theorem kindN_len {es : List (List Nat)} {sv : Bool} (E : Eld es sv) (cl ho : List Nat) (k : Nat) : (kindN es cl ho k).length ≤ 63 := by
  have h1 := joinL_len [32] (kindW es cl ho k)
  have h2 := sum_few (c := 6) (ws := kindW es cl ho k) fun w hw => (word_ok (cl := cl) (ho := ho) (eld_lo E k) w hw).2.2.2.2
  have h3 := kindW_len (cl := cl) (ho := ho) (eld_len E k)
  unfold kindN
  simp only [List.length_singleton, Nat.mul_one] at h1
  omega
/-! ### what a line tells -/
def kpW (ws : List (List Nat)) : Option (List Nat × Bool × Bool) :=
  if ws.head? = some kindL then
    let r := ws.drop 1
    let h := decide (r.getLast? = some hollowL)
    let r1 := if h = true then r.dropLast else r
    let c := decide (r1.getLast? = some closedL)
    let r2 := if c = true then r1.dropLast else r1
    (numsW r2).map fun ns => (ns, c, h)
  else none
theorem last_digit {l : List Nat} {w : List Nat} (hw : 1 < w.length) : (l.map fun e => [48 + e]).getLast? ≠ some w := fun h => by
  obtain ⟨e, _, rfl⟩ := List.mem_map.mp (List.mem_of_getLast? h)
  simp at hw
theorem kpW_kind {es : List (List Nat)} {cl ho : List Nat} {k : Nat} {l : List Nat} (hl : es[k]? = some l) (lo : ∀ x ∈ l, x < 10) : kpW (kindW es cl ho k) = some (l, decide (k ∈ cl), decide (k ∈ ho)) := by
  unfold kindW
  rw [hl]
  have hn := numsW_ones l lo
  unfold kpW
  show _ = _
  rw [show ((some l).getD [] : List Nat) = l from rfl]
  have d1 := last_digit (l := l) (w := hollowL) (by decide)
  have d2 := last_digit (l := l) (w := closedL) (by decide)
  have n1 : closedL ≠ hollowL := by decide
  generalize (l.map fun e => [48 + e]) = m at hn d1 d2 ⊢
  by_cases c1 : k ∈ cl <;> by_cases c2 : k ∈ ho <;> simp [c1, c2, hn, d1, d2, n1]
/-! ### words as data -/
def chOk (w : List Nat) : Prop := ∀ c ∈ w, c < 1114112
theorem kindW_ch {es : List (List Nat)} {cl ho : List Nat} {k : Nat} (lo : ∀ l, es[k]? = some l → ∀ x ∈ l, x < 10) : ∀ w ∈ kindW es cl ho k, chOk w := by
  intro w hw
  unfold kindW at hw
  have lit : ∀ m : List Nat, (m = kindL ∨ m = closedL ∨ m = hollowL) → chOk m := by
    have aux : ∀ w : List Nat, (w.all fun c => decide (c < 1114112)) = true → chOk w := fun w h c hc => of_decide_eq_true (List.all_eq_true.mp h c hc)
    rintro m (rfl | rfl | rfl) <;> exact aux _ (by decide)
  rcases List.mem_append.mp hw with h | h
  · rcases List.mem_append.mp h with h | h
    · rcases List.mem_cons.mp h with h | h
      · exact lit w (.inl h)
      · obtain ⟨e, he, rfl⟩ := List.mem_map.mp h
        have e10 : e < 10 := by
          cases hk : es[k]? with
          | none => rw [hk] at he; exact absurd he (by simp)
          | some l => rw [hk] at he; exact lo l hk e he
        intro c hc
        rw [List.mem_singleton.mp hc]
        omega
    · split at h
      · exact lit w (.inr (.inl (List.mem_singleton.mp h)))
      · cases h
  · split at h
    · exact lit w (.inr (.inr (List.mem_singleton.mp h)))
    · cases h
def wsD (ws : List (List Nat)) : PyData := .list (ws.map fun w => .str (sS w))
theorem lay_ws : ∀ ws : List (List Nat), (∀ w ∈ ws, chOk w) → PyData.canLayAll0 (ws.map fun w => .str (sS w)) = true
  | [], _ => rfl
  | w :: r, h => by
    show (PyData.strOk (sS w) && PyData.canLayAll0 (r.map fun w => .str (sS w))) = true
    rw [lay_ws r fun x hx => h x (List.mem_cons_of_mem _ hx), Bool.and_true]
    show (sS w).cps.all (· < 0x110000) = true
    rw [← Array.all_toList]
    exact List.all_eq_true.mpr fun c hc => decide_eq_true (h w (List.mem_cons_self ..) c hc)
theorem dep_ws : ∀ ws : List (List Nat), PyData.depthAll (ws.map fun w => .str (sS w)) = 0
  | [] => rfl
  | w :: r => by
    show max 0 (PyData.depthAll (r.map fun w => .str (sS w))) = 0
    rw [dep_ws r]; rfl
theorem sh_ws {ws : List (List Nat)} (h : ∀ w ∈ ws, chOk w) : SeqAt.shaped (wsD ws) = true := by
  unfold SeqAt.shaped
  show (PyData.canLayAll0 _ && decide (PyData.depthAll _ + 1 ≤ 64)) = true
  rw [lay_ws ws h, dep_ws]; rfl
theorem eqv_wsA : ∀ a b : List (List Nat), PyData.eqvAll (a.map fun w => .str (sS w)) (b.map fun w => .str (sS w)) = decide (a = b)
  | [], [] => by simp [PyData.eqvAll]
  | [], _ :: _ => by simp [PyData.eqvAll]
  | _ :: _, [] => by simp [PyData.eqvAll]
  | x :: a, y :: b => by
    have z := eqv_wsA a b
    simp only [List.map_cons, PyData.eqvAll, z, PyData.eqv]
    by_cases h : x = y
    · subst h; simp
    · have h' : ¬ sS x = sS y := fun e => h (by have := congrArg tl e; exact this)
      simp [h, h']
theorem eqv_ws (a b : List (List Nat)) : PyData.eqv (wsD a) (wsD b) = decide (a = b) := by
  unfold wsD
  simp only [PyData.eqv]
  exact eqv_wsA a b
theorem dpAll_ws {K : PySem.W.Frag} {H : Hp} : ∀ ws : List (List Nat), DpAll K H (ws.map fun w => V.str (sS w)) (ws.map fun w => .str (sS w))
  | [] => .nil
  | w :: r => .cons (.str _) (dpAll_ws r)
theorem dp_ws {K : PySem.W.Frag} {H : Hp} {a : Addr} {ws : List (List Nat)} (h : H a = some (.lst (ws.map fun w => V.str (sS w)))) : Dp K H (.ref a) (wsD ws) := .lst (SqL.of h) (dpAll_ws ws)
/-! ### cuts from behind -/
theorem cut_last (xs : List V) : cutV xs (some (-1)) none = xs.drop (xs.length - 1) := by
  unfold cutV
  have e : HT.sIx xs.length 0 (some (-1)) = xs.length - 1 := by
    unfold HT.sIx
    simp
    omega
  rw [e, HT.sIx_none, List.take_of_length_le (by rw [List.length_drop]; omega)]
theorem cut_init (xs : List V) : cutV xs none (some (-1)) = xs.dropLast := by
  unfold cutV
  have e : HT.sIx xs.length xs.length (some (-1)) = xs.length - 1 := by
    unfold HT.sIx
    simp
    omega
  rw [e, HT.sIx_none, List.drop_zero, List.dropLast_eq_take, Nat.sub_zero]
theorem cut_tail (xs : List V) : cutV xs (some 1) none = xs.drop 1 := by
  unfold cutV
  have e : HT.sIx xs.length 0 (some 1) = min 1 xs.length := by
    have := HT.sIx_nat (n := xs.length) (d := 0) 1
    exact this
  rw [e, HT.sIx_none]
  cases xs with
  | nil => rfl
  | cons x r =>
    have : min 1 (x :: r).length = 1 := by simp
    rw [this, List.take_of_length_le (by rw [List.length_drop]; omega)]
end Kf

set_option Elab.async false
set_option linter.all false
set_option maxRecDepth 100000
set_option maxHeartbeats 4000000
/-! enumerate(l, start=1), l a list. -/
namespace Kr
open PySem PySem.Spec PyProof.Rows L2 Kg Kd
theorem draws_up {prog : Program} {w : World} {A : Around} {it : Addr} {fp : List Addr} {n : Nat} {P : Nat → Value → Prop} {St : Nat → Heap → Prop} (D : Draws prog w A it fp n P St) :
    Draws prog w A it fp (n + 1) (fun i v => ∃ j, i = j + 1 ∧ P j v) (fun i h => ∃ j, i = j + 1 ∧ St j h) where
  live := fun i h st => by obtain ⟨j, _, st⟩ := st; exact D.live j h st
  frame := fun i h h' st hk => by obtain ⟨j, e, st⟩ := st; exact ⟨j, e, D.frame j h h' st hk⟩
  item := fun i s Q E hi st hQ => by
    obtain ⟨j, e, st⟩ := st
    exact D.item j s Q E (by omega) st fun x h' tk px st' sb => hQ x h' tk ⟨j, e, px⟩ ⟨j + 1, by omega, st'⟩ sb
  done := fun s Q E st hE => by
    obtain ⟨j, e, st⟩ := st
    have e' : j = n := by omega
    subst e'
    exact D.done s Q E st hE
/-- the list at a, each item in a new pair with a number from 1 -/
def It1 (K : PySem.W.Frag) (a : Addr) : It where
  go := fun i H => ∃ (xs : List V) (x : V), SqL K H a xs ∧ xs[i]? = some x
  yld := fun i H v H' => ∃ T x, v = .ref T ∧ H T = none ∧ H' = upd H T (.tup [.int ((i + 1 : Nat) : Int), x]) ∧ ∀ xs, SqL K H a xs → xs[i]? = some x
  stop := fun i H => ∃ xs : List V, SqL K H a xs ∧ xs.length = i
theorem turn_enum1 {P : Program} {w : World} {K : PySem.W.Frag} {elts : List Expr} {kk : Nat} {tp : Pos} (a e it : Addr) (hae : a ≠ e) (hai : a ≠ it) (hei : e ≠ it) :
    Turn P w K (.Tuple elts kk tp) (It1 K a) [e, it] e (fun i h => (∃ old, IsEnum h e it ((i + 1 : Nat) : Int) old) ∧ h.IsListIter it a i) where
  mem := by simp
  obj := fun i h st b hb => by
    obtain ⟨⟨old, z1⟩, ⟨o, z2, z3, z4⟩⟩ := st
    cases hb with
    | head => exact ⟨_, z1, fun v q => nomatch q⟩
    | tail _ hb =>
      rw [List.mem_singleton.mp hb]
      exact ⟨o, z2, fun v q => by rw [z4] at q; exact nomatch q⟩
  keep := fun i h h' st k => by
    obtain ⟨⟨old, z1⟩, z2⟩ := st
    exact ⟨⟨old, k e (by simp) _ z1⟩, z2.at fun o q => k it (by simp) o q⟩
  item := by
    intro X e1 e2 e3 hc i pins s σ H E I hf st hg
    subst e1 e2 e3
    obtain ⟨⟨old, z1⟩, z2⟩ := st
    obtain ⟨xs, x, hq, hx⟩ := hg
    obtain ⟨its, rv, p, _⟩ := I.list hq
    obtain ⟨u, hu, ru⟩ := rv.get hx
    have lt : i < its.toArray.size := by
      rw [List.size_toArray, ← rv.length]
      exact (List.getElem?_eq_some_iff.mp hx).1
    have le : e < s.heap.objs.size := Heap.lt_size z1
    have li : it < s.heap.objs.size := by
      obtain ⟨_, z, _⟩ := z2
      exact Heap.lt_size z
    have D := draws_up (Draws.list (prog := X.prog) (w := X.w) (A := X.A.in1) (I.ok.hd hc) it a hai its.toArray)
    refine wpAny_pyNext_enum_itemD D z1 ⟨i, rfl, z2, p.isList⟩ (Nat.succ_lt_succ lt) hei (by simp [hei, hae.symm]) fun x' h' tk px out st' new sz k => ?_
    obtain ⟨j, ej, px⟩ := px
    obtain ⟨j2, ej2, st'⟩ := st'
    obtain rfl : j = i := by omega
    obtain rfl : j2 = j + 1 := by omega
    have ex : x' = u := by
      have q : its.toArray[j]? = some u := by simpa using hu
      exact Option.some.inj (px.symm.trans q)
    subst ex
    refine ⟨_, rfl, wpAny_letOwnedTupleGo_enum (s := { s with heap := h', toks := tk + 1 }) out fun h'' z3 sb => ?_⟩
    have new2 : h''.get? s.heap.objs.size = some { cls := .type "tuple", data := .seq #[.int ((j + 1 : Nat) : Int) tk, x'] } := (sb.2 _ (Nat.ne_of_gt le)).trans new
    have J : Inv X pins σ (upd H s.heap.objs.size (.tup [.int ((j + 1 : Nat) : Int), x])) { s with heap := h'', toks := tk + 1 } :=
      I.turnedNew (ch := [e, it]) (fun b ob hb q => (sb.2 b (fun z => hb (by simp [z]))).trans (k b ob (fun z => hb (by simp [z])) (fun z => hb (by simp [z])) q)) hf (Nat.le_refl _)
        ⟨(show 2 ≤ sizeLine by decide), [.int ((j + 1 : Nat) : Int) tk, x'], .cons ⟨_, rfl⟩ (.cons ru .nil), ⟨_, new2, rfl, _, rfl⟩⟩
    refine ⟨.ref s.heap.objs.size, _, J, rfl, ⟨_, x, rfl, I.hok.fresh (Nat.le_refl _), rfl, fun ys hy => by rw [I.list_inj hy hq]; exact hx⟩, ⟨⟨x', ?_⟩, st'.1.at fun o q => (sb.2 it hei.symm).trans q⟩, fun b hb => ?_⟩
    · rw [show ((j + 1 + 1 : Nat) : Int) = ((j + 1 : Nat) : Int) + 1 by omega]; exact z3
    · have lb : b < s.heap.objs.size := by
        cases hb with
        | head => exact le
        | tail _ hb => rw [List.mem_singleton.mp hb]; exact li
      rw [upd_ne (Nat.ne_of_lt lb)]
      exact (hf b hb).1
  done := by
    intro X e1 e2 e3 hc i pins s σ H E I hf st hg
    subst e1 e2 e3
    obtain ⟨⟨old, z1⟩, z2⟩ := st
    obtain ⟨xs, hq, hx⟩ := hg
    obtain ⟨its, rv, p, _⟩ := I.list hq
    have D := draws_up (Draws.list (prog := X.prog) (w := X.w) (A := X.A.in1) (I.ok.hd hc) it a hai its.toArray)
    have ei : i = its.toArray.size := by rw [List.size_toArray, ← rv.length, hx]
    rw [ei] at z2
    obtain ⟨f0, f1, f2, f3, f4, f5⟩ := hf it (by simp)
    exact wpAny_pyNext_enum_endD D z1 ⟨_, rfl, z2, p.isList⟩ fun h' eb => ⟨rfl, I.turned (t' := s.toks) (fun b o hb q => eb b o hb q) f0 f1 f3 f4 f5⟩
  self := fun A i s Q E st h => by
    obtain ⟨⟨_, z⟩, _⟩ := st
    exact wpAny_pyIter_enum z h
theorem callWith_typeK {M : Model} {A : Around} {E : Value → Shared → Prop} {s : Shared} {env : Env} {pos : Pos} {T : String} {e : Expr} {rest : List Expr} {kws : List Keyword} {Q : Value → Shared → Prop}
    (h : wpAny M A (spliced (backTo pos (starEach (e :: rest) env))) (fun vs s₁ => wpAny M A (evalAll ((backToKw pos (keywordEach kws env)).map (·.2)))
      (fun kvs s₂ => wpAny M A (call (.type T) vs (((backToKw pos (keywordEach kws env)).filterMap (·.1)).zip kvs)) Q E s₂) E s₁) E s)
    (he : starEach (e :: rest) env = (false, eval e env) :: starEach rest env := by rfl)
    (hplain : (backTo pos (starEach (e :: rest) env)).any (·.1) = false := by rfl)
    (hall : (backToKw pos (keywordEach kws env)).all (·.1.isSome) = true := by rfl)
    (hkw : (backToKw pos (keywordEach kws env)).any (·.1.isNone) = false := by rfl) :
    wpAny M A (callWith pos (.type T) [] (backTo pos (starEach (e :: rest) env)) (backToKw pos (keywordEach kws env))) Q E s := by
  unfold callWith
  refine wpAny_bind (wpAny_holding (wpAny_mono (PyProof.Rows.evalArgs_kw2 (f := .type T) (Q := fun a s₁ => wpAny M A (call (.type T) ([] ++ a.pos) a.kw) Q E s₁) hall h he) (fun a s₁ h₁ => wpAny_bind (wpAny_standAt ?_)) fun _ _ x => x))
  simp only [hplain, hkw, Bool.or_false]
  refine wpAny_bind (wpAny_pure ?_)
  exact wpAny_bind (wpAny_mono h₁ (fun r s₂ hr => wpAny_bind (wpAny_holding (wpAny_point (wpAny_pure hr)))) fun _ _ x => x)
def iEnum1 (K : PySem.W.Frag) (ta tk : TA) : TI := fun σ H R => ta σ H fun vs H1 => tk σ H1 fun zs H2 => ∃ a xs, vs = [.ref a] ∧ zs = [.int 1] ∧ SqL K H2 a xs ∧ R (It1 K a) H2
theorem pi_enum1 {X : Cx} {e : Expr} {ta tk : TA} {p pos tp : Pos} {elts : List Expr} {kk : Nat} {kws : List Keyword} (hg : Gl X "enumerate") (hm : X.mg "enumerate" = none) (ha : PA X [e] ta) (hk : PK X kws tk) (hs : starEach [e] X.env = (false, eval e X.env) :: starEach [] X.env := by rfl)
    (hpl : (backTo pos (starEach [e] X.env)).any (·.1) = false := by rfl) (hall : (backToKw pos (keywordEach kws X.env)).all (·.1.isSome) = true := by rfl) (hnone : (backToKw pos (keywordEach kws X.env)).any (·.1.isNone) = false := by rfl)
    (hks : (backToKw pos (keywordEach kws X.env)).filterMap (·.1) = [Str.ofString "start"] := by rfl) :
    PI X (.Tuple elts kk tp) (.Call (.Name "enumerate" p) [e] kws pos) (iEnum1 X.K ta tk) := by
  refine ⟨fun pins s σ H R I h => wpAny_Call_Name_kw (ld_blt I hg hm boot_enumerate (callWith_typeK (thn (ha.run pos pins s σ H _ I h) fun us s0 ⟨vs, H0, I0, r0, q0⟩ => thn (hk.run pos pins s0 σ H0 _ I0 q0) fun ws s1 ⟨zs, H1, I1, r1, a, xs, ex, ez, hq, q⟩ => ?_) hs hpl hall hnone))⟩
  subst ex ez
  obtain ⟨u, rfl, ru⟩ := vals1 r0
  cases ru
  obtain ⟨u1, rfl, t1, rfl⟩ := vals1 r1
  rw [hks]
  obtain ⟨its, rv, p', _⟩ := I1.list hq
  have la : a < s1.heap.objs.size := by
    obtain ⟨_, z, _⟩ := p'.isList
    exact Heap.lt_size z
  refine enum_begins_start (begins_list a its.toArray) p'.isList (by decide) (by decide) fun h' he hi sz k => wpAny_pyIter_enum he ?_
  refine ⟨s1.heap.objs.size + 1, [s1.heap.objs.size + 1, s1.heap.objs.size], _, _, H1, rfl, I1.kept (t' := s1.toks) k, turn_enum1 a (s1.heap.objs.size + 1) s1.heap.objs.size (Nat.ne_of_lt (Nat.lt_succ_of_lt la)) (Nat.ne_of_lt la) (Nat.succ_ne_self _), ⟨⟨.none, he⟩, ⟨_, hi, rfl, rfl⟩⟩, fun b hb => ?_, q⟩
  have ge : s1.heap.objs.size ≤ b := by
    cases hb with
    | head => exact Nat.le_succ _
    | tail _ hb => rw [List.mem_singleton.mp hb]; exact Nat.le_refl _
  exact I1.fpOk ge (I1.hok.fresh ge)
theorem walk_enum1 {K : PySem.W.Frag} {a : Addr} {xs : List V} : Walk (It1 K a) xs.length (fun H => SqL K H a xs) (YPair (fun i => some (.int ((i + 1 : Nat) : Int))) (fun i => xs[i]?)) := by
  refine ⟨fun i _ hi z => ⟨xs, xs[i], z, by simp [hi]⟩, fun _ z => ⟨xs, z, rfl⟩, fun i H v H' _ z y => ?_⟩
  obtain ⟨T, x, g1, g2, g3, g4⟩ := y
  exact ⟨T, .int ((i + 1 : Nat) : Int), x, g1, g2, g3, rfl, g4 xs z⟩
end Kr

set_option Elab.async false
set_option linter.all false
set_option maxRecDepth 100000
set_option maxHeartbeats 8000000
/-! lines_with_words -/
namespace Kc
open PySem PySem.Spec PyProof.Rows L2 Kg Kd Kr Kf Kl TL
abbrev sLww : Stmt := topS 23
abbrev nLww : List Str := ["text", "found", "number", "line", "words"]
theorem scLww : FnScope nLww ["text"] (defScope sLww) := ⟨rfl, rfl, rfl, by decide +kernel, rfl, by decide +kernel, by decide +kernel⟩
/-- a line with its number -/
def LnAt (F : Addr) (H : Hp) (v : V) (p : Nat × List (List Nat)) : Prop := ∃ t w, v = .ref t ∧ w ≠ F ∧ H t = some (.tup [iV p.1, .ref w]) ∧ H w = some (.lst (p.2.map wV))
def LnP (H : Hp) (v : V) (p : Nat × List (List Nat)) : Prop := ∃ t w, v = .ref t ∧ H t = some (.tup [iV p.1, .ref w]) ∧ H w = some (.lst (p.2.map wV))
def spLww : Sp := fun vs H Q _ => ∃ (l : List Nat), vs = [.str (sS l)] ∧ (l.length ≤ 5000 ∧ ∀ p ∈ cutA 10 [] l, p.length ≤ 800) ∧ ∀ H' a xs, Same H H' → H' a = some (.lst xs) → Paired (LnP H') xs (lwL l) → Q (.ref a) H'
def lnF (p : List Nat × Nat) : Nat × List (List Nat) := (p.2 + 1, wordsL (remL p.1))
def lwN (xs : List (List Nat)) (i : Nat) : List (Nat × List (List Nat)) := ((xs.zipIdx.take i).map lnF).filter fun p => decide (0 < p.2.length)
theorem lwN_all (l : List Nat) : lwN (cutA 10 [] l) (cutA 10 [] l).length = lwL l := by
  unfold lwN lwL
  rw [List.take_of_length_le (by rw [List.length_zipIdx]; exact Nat.le_refl _)]; rfl
theorem lwN_next {xs : List (List Nat)} {i : Nat} {x : List Nat} (h : xs[i]? = some x) : lwN xs (i + 1) = lwN xs i ++ if 0 < (wordsL (remL x)).length then [(i + 1, wordsL (remL x))] else [] := by
  unfold lwN
  have e : xs.zipIdx[i]? = some (x, i) := by rw [List.getElem?_zipIdx, h]; simp
  rw [List.take_add_one, e]
  show (((xs.zipIdx.take i) ++ [(x, i)]).map lnF).filter _ = _
  rw [List.map_append, List.filter_append]
  congr 1
  show (([lnF (x, i)] : List (Nat × List (List Nat))).filter _) = _
  unfold lnF
  by_cases c : 0 < (wordsL (remL x)).length
  · rw [if_pos c, List.filter_cons_of_pos (by simpa using c)]; rfl
  · rw [if_neg c, List.filter_cons_of_neg (by simpa using c)]; rfl
theorem paired_app {α β : Type} {G : α → β → Prop} : ∀ {as cs : List α} {bs ds : List β}, Paired G as bs → Paired G cs ds → Paired G (as ++ cs) (bs ++ ds)
  | _, _, _, _, .nil, h => h
  | _, _, _, _, .cons a r, h => .cons a (paired_app r h)
section
variable {P : Program} {w : World} {K : PySem.W.Frag} {mg : Str → Option Value} {base : Heap} {f : Addr} {fd : FuncData} {k : Nat}
theorem ok_lww (F : Fun K "lines_with_words" "lines_with_words" sLww f fd) (B : Bl mg) (M : Bm mg) (GW : Cal P w K mg base "words_of" 1 ["line"] spWof) : FnOk P w K mg base CX0 2 f fd ["text"] spLww := by
  refine F.ok scLww (fun vs H Q E h => ?_) (fun cdv A outer s H vs Q E hr h => ?_)
  · obtain ⟨l, rfl, _⟩ := h
    rfl
  · obtain ⟨l, rfl, ⟨hl, hpc⟩, q⟩ := h
    refine ⟨_, (pss_cons (ps_set (i := 1) scLww.nd rfl (.inl rfl) (pe_lst pa_nil))
      (pss_cons (ps_for PassesOwn.never rfl (pi_enum1 (by rfl) M.enum (pa_cons (pe_split (pv 0) pe_str) pa_nil) (pk_cons pe_int pk_nil)) (pg_tup rfl (pgs_cons (pg_name (i := 2) scLww.nd rfl (.inl rfl)) (pgs_cons (pg_name (i := 3) scLww.nd rfl (.inl rfl)) pgs_nil)))
        (pss_cons (ps_set (i := 4) scLww.nd rfl (.inl rfl) (pe_cal GW hr (by rfl) (pa_cons (pe_ix ix_tup (pe_partition (pv 3) pe_str) pe_int (fun _ _ => rfl)) pa_nil)))
      (pss_one (ps_if (pt_cmpR op_gt (pe_callB call_len_seq (by rfl) B.len PySem.boot_len (pa_cons (pv 4) pa_nil)) pe_int (nomark _)) (pss_one (ps_expr (pe_bm PySem.F.plainAttrs_list PySem.F.slot_list_append PySem.F.type_list_append mt_append (pv 1) (pa_cons (pe_tup (pa_cons (pv 2) (pa_cons (pv 4) pa_nil))) pa_nil)))) pss_nil))))
      (pss_one (ps_ret (pv 1))))), ?_⟩
    have bg : 6000 ≤ sizeLine := by rw [sizeLine_eq]; decide
    have cN : Str.ofString "\n" = sS [10] := eq_sS (by decide +kernel)
    have cH : Str.ofString "#" = sS [35] := eq_sS (by decide +kernel)
    refine ⟨(show 0 ≤ sizeLine by decide), fun Fa nF => ?_⟩
    have s0 := same_new (o := HO.lst []) nF
    refine ⟨_, rfl, ⟨_, rfl⟩, sS l, _, rfl, rfl, by decide, by rw [sS_len]; omega, fun p np => ?_⟩
    rw [cN, split_sS l (by decide)]
    have s1 := same_new (o := HO.lst (((cutA 10 [] l).map sS).map V.str)) np
    have hp : upd (upd H Fa (HO.lst [])) p (HO.lst (((cutA 10 [] l).map sS).map V.str)) p = some (.lst ((cutA 10 [] l).map wV)) := by rw [upd_same, List.map_map]; rfl
    have hF : upd (upd H Fa (HO.lst [])) p (HO.lst (((cutA 10 [] l).map sS).map V.str)) Fa = some (.lst []) := s1 _ _ upd_same
    have npF : p ≠ Fa := fun e => by rw [e, upd_same] at np; cases np
    generalize upd (upd H Fa (HO.lst [])) p (HO.lst (((cutA 10 [] l).map sS).map V.str)) = H1 at s1 hp hF
    have cl := cutA_len 10 l []
    have xl : ((cutA 10 [] l).map wV).length = (cutA 10 [] l).length := List.length_map ..
    refine ⟨p, _, rfl, rfl, SqL.of hp, for_it (walk_enum1 (K := K) (a := p) (xs := (cutA 10 [] l).map wV)) (fun i σ H3 => ∃ (y2 y3 y4 : Option V) (acc : List V), σ = [some (.str (sS l)), some (.ref Fa), y2, y3, y4] ∧ Same H H3 ∧ H3 p = some (.lst ((cutA 10 [] l).map wV)) ∧ H3 Fa = some (.lst acc) ∧ Paired (LnAt Fa H3) acc (lwN (cutA 10 [] l) i) ∧ acc.length ≤ i)
      ⟨none, none, none, [], rfl, s0.trans s1, hp, hF, .nil, Nat.le_refl _⟩ (fun i σ H3 _ pp => by obtain ⟨_, _, _, _, _, _, pp, _⟩ := pp; exact SqL.of pp) (fun i x σ H3 H4 hi pp yy => ?_) (fun σ H3 pp => ?_)⟩
    · obtain ⟨y2, y3, y4, acc, rfl, s3, hp3, hF3, pr, al⟩ := pp
      obtain ⟨T, v1, v2, rfl, nT, rfl, f1, f2⟩ := yy
      have f1' : v1 = .int ((i + 1 : Nat) : Int) := (Option.some.inj f1).symm
      subst f1'
      obtain ⟨xi, hxi, rfl⟩ := map_get f2
      have s4 := same_new (o := HO.tup [.int ((i + 1 : Nat) : Int), wV xi]) nT
      have xle := hpc xi (List.mem_of_getElem? hxi)
      have hi' : i < l.length + 1 := by rw [List.length_map] at hi; omega
      have rle := remL_len xi
      refine ⟨T, _, rfl, SqT.of upd_same, rfl, _, _, rfl, _, _, rfl, rfl, ?_⟩
      refine ⟨_, rfl, ⟨_, rfl⟩, sS xi, _, rfl, rfl, by decide, by rw [sS_len]; omega, fun tp ntp => ?_⟩
      rw [cH, part_rem]
      have s5 := same_new (o := HO.tup [V.str (sS (remL xi)), .str (Txt.partition (sS xi) (sS [35])).2.1, .str (Txt.partition (sS xi) (sS [35])).2.2]) ntp
      refine ⟨tp, _, 0, wV (remL xi), rfl, rfl, SqT.of upd_same, atI_nat (j := 0) rfl, remL xi, rfl, by omega, fun H6 wa s6 nwa hwa => ?_⟩
      have s36 := s4.trans (s5.trans s6)
      have hF6 := s36 _ _ hF3
      have wl := wordsL_len (remL xi)
      refine ⟨_, rfl, wa, _, rfl, .inl (SqL.of hwa), _, _, rfl, rfl, _, rfl, ?_⟩
      have nwF : wa ≠ Fa := fun e => by
        rw [e] at nwa
        rw [(s4.trans s5) _ _ hF3] at nwa
        cases nwa
      have pr6 : Paired (LnAt Fa H6) acc (lwN (cutA 10 [] l) i) := Paired.mapP pr fun v pp h => by
        obtain ⟨t, w', e1, e2, e3, e4⟩ := h
        exact ⟨t, w', e1, e2, s36 _ _ e3, s36 _ _ e4⟩
      rw [List.length_map]
      by_cases c : 0 < (wordsL (remL xi)).length
      · refine iteD (decide_eq_true (by omega)) ⟨_, rfl, .inl ⟨rfl, _, SqL.of hF6⟩, _, rfl, _, rfl, (show 2 ≤ sizeLine by decide), fun t nt => ?_⟩
        have s7 := same_new (o := HO.tup [V.int ((i + 1 : Nat) : Int), V.ref wa]) nt
        have hF7 := s7 _ _ hF6
        refine ⟨Fa, acc, _, rfl, rfl, hF7, by omega, ?_⟩
        have ntF : t ≠ Fa := fun e => by rw [e, hF6] at nt; cases nt
        refine ⟨_, _, _, acc ++ [.ref t], rfl, fun b o z => ?_, ?_, upd_same, ?_, by simp; omega⟩
        · rw [upd_ne (ne_of_none z nF)]
          exact s7 _ _ (s36 _ _ (s3 _ _ z))
        · rw [upd_ne npF]
          exact s7 _ _ (s36 _ _ hp3)
        · rw [lwN_next hxi, if_pos c]
          refine paired_app (Paired.mapP pr6 fun v pp h => ?_) (.cons ?_ .nil)
          · obtain ⟨t', w', e1, e2, e3, e4⟩ := h
            refine ⟨t', w', e1, e2, ?_, ?_⟩
            · rw [upd_ne (ne_of (s7 _ _ e3) hF7 (by intro y; cases y))]; exact s7 _ _ e3
            · rw [upd_ne e2]; exact s7 _ _ e4
          · refine ⟨t, wa, rfl, nwF, ?_, ?_⟩
            · rw [upd_ne ntF]; exact upd_same
            · rw [upd_ne nwF]; exact s7 _ _ hwa
      · refine iteE (decide_eq_false (by omega)) ⟨_, _, _, acc, rfl, s3.trans s36, s36 _ _ hp3, hF6, ?_, by omega⟩
        rw [lwN_next hxi, if_neg c, List.append_nil]
        exact pr6
    · obtain ⟨y2, y3, y4, acc, rfl, s3, hp3, hF3, pr, al⟩ := pp
      rw [xl, lwN_all] at pr
      exact ⟨_, rfl, q H3 Fa acc s3 hF3 (Paired.mapP pr fun v pp h => by obtain ⟨t, w', e1, e2, e3, e4⟩ := h; exact ⟨t, w', e1, e3, e4⟩)⟩
end
end Kc

set_option Elab.async false
set_option linter.all false
set_option maxRecDepth 100000
set_option maxHeartbeats 4000000
namespace Kc
open PySem PySem.Spec PyProof.Rows L2 Kg Kd Kr
abbrev sIdx : Stmt := topS 6
abbrev sAsc : Stmt := topS 7
abbrev sEld : Stmt := topS 16
abbrev sWrE : Stmt := topS 17
abbrev sWrP : Stmt := topS 18
abbrev sTab : Stmt := topS 19
theorem scIdx : FnScope ["value", "limit"] ["value", "limit"] (defScope sIdx) := ⟨rfl, rfl, rfl, by decide +kernel, rfl, by decide +kernel, by decide +kernel⟩
theorem scAsc : FnScope ["value", "limit", "least", "item"] ["value", "limit"] (defScope sAsc) := ⟨rfl, rfl, rfl, by decide +kernel, rfl, by decide +kernel, by decide +kernel⟩
theorem scEld : FnScope ["value", "kind", "several"] ["value", "kind", "several"] (defScope sEld) := ⟨rfl, rfl, rfl, by decide +kernel, rfl, by decide +kernel, by decide +kernel⟩
theorem scWrE : FnScope ["elders", "several", "kind", "value"] ["elders", "several"] (defScope sWrE) := ⟨rfl, rfl, rfl, by decide +kernel, rfl, by decide +kernel, by decide +kernel⟩
theorem scWrP : FnScope ["elders", "closed", "hollow", "several", "kind"] ["elders", "closed", "hollow", "several"] (defScope sWrP) := ⟨rfl, rfl, rfl, by decide +kernel, rfl, by decide +kernel, by decide +kernel⟩
/-! ### mirrors -/
def idxB (d : PyData) (m : Int) : Bool := match d with
  | .int i => decide (0 ≤ i ∧ i < m)
  | _ => false
theorem idxB_non {d : PyData} {m : Int} (h : isNum d = false) : idxB d m = false := by
  cases d with
  | int i => exact nomatch h
  | _ => rfl
def asc (m : Int) : Int → List PyData → Bool
  | _, [] => true
  | l, .int i :: ds => if i < l ∨ m ≤ i then false else asc m (i + 1) ds
  | _, _ :: _ => false
def ascD (d : PyData) (m : Int) : Bool := match d with
  | .tuple ds => asc m 0 ds
  | _ => false
def lenD : PyData → Nat
  | .tuple ds => ds.length
  | _ => 0
def eldB (d : PyData) (k : Int) (sv : Bool) : Bool := ascD d k && (sv || decide (lenD d ≤ 1))
/-- sv: several is not False -/
def wrE (sv : Bool) : Nat → List PyData → Option Nat
  | _, [] => none
  | k, d :: ds => if eldB d k sv then wrE sv (k + 1) ds else some k
/-! ### promises -/
def spIdx : Sp := fun vs H Q _ => ∃ (v : V) (d : PyData) (m : Int), vs = [v, .int m] ∧ Da Kd.nil H v d ∧ Q (.bl (idxB d m)) H
def spAsc : Sp := fun vs H Q _ => ∃ (v : V) (d : PyData) (m : Int), vs = [v, .int m] ∧ Da Kd.nil H v d ∧ Q (.bl (ascD d m)) H
def spEld : Sp := fun vs H Q _ => ∃ (v : V) (d : PyData) (k : Int) (s : V), vs = [v, .int k, s] ∧ Da Kd.nil H v d ∧ Q (.bl (eldB d k (!decide (s = .bl false)))) H
def opN : Option Nat → V
  | none => .non
  | some k => .int (k : Nat)
def spWrE : Sp := fun vs H Q _ => ∃ (v : V) (ds : List PyData) (s : V), vs = [v, s] ∧ Da Kd.nil H v (.tuple ds) ∧ ∀ H', Same H H' → Q (opN (wrE (!decide (s = .bl false)) 0 ds)) H'
section
variable {P : Program} {w : World} {K : PySem.W.Frag} {mg : Str → Option Value} {base : Heap} {f : Addr} {fd : FuncData} {k : Nat}
theorem ok_idx {fN : Addr} {dN : FuncData} (F : Fun K "is_index" "is_index" sIdx f fd) (B : Bl mg) (FN : Fun K "is_number" "is_number" sNum fN dN) (bN : Binds K dN ["value"] []) (gN : mg "is_number" = some (.ref fN)) : FnOk P w K mg base CX0 (k + 2) f fd ["value", "limit"] spIdx := by
  have GN : FnOk P w K mg base CX0 (k + 1) fN dN ["value"] spNum := ok_num FN B
  refine F.ok scIdx (fun vs H Q E h => ?_) (fun cdv A outer s H vs Q E hr h => ?_)
  · obtain ⟨v, d, m, rfl, _⟩ := h
    rfl
  · obtain ⟨v, d, m, rfl, hd, q⟩ := h
    refine ⟨_, pss_one (ps_ret (pe_and (pe_call GN hr (by rfl) gN FN.kp bN .nil pass0 (pa_cons (pv 0) pa_nil)) (pe_one (pe_chain op_le op_lt pe_int (pv 0) (pv 1))))), ?_⟩
    refine ⟨_, rfl, v, d, rfl, hd, _, rfl, ?_⟩
    cases hi : isNum d with
    | false =>
      rw [idxB_non hi] at q
      exact iteF q
    | true =>
      cases d with
      | int i =>
        cases hd
        refine iteT ⟨_, rfl, 0, i, rfl, rfl, _, rfl, ?_⟩
        by_cases c1 : 0 ≤ i
        · rw [decide_eq_true c1]
          refine iteT ⟨_, rfl, i, m, rfl, rfl, ?_⟩
          have e : idxB (.int i) m = decide (i < m) := by show decide (0 ≤ i ∧ i < m) = _; simp [c1]
          rw [e] at q; exact q
        · rw [decide_eq_false c1]
          have e : idxB (.int i) m = false := by show decide (0 ≤ i ∧ i < m) = _; simp [c1]
          rw [e] at q; exact iteF q
      | _ => exact nomatch hi
theorem ok_asc {fI : Addr} {dI : FuncData} (F : Fun K "is_ascending" "is_ascending" sAsc f fd) (B : Bl mg) (GI : FnOk P w K mg base CX0 (k + 2) fI dI ["value", "limit"] spIdx) (kI : PySem.W.keepIn K (.ref fI) = true) (bI : Binds K dI ["value", "limit"] []) (gI : mg "is_index" = some (.ref fI)) : FnOk P w K mg base CX0 (k + 3) f fd ["value", "limit"] spAsc := by
  refine F.ok scAsc (fun vs H Q E h => ?_) (fun cdv A outer s H vs Q E hr h => ?_)
  · obtain ⟨v, d, m, rfl, _⟩ := h
    rfl
  · obtain ⟨v, d, m, rfl, hd, q⟩ := h
    refine ⟨_, pss_cons (ps_if (pt_not (pt_val (pe_callB call_isi (by rfl) B.isi boot_isinstance (pa_cons (pv 0) (pa_cons (pe_bltn (v := .ty "tuple") (by rfl) B.tuple PyProof.Rows.boot_tuple rfl) pa_nil))))) (pss_one (ps_ret pe_bl)) pss_nil)
      (pss_cons (ps_set (i := 2) scAsc.nd rfl (.inl rfl) pe_int)
      (pss_cons (ps_for PassesOwn.never rfl (pi_tup (pv 0)) (pg_name (i := 3) scAsc.nd rfl (.inl rfl))
        (pss_cons (ps_if (PW.pt (pw_or (pt_not (pt_val (pe_call GI hr (by rfl) gI kI bI .nil pass0 (pa_cons (pv 3) (pa_cons (pv 1) pa_nil))))) (pw_or1 (pt_cmpR op_lt (pv 3) (pv 2) (nomark _))))) (pss_one (ps_ret pe_bl)) pss_nil)
        (pss_one (ps_set (i := 2) scAsc.nd rfl (.inl rfl) (pe_op op_add (pv 3) pe_int)))))
      (pss_one (ps_ret pe_bl)))), ?_⟩
    refine ⟨_, rfl, _, _, _, _, isTup d, rfl, .ty _, hd.ty, kit_ty (kt_tup d), _, rfl, ?_⟩
    by_cases hb : isTup d = true
    · cases d with
      | tuple ds =>
        refine iteF ?_
        cases hd with
        | @tup a xs _ na ha hal hA =>
          refine ⟨_, rfl, a, rfl, ⟨_, SqT.of ha⟩, for_tup (K := K) (a := a) (xs := xs) (fun i σ H1 => ∃ (l : Int) (y3 : Option V), σ = [some (.ref a), some (.int m), some (.int l), y3] ∧ H1 = H ∧ 0 ≤ l ∧ asc m 0 ds = asc m l (ds.drop i))
            ⟨0, none, rfl, rfl, Int.le_refl 0, rfl⟩ (fun i σ H1 _ p => by obtain ⟨_, _, _, rfl, _⟩ := p; exact SqT.of ha) (fun i x σ H1 hx p => ?_) (fun σ H1 p => ?_)⟩
          · obtain ⟨l, y3, rfl, rfl, l0, e⟩ := p
            obtain ⟨dx, g1, g2⟩ := hA.get hx
            have hdrop : ds.drop i = dx :: ds.drop (i + 1) := by
              obtain ⟨z1, z2⟩ := List.getElem?_eq_some_iff.mp g1
              rw [List.drop_eq_getElem_cons z1, z2]
            rw [hdrop] at e
            refine ⟨_, rfl, _, rfl, x, dx, m, rfl, g2, _, rfl, ?_⟩
            have out : isNum dx = false → asc m l (dx :: ds.drop (i + 1)) = false := by
              intro z
              cases dx <;> first | rfl | exact nomatch z
            cases g2 with
            | int z =>
              by_cases c0 : 0 ≤ z ∧ z < m
              · refine iteE (by show (!decide (0 ≤ z ∧ z < m)) = false; rw [decide_eq_true c0]; rfl) ⟨_, rfl, _, rfl, z, l, rfl, rfl, _, rfl, ?_⟩
                by_cases c1 : z < l
                · rw [decide_eq_true c1]
                  refine iteT ?_
                  have e2 : ascD (.tuple ds) m = false := by
                    show asc m 0 ds = false
                    rw [e]; show (if z < l ∨ m ≤ z then false else _) = false
                    rw [if_pos (.inl c1)]
                  rw [e2] at q; exact q
                · rw [decide_eq_false c1]
                  refine iteF ⟨_, rfl, z, 1, rfl, rfl, ?_⟩
                  refine ⟨z + 1, _, rfl, rfl, by omega, ?_⟩
                  rw [e]; show (if z < l ∨ m ≤ z then false else _) = _
                  rw [if_neg (by omega)]
              · refine iteD (by show (!decide (0 ≤ z ∧ z < m)) = true; rw [decide_eq_false c0]; rfl) (iteT ?_)
                have e2 : ascD (.tuple ds) m = false := by
                  show asc m 0 ds = false
                  rw [e]; show (if z < l ∨ m ≤ z then false else _) = false
                  rw [if_pos (by omega)]
                rw [e2] at q; exact q
            | _ =>
              refine iteT (iteT ?_)
              have e2 : ascD (.tuple ds) m = false := by
                show asc m 0 ds = false
                rw [e]; exact out rfl
              rw [e2] at q; exact q
          · obtain ⟨l, y3, rfl, rfl, l0, e⟩ := p
            rw [hA.length, List.drop_length] at e
            have e2 : ascD (.tuple ds) m = true := e
            rw [e2] at q; exact q
      | _ => exact nomatch hb
    · rw [Bool.not_eq_true] at hb
      rw [hb]
      refine iteT ?_
      have e2 : ascD d m = false := by
        cases d with
        | tuple ds => exact nomatch hb
        | _ => rfl
      rw [e2] at q; exact q
theorem asc_tup {d : PyData} {m : Int} (h : ascD d m = true) : ∃ ds, d = .tuple ds := by
  cases d with
  | tuple ds => exact ⟨ds, rfl⟩
  | _ => exact nomatch h
theorem ok_eld {fA : Addr} {dA : FuncData} (F : Fun K "are_elders" "are_elders" sEld f fd) (B : Bl mg) (GA : FnOk P w K mg base CX0 3 fA dA ["value", "limit"] spAsc) (kA : PySem.W.keepIn K (.ref fA) = true) (bA : Binds K dA ["value", "limit"] []) (gA : mg "is_ascending" = some (.ref fA)) : FnOk P w K mg base CX0 4 f fd ["value", "kind", "several"] spEld := by
  refine F.ok scEld (fun vs H Q E h => ?_) (fun cdv A outer s H vs Q E hr h => ?_)
  · obtain ⟨v, d, m, sv, rfl, _⟩ := h
    rfl
  · obtain ⟨v, d, m, sv, rfl, hd, q⟩ := h
    refine ⟨_, pss_cons (ps_if (pt_not (pt_val (pe_call GA hr (by rfl) gA kA bA .nil pass0 (pa_cons (pv 0) (pa_cons (pv 1) pa_nil))))) (pss_one (ps_ret pe_bl)) pss_nil)
      (pss_one (ps_ret (pe_or (pe_cmpR op_notBv (pv 2) pe_bl (nomark _)) (pe_one (pe_cmpR op_le (pe_callB call_len_seq (by rfl) B.len PySem.boot_len (pa_cons (pv 0) pa_nil)) pe_int (nomark _)))))), ?_⟩
    refine ⟨_, rfl, _, rfl, v, d, m, rfl, hd, _, rfl, ?_⟩
    have e : eldB d m (!decide (sv = .bl false)) = (ascD d m && ((!decide (sv = .bl false)) || decide (lenD d ≤ 1))) := rfl
    rw [e] at q
    cases ha : ascD d m with
    | false =>
      rw [ha] at q
      exact iteT q
    | true =>
      rw [ha] at q
      refine iteF ⟨_, rfl, false, rfl, _, rfl, ?_⟩
      obtain ⟨ds, rfl⟩ := asc_tup ha
      cases hd with
      | @tup a xs _ na hx hal hA =>
        cases hs : (!decide (sv = .bl false)) with
        | true =>
          rw [hs] at q
          exact iteT q
        | false =>
          rw [hs] at q
          refine iteF ⟨_, rfl, a, xs, rfl, .inr (SqT.of hx), _, 1, rfl, rfl, ?_⟩
          have e3 : decide ((xs.length : Int) ≤ 1) = decide (lenD (.tuple ds) ≤ 1) := by
            have z := hA.length
            show _ = decide (ds.length ≤ 1)
            by_cases c : ds.length ≤ 1
            · rw [decide_eq_true c, decide_eq_true (by omega)]
            · rw [decide_eq_false c, decide_eq_false (by omega)]
          show Q (.bl (decide ((xs.length : Int) ≤ 1))) H
          rw [e3]
          exact q
theorem ok_wrE {fE : Addr} {dE : FuncData} (F : Fun K "wrong_elders" "wrong_elders" sWrE f fd) (me : mg "enumerate" = none) (GE : FnOk P w K mg base CX0 4 fE dE ["value", "kind", "several"] spEld) (kE : PySem.W.keepIn K (.ref fE) = true) (bE : Binds K dE ["value", "kind", "several"] []) (gE : mg "are_elders" = some (.ref fE)) : FnOk P w K mg base CX0 5 f fd ["elders", "several"] spWrE := by
  refine F.ok scWrE (fun vs H Q E h => ?_) (fun cdv A outer s H vs Q E hr h => ?_)
  · obtain ⟨v, ds, sv, rfl, _⟩ := h
    rfl
  · obtain ⟨v, ds, sv, rfl, hd, q⟩ := h
    refine ⟨_, pss_cons (ps_for PassesOwn.never rfl (pi_enumT (by rfl) me (pa_cons (pv 0) pa_nil)) (pg_tup rfl (pgs_cons (pg_name (i := 2) scWrE.nd rfl (.inl rfl)) (pgs_cons (pg_name (i := 3) scWrE.nd rfl (.inl rfl)) pgs_nil)))
        (pss_one (ps_if (pt_not (pt_val (pe_call GE hr (by rfl) gE kE bE .nil pass0 (pa_cons (pv 3) (pa_cons (pv 2) (pa_cons (pv 1) pa_nil)))))) (pss_one (ps_ret (pv 2))) pss_nil)))
      (pss_one (ps_ret pe_non)), ?_⟩
    cases hd with
    | @tup a xs _ na ha hal hA =>
      refine ⟨_, rfl, a, xs, rfl, SqT.of ha, for_it (walk_enumT (K := K) (a := a) (xs := xs)) (fun i σ H1 => ∃ (y2 y3 : Option V), σ = [some (.ref a), some sv, y2, y3] ∧ Same H H1 ∧ wrE (!decide (sv = .bl false)) 0 ds = wrE (!decide (sv = .bl false)) i (ds.drop i))
        ⟨none, none, rfl, Same.refl H, rfl⟩ (fun i σ H1 _ p => by obtain ⟨_, _, _, p, _⟩ := p; exact SqT.of (p _ _ ha)) (fun i x σ H1 H2 hi p y => ?_) (fun σ H1 p => ?_)⟩
      · obtain ⟨y2, y3, rfl, s1, e⟩ := p
        obtain ⟨T, v1, v2, rfl, nT, rfl, f1, f2⟩ := y
        have f1' : v1 = .int (i : Nat) := (Option.some.inj f1).symm
        subst f1'
        obtain ⟨dx, g1, g2⟩ := hA.get f2
        have hdrop : ds.drop i = dx :: ds.drop (i + 1) := by
          obtain ⟨z1, z2⟩ := List.getElem?_eq_some_iff.mp g1
          rw [List.drop_eq_getElem_cons z1, z2]
        rw [hdrop] at e
        have s2 := s1.trans (same_new (o := HO.tup [.int (i : Nat), v2]) nT)
        refine ⟨T, _, rfl, SqT.of upd_same, rfl, _, _, rfl, v2, _, rfl, rfl, ?_⟩
        refine ⟨_, rfl, _, rfl, _, rfl, v2, dx, (i : Nat), sv, rfl, g2.same s2, _, rfl, ?_⟩
        have e1 : wrE (!decide (sv = .bl false)) i (dx :: ds.drop (i + 1)) = if eldB dx (i : Nat) (!decide (sv = .bl false)) then wrE (!decide (sv = .bl false)) (i + 1) (ds.drop (i + 1)) else some i := rfl
        cases hb : eldB dx (i : Nat) (!decide (sv = .bl false)) with
        | true =>
          rw [hb, if_pos rfl] at e1
          exact iteF ⟨_, _, rfl, s2, e.trans e1⟩
        | false =>
          rw [hb, if_neg Bool.false_ne_true] at e1
          refine iteT ⟨_, rfl, ?_⟩
          have z := q _ s2
          rw [e, e1] at z
          exact z
      · obtain ⟨y2, y3, rfl, s1, e⟩ := p
        rw [hA.length, List.drop_length] at e
        have z := q _ s1
        rw [e] at z
        exact z
end
end Kc

set_option Elab.async false
set_option linter.all false
set_option maxRecDepth 100000
set_option maxHeartbeats 4000000
namespace Kc
open PySem PySem.Spec PyProof.Rows L2 Kg Kd Kr Kf
abbrev sIsB : Stmt := topS 5
theorem scIsB : FnScope ["value"] ["value"] (defScope sIsB) := ⟨rfl, rfl, rfl, by decide +kernel, rfl, by decide +kernel, by decide +kernel⟩
def isBl (v : V) : Bool := decide (v = .bl true) || decide (v = .bl false)
def spIsB : Sp := fun vs H Q _ => ∃ v : V, vs = [v] ∧ Q (.bl (isBl v)) H
theorem isBl_da {av : Addr → Prop} {H : Hp} {x : V} {dd : PyData} (hx : Da av H x dd) : isBl x = isBool dd := by
  unfold isBl
  cases hx with
  | bl b => cases b <;> rfl
  | _ => rw [decide_eq_false (fun z => (nomatch z)), decide_eq_false (fun z => (nomatch z))]; rfl
section
variable {P : Program} {w : World} {K : PySem.W.Frag} {mg : Str → Option Value} {base : Heap} {f : Addr} {fd : FuncData} {k : Nat}
theorem ok_isB (F : Fun K "is_bool" "is_bool" sIsB f fd) : FnOk P w K mg base CX0 (k + 1) f fd ["value"] spIsB := by
  refine F.ok scIsB (fun vs H Q E h => ?_) (fun cdv A outer s H vs Q E hr h => ?_)
  · obtain ⟨v, rfl, _⟩ := h
    rfl
  · obtain ⟨v, rfl, q⟩ := h
    refine ⟨_, pss_one (ps_ret (pe_or (pe_cmpR op_isBv (pv 0) pe_bl (nomark _)) (pe_one (pe_cmpR op_isBv (pv 0) pe_bl (nomark _))))), ?_⟩
    refine ⟨_, rfl, true, rfl, _, rfl, ?_⟩
    unfold isBl at q
    cases c : decide (v = V.bl true) with
    | true => rw [c] at q; exact iteT q
    | false =>
      rw [c] at q
      exact iteF ⟨_, rfl, false, rfl, q⟩
end
end Kc

set_option Elab.async false
set_option linter.all false
set_option maxRecDepth 100000
set_option maxHeartbeats 4000000
namespace Kc
open PySem PySem.Spec PyProof.Rows L2 Kg Kd Kr Kf Kl
theorem scTab : FnScope ["elders", "table", "kind", "own", "found", "elder"] ["elders"] (defScope sTab) := ⟨rfl, rfl, rfl, by decide +kernel, rfl, by decide +kernel, by decide +kernel⟩
/-- the place that is told -/
def wrP (e c h : PyData) (s : V) : V :=
  match e with
  | .tuple ds => if 1 ≤ ds.length ∧ ds.length ≤ 6 then
      match wrE (!decide (s = .bl false)) 0 ds with
      | some k => .int (k : Nat)
      | none => if ascD c (ds.length : Nat) then (if ascD h (ds.length : Nat) then (if s = .bl true ∨ s = .bl false then .non else .str "several") else .str "hollow") else .str "closed"
    else .str "elders"
  | _ => .str "elders"
def spWrP : Sp := fun vs H Q _ => ∃ (ve vc vh s : V) (e c h : PyData), vs = [ve, vc, vh, s] ∧ Da Kd.nil H ve e ∧ Da Kd.nil H vc c ∧ Da Kd.nil H vh h ∧ ∀ H', Same H H' → Q (wrP e c h s) H'
theorem opN_non {o : Option Nat} : decide (opN o = .non) = o.isNone := by
  cases o with
  | none => rfl
  | some k => exact decide_eq_false (fun z => nomatch z)
section
variable {P : Program} {w : World} {K : PySem.W.Frag} {mg : Str → Option Value} {base : Heap} {f : Addr} {fd : FuncData} {k : Nat}
theorem ok_wrP {fA fW : Addr} {dA dW : FuncData} (F : Fun K "wrong_place" "wrong_place" sWrP f fd) (B : Bl mg) (mxk : ∃ t, mg "MAX_KINDS" = some (.int 6 t)) (GA : FnOk P w K mg base CX0 3 fA dA ["value", "limit"] spAsc) (kA : PySem.W.keepIn K (.ref fA) = true) (bA : Binds K dA ["value", "limit"] []) (gA : mg "is_ascending" = some (.ref fA))
    (GW : FnOk P w K mg base CX0 5 fW dW ["elders", "several"] spWrE) (kW : PySem.W.keepIn K (.ref fW) = true) (bW : Binds K dW ["elders", "several"] []) (gW : mg "wrong_elders" = some (.ref fW)) (GB : Cal P w K mg base "is_bool" 1 ["value"] spIsB) : FnOk P w K mg base CX0 6 f fd ["elders", "closed", "hollow", "several"] spWrP := by
  obtain ⟨tk, mk⟩ := mxk
  refine F.ok scWrP (fun vs H Q E h => ?_) (fun cdv A outer s H vs Q E hr h => ?_)
  · obtain ⟨ve, vc, vh, sv, e, c, h, rfl, _⟩ := h
    rfl
  · obtain ⟨ve, vc, vh, sv, e, c, h, rfl, he, hc, hh, q⟩ := h
    refine ⟨_, pss_cons (ps_if (PW.pt (pw_or (pt_not (pt_val (pe_callB call_isi (by rfl) B.isi boot_isinstance (pa_cons (pv 0) (pa_cons (pe_bltn (v := .ty "tuple") (by rfl) B.tuple PyProof.Rows.boot_tuple rfl) pa_nil)))))
          (pw_or1 (pt_not (pt_chain op_le op_le pe_int (pe_callB call_len_seq (by rfl) B.len PySem.boot_len (pa_cons (pv 0) pa_nil)) (pe_glob (v := .int 6) (by rfl) mk ⟨tk, rfl⟩)))))) (pss_one (ps_ret pe_str)) pss_nil)
      (pss_cons (ps_set (i := 4) scWrP.nd rfl (.inl rfl) (pe_call GW (hr.mono (by decide)) (by rfl) gW kW bW .nil pass0 (pa_cons (pv 0) (pa_cons (pv 3) pa_nil))))
      (pss_cons (ps_if (pt_cmpR op_notN (pv 4) pe_non (nomark _)) (pss_one (ps_ret (pv 4))) pss_nil)
      (pss_cons (ps_if (pt_not (pt_val (pe_call GA (hr.mono (by decide)) (by rfl) gA kA bA .nil pass0 (pa_cons (pv 1) (pa_cons (pe_callB call_len_seq (by rfl) B.len PySem.boot_len (pa_cons (pv 0) pa_nil)) pa_nil))))) (pss_one (ps_ret pe_str)) pss_nil)
      (pss_cons (ps_if (pt_not (pt_val (pe_call GA (hr.mono (by decide)) (by rfl) gA kA bA .nil pass0 (pa_cons (pv 2) (pa_cons (pe_callB call_len_seq (by rfl) B.len PySem.boot_len (pa_cons (pv 0) pa_nil)) pa_nil))))) (pss_one (ps_ret pe_str)) pss_nil)
      (pss_cons (ps_if (pt_not (pt_val (pe_cal GB (hr.mono (by decide)) (by rfl) (pa_cons (pv 3) pa_nil)))) (pss_one (ps_ret pe_str)) pss_nil)
      (pss_one (ps_ret pe_non))))))), ?_⟩
    refine ⟨_, rfl, _, _, _, _, isTup e, rfl, .ty _, he.ty, kit_ty (kt_tup e), _, rfl, ?_⟩
    by_cases hb : isTup e = true
    · cases e with
      | tuple ds =>
        refine iteF ?_
        have he2 := he
        cases he with
        | @tup a xs _ na ha hal hA =>
          have xl := hA.length
          refine ⟨_, rfl, a, xs, rfl, .inr (SqT.of ha), 1, _, rfl, rfl, _, rfl, ?_⟩
          have out : ¬ (1 ≤ ds.length ∧ ds.length ≤ 6) → Q (.str "elders") H := fun z => by
            have y := q H (Same.refl H)
            have e1 : wrP (.tuple ds) c h sv = .str "elders" := by
              show (if 1 ≤ ds.length ∧ ds.length ≤ 6 then _ else _) = _
              rw [if_neg z]
            rwa [e1] at y
          by_cases c1 : (1 : Int) ≤ (xs.length : Nat)
          · rw [decide_eq_true c1]
            refine iteT ⟨_, _, rfl, rfl, _, rfl, ?_⟩
            by_cases c2 : ((xs.length : Nat) : Int) ≤ 6
            · rw [decide_eq_true c2]
              refine iteF ?_
              refine ⟨_, rfl, _, rfl, _, ds, sv, rfl, he2, fun H1 s1 => ?_⟩
              have e1 : wrP (.tuple ds) c h sv = (match wrE (!decide (sv = .bl false)) 0 ds with
                  | some k => .int (k : Nat)
                  | none => if ascD c (ds.length : Nat) then (if ascD h (ds.length : Nat) then (if sv = .bl true ∨ sv = .bl false then .non else .str "several") else .str "hollow") else .str "closed") := by
                show (if 1 ≤ ds.length ∧ ds.length ≤ 6 then _ else _) = _
                rw [if_pos (by omega)]
              have q1 := q H1 s1
              rw [e1] at q1
              have ha1 := s1 _ _ ha
              have hc1 := hc.same s1
              have hh1 := hh.same s1
              refine ⟨_, rfl, rfl, _, rfl, ?_⟩
              rw [opN_non]
              cases hw : wrE (!decide (sv = .bl false)) 0 ds with
              | some k =>
                rw [hw] at q1
                exact iteT ⟨_, rfl, q1⟩
              | none =>
                rw [hw] at q1
                refine iteF ⟨_, rfl, _, rfl, a, xs, rfl, .inr (SqT.of ha1), vc, c, _, rfl, hc1, _, rfl, ?_⟩
                rw [xl]
                cases a1 : ascD c (ds.length : Nat) with
                | false => rw [a1] at q1; exact iteT q1
                | true =>
                  rw [a1] at q1
                  refine iteF ⟨_, rfl, _, rfl, a, xs, rfl, .inr (SqT.of ha1), vh, h, _, rfl, hh1, _, rfl, ?_⟩
                  rw [xl]
                  cases a2 : ascD h (ds.length : Nat) with
                  | false => rw [a2] at q1; exact iteT q1
                  | true =>
                    rw [a2] at q1
                    refine iteF ⟨_, rfl, sv, rfl, _, rfl, ?_⟩
                    unfold isBl
                    by_cases z1 : sv = .bl true
                    · rw [if_pos rfl, if_pos rfl, if_pos (.inl z1)] at q1
                      rw [decide_eq_true z1]
                      exact iteF q1
                    · rw [decide_eq_false z1]
                      by_cases z2 : sv = .bl false
                      · rw [if_pos rfl, if_pos rfl, if_pos (.inr z2)] at q1
                        rw [decide_eq_true z2]
                        exact iteF q1
                      · rw [if_pos rfl, if_pos rfl, if_neg (by rintro (y | y) <;> contradiction)] at q1
                        rw [decide_eq_false z2]
                        exact iteT q1
            · rw [decide_eq_false c2]
              exact iteT (out (by omega))
          · rw [decide_eq_false c1]
            exact iteF ⟨_, rfl, iteT (out (by omega))⟩
      | _ => exact nomatch hb
    · rw [Bool.not_eq_true] at hb
      rw [hb]
      refine iteT (iteT ?_)
      have y := q H (Same.refl H)
      have e1 : wrP e c h sv = .str "elders" := by
        cases e with
        | tuple ds => exact nomatch hb
        | _ => rfl
      rwa [e1] at y
end
/-! ### right parts -/
theorem asc_ok : ∀ {l : List Nat} {n lo : Nat}, l.Pairwise (· < ·) → (∀ x ∈ l, lo ≤ x ∧ x < n) → asc (n : Nat) (lo : Nat) (l.map iD) = true
  | [], _, _, _, _ => rfl
  | a :: l, n, lo, hl, h => by
    rw [List.pairwise_cons] at hl
    have y := h a (List.mem_cons_self ..)
    have z := asc_ok (l := l) (n := n) (lo := a + 1) hl.2 (fun x hx => ⟨hl.1 x hx, (h x (List.mem_cons_of_mem _ hx)).2⟩)
    show (if ((a : Nat) : Int) < (lo : Nat) ∨ ((n : Nat) : Int) ≤ (a : Nat) then false else asc (n : Nat) ((a : Nat) + 1) (l.map iD)) = true
    rw [if_neg (by omega)]
    exact z
theorem som_ok {n : Nat} {l : List Nat} (h : Som n l) : ascD (pdI l) (n : Nat) = true := asc_ok (lo := 0) h.asc (fun x hx => ⟨Nat.zero_le _, h.low x hx⟩)
theorem wrE_ok {sv : Bool} : ∀ {es : List (List Nat)} {k : Nat}, (∀ (i : Nat) (l : List Nat), es[i]? = some l → Som (k + i) l ∧ (sv = false → l.length ≤ 1)) → wrE sv k (es.map pdI) = none
  | [], _, _ => rfl
  | l :: es, k, h => by
    obtain ⟨h1, h2⟩ := h 0 l rfl
    have e1 : eldB (pdI l) (k : Nat) sv = true := by
      unfold eldB
      rw [som_ok (by simpa using h1), Bool.true_and]
      cases sv with
      | true => rfl
      | false =>
        show decide ((l.map iD).length ≤ 1) = true
        rw [List.length_map]
        exact decide_eq_true (h2 rfl)
    show (if eldB (pdI l) (k : Nat) sv = true then wrE sv (k + 1) (es.map pdI) else some k) = none
    rw [if_pos e1]
    refine wrE_ok fun i l' e => ?_
    have z := h (i + 1) l' (by simpa using e)
    rwa [show k + (i + 1) = k + 1 + i by omega] at z
theorem dec_bl (sv : Bool) : (!decide (V.bl sv = .bl false)) = sv := by cases sv <;> rfl
theorem wrP_ok {es : List (List Nat)} {cl ho : List Nat} {sv : Bool} (he : Eld es sv) (hc : Som es.length cl) (hh : Som es.length ho) : wrP (pdE es) (pdI cl) (pdI ho) (.bl sv) = .non := by
  have e0 : wrE (!decide (V.bl sv = .bl false)) 0 (es.map pdI) = none := by
    rw [dec_bl]
    exact wrE_ok fun i l e => ⟨by rw [Nat.zero_add]; exact he.som e, he.one i l e⟩
  show (if 1 ≤ (es.map pdI).length ∧ (es.map pdI).length ≤ 6 then _ else _) = _
  rw [e0, List.length_map, if_pos ⟨he.lo, he.hi⟩]
  show (if ascD (pdI cl) (es.length : Nat) = true then _ else _) = _
  rw [if_pos (som_ok hc), if_pos (som_ok hh), if_pos (by cases sv <;> simp)]
end Kc

set_option Elab.async false
set_option linter.all false
set_option maxRecDepth 100000
set_option maxHeartbeats 8000000
/-! several_of, kind_parts, kind_of_line, where nothing is raised -/
namespace Kc
open PySem PySem.Spec PyProof.Rows L2 Kg Kd Kr Kf Kl TL
abbrev sSvo : Stmt := topS 24
abbrev nSvo : List Str := ["number", "words"]
theorem scSvo : FnScope nSvo ["number", "words"] (defScope sSvo) := ⟨rfl, rfl, rfl, by decide +kernel, rfl, by decide +kernel, by decide +kernel⟩
abbrev sKpr : Stmt := topS 25
abbrev nKpr : List Str := ["words", "rest", "hollow", "closed", "elders"]
theorem scKpr : FnScope nKpr ["words"] (defScope sKpr) := ⟨rfl, rfl, rfl, by decide +kernel, rfl, by decide +kernel, by decide +kernel⟩
abbrev sKol : Stmt := topS 26
abbrev psKol : List Str := ["number", "words", "kind", "several"]
abbrev nKol : List Str := ["number", "words", "kind", "several", "parts"]
theorem scKol : FnScope nKol psKol (defScope sKol) := ⟨rfl, rfl, rfl, by decide +kernel, rfl, by decide +kernel, by decide +kernel⟩
theorem lit_ok : chOk severalL ∧ chOk singleL ∧ chOk hollowL ∧ chOk closedL ∧ chOk kindL := by
  have aux : ∀ w : List Nat, (w.all fun c => decide (c < 1114112)) = true → chOk w := fun w h c hc => of_decide_eq_true (List.all_eq_true.mp h c hc)
  exact ⟨aux _ (by decide), aux _ (by decide), aux _ (by decide), aux _ (by decide), aux _ (by decide)⟩
theorem ch_one {w : List Nat} (h : chOk w) : ∀ x ∈ [w], chOk x := fun x hx => by rw [List.mem_singleton.mp hx]; exact h
def spSvo : Sp := fun vs H Q _ => ∃ (n : V) (a : Addr) (sv : Bool), vs = [n, .ref a] ∧ H a = some (.lst ([firstL sv].map wV)) ∧ ∀ H', Same H H' → Q (.bl sv) H'
def spKpr : Sp := fun vs H Q _ => ∃ (a : Addr) (ws : List (List Nat)), vs = [.ref a] ∧ H a = some (.lst (ws.map wV)) ∧ ws ≠ [] ∧ ws.length ≤ 900 ∧ (∀ w ∈ ws, chOk w ∧ w.length ≤ 800) ∧
  (kpW ws = none → ∀ H', Same H H' → Q .non H') ∧ ∀ ns c h, kpW ws = some (ns, c, h) → ∀ H' t r, Same H H' → H' r = some (.tup (ns.map iV)) → H' t = some (.tup [.ref r, .bl c, .bl h]) → Q (.ref t) H'
def spKol : Sp := fun vs H Q _ => ∃ (nv : V) (a : Addr) (k : Nat) (es : List (List Nat)) (cl ho l : List Nat) (sv : Bool), vs = [nv, .ref a, iV k, .bl sv] ∧ H a = some (.lst ((kindW es cl ho k).map wV)) ∧ es[k]? = some l ∧ Eld es sv ∧
  ∀ H' t r, Same H H' → H' r = some (.tup (l.map iV)) → H' t = some (.tup [.ref r, .bl (decide (k ∈ cl)), .bl (decide (k ∈ ho))]) → Q (.ref t) H'
/-- the last word away, at times -/
def tCt (j : Nat) : TS := fun D σ H => ∃ (a : Addr) (b : Bool) (xs : List V), σ[1]? = some (some (.ref a)) ∧ σ[j]? = some (some (.bl b)) ∧ H a = some (.lst xs) ∧ ∀ H' a', Same H H' → H' a' = some (.lst (if b = true then xs.dropLast else xs)) → D.nx (σ.set 1 (some (.ref a'))) H'
section
variable {P : Program} {w : World} {K : PySem.W.Frag} {mg : Str → Option Value} {base : Heap} {f : Addr} {fd : FuncData} {k : Nat} {cdv : Value} {A : Around} {out : List Env} {s : Shared} {H0 : Hp} {E : XK}
theorem ok_svo (F : Fun K "several_of" "several_of" sSvo f fd) : FnOk P w K mg base CX0 (k + 1) f fd ["number", "words"] spSvo := by
  refine F.ok scSvo (fun vs H Q E h => ?_) (fun cdv A outer s H vs Q E hr h => ?_)
  · obtain ⟨n, a, sv, rfl, _⟩ := h
    rfl
  · obtain ⟨n, a, sv, rfl, ha, q⟩ := h
    refine ⟨_, (pss_cons (ps_if (PW.pt (pw_and (pt_cmpR (op_neD hr.units) (pv 1) (pe_lst (pa_cons pe_str pa_nil)) (nomark _)) (pw_and1 (pt_cmpR (op_neD hr.units) (pv 1) (pe_lst (pa_cons pe_str pa_nil)) (nomark _))))) (pss_one ps_never) pss_nil)
      (pss_one (ps_ret (pe_cmpR (op_eqD hr.units) (pv 1) (pe_lst (pa_cons pe_str pa_nil)) (nomark _))))), ?_⟩
    have c1 : Str.ofString "several" = sS severalL := eq_sS (by decide +kernel)
    have c2 : Str.ofString "single" = sS singleL := eq_sS (by decide +kernel)
    have z1 : 1 ≤ sizeLine := by rw [sizeLine_eq]; decide
    have okf : chOk (firstL sv) := by cases sv; exact lit_ok.2.1; exact lit_ok.1
    -- the last statement
    have fin : ∀ H2, Same H H2 → 1 ≤ sizeLine ∧ ∀ a2 : Addr, H2 a2 = none → ∃ d e, Dp K (upd H2 a2 (HO.lst [V.str (Str.ofString "several")])) (.ref a) d ∧ Dp K (upd H2 a2 (HO.lst [V.str (Str.ofString "several")])) (.ref a2) e ∧ SeqAt.shaped d = true ∧ SeqAt.shaped e = true ∧ Q (.bl (PyData.eqv d e)) (upd H2 a2 (HO.lst [V.str (Str.ofString "several")])) := fun H2 s2 => ⟨z1, fun a2 n2 => by
      have s3 := same_new (o := HO.lst [V.str (Str.ofString "several")]) n2
      refine ⟨wsD [firstL sv], wsD [severalL], dp_ws (s3 _ _ (s2 _ _ ha)), dp_ws (by rw [upd_same, c1]; rfl), sh_ws (ch_one okf), sh_ws (ch_one lit_ok.1), ?_⟩
      rw [eqv_ws, show decide ([firstL sv] = [severalL]) = sv by cases sv <;> decide]
      exact q _ (s2.trans s3)⟩
    refine ⟨_, rfl, z1, fun a1 n1 => ?_⟩
    have s1 := same_new (o := HO.lst [V.str (Str.ofString "several")]) n1
    refine ⟨wsD [firstL sv], wsD [severalL], dp_ws (s1 _ _ ha), dp_ws (by rw [upd_same, c1]; rfl), sh_ws (ch_one okf), sh_ws (ch_one lit_ok.1), _, rfl, ?_⟩
    rw [eqv_ws, show decide ([firstL sv] = [severalL]) = sv by cases sv <;> decide]
    cases sv with
    | true => exact iteF (iteF ⟨_, rfl, fin _ s1⟩)
    | false =>
      refine iteT ⟨_, rfl, z1, fun a2 n2 => ?_⟩
      have s2 := same_new (o := HO.lst [V.str (Str.ofString "single")]) n2
      refine ⟨wsD [singleL], wsD [singleL], dp_ws (s2 _ _ (s1 _ _ ha)), dp_ws (by rw [upd_same, c2]; rfl), sh_ws (ch_one okf), sh_ws (ch_one okf), _, rfl, ?_⟩
      rw [eqv_ws]
      exact iteE (by simp) ⟨_, rfl, fin _ (s1.trans s2)⟩
theorem segC1 (st : Stmt) (hst : st = (defBody sKpr).getD 3 (.Pass ⟨0, 0, 0, 0⟩)) : PS (cxOf CX0 P w K mg base nKpr "kind_parts" (defScope sKpr) f cdv A out s H0 E).nox st (tCt 2) := by
  subst hst
  refine ps_imp (ps_if (pt_val (pv 2)) (pss_one (ps_set (i := 1) scKpr.nd rfl (.inl rfl) (pe_slice sl_list (pv 1) po_none (po_some (pe_un un_neg pe_int))))) pss_nil) (fun D σ H h => ?_)
  obtain ⟨a, b, xs, h1, hj, ha, nx⟩ := h
  have hl := (List.getElem?_eq_some_iff.mp h1).1
  refine ⟨_, hj, _, rfl, ?_⟩
  cases b with
  | true =>
    refine iteT ⟨_, h1, 1, rfl, _, rfl, a, xs, rfl, SqL.of ha, fun p np => ?_⟩
    rw [cut_init]
    exact nx _ p (same_new np) upd_same
  | false =>
    refine iteF ?_
    have z := nx H a (Same.refl H) ha
    have e : σ.set 1 (some (.ref a)) = σ := by
      refine List.ext_getElem? fun i => ?_
      by_cases ci : i = 1
      · subst ci
        rw [List.getElem?_set_self hl, h1]
      · rw [List.getElem?_set_ne (fun z => ci z.symm)]
    rw [e] at z
    exact z
theorem segC2 (st : Stmt) (hst : st = (defBody sKpr).getD 5 (.Pass ⟨0, 0, 0, 0⟩)) : PS (cxOf CX0 P w K mg base nKpr "kind_parts" (defScope sKpr) f cdv A out s H0 E).nox st (tCt 3) := by
  subst hst
  refine ps_imp (ps_if (pt_val (pv 3)) (pss_one (ps_set (i := 1) scKpr.nd rfl (.inl rfl) (pe_slice sl_list (pv 1) po_none (po_some (pe_un un_neg pe_int))))) pss_nil) (fun D σ H h => ?_)
  obtain ⟨a, b, xs, h1, hj, ha, nx⟩ := h
  have hl := (List.getElem?_eq_some_iff.mp h1).1
  refine ⟨_, hj, _, rfl, ?_⟩
  cases b with
  | true =>
    refine iteT ⟨_, h1, 1, rfl, _, rfl, a, xs, rfl, SqL.of ha, fun p np => ?_⟩
    rw [cut_init]
    exact nx _ p (same_new np) upd_same
  | false =>
    refine iteF ?_
    have z := nx H a (Same.refl H) ha
    have e : σ.set 1 (some (.ref a)) = σ := by
      refine List.ext_getElem? fun i => ?_
      by_cases ci : i = 1
      · subst ci
        rw [List.getElem?_set_self hl, h1]
      · rw [List.getElem?_set_ne (fun z => ci z.symm)]
    rw [e] at z
    exact z
theorem last_dec (r : List (List Nat)) (w : List Nat) : decide (r.drop (r.length - 1) = [w]) = decide (r.getLast? = some w) := by
  rw [decide_eq_decide]
  rcases List.eq_nil_or_concat r with rfl | ⟨l, y, rfl⟩
  · simp
  · simp
theorem if_drop (b : Bool) (r : List (List Nat)) : (if b = true then (r.map wV).dropLast else r.map wV) = ((if b = true then r.dropLast else r).map wV) := by
  cases b with
  | true => simp
  | false => rfl
theorem ok_kpr (F : Fun K "kind_parts" "kind_parts" sKpr f fd) (GN : Cal P w K mg base "numbers_of" 2 ["words"] spNms) : FnOk P w K mg base CX0 3 f fd ["words"] spKpr := by
  refine F.ok scKpr (fun vs H Q E h => ?_) (fun cdv A outer s H vs Q E hr h => ?_)
  · obtain ⟨a, ws, rfl, _⟩ := h
    rfl
  · obtain ⟨a, ws, rfl, ha, ne, wl, wk, qn, qs⟩ := h
    refine ⟨_, (pss_cons (ps_if (pt_cmpR op_ne (pe_ix ix_list (pv 0) pe_int (fun _ _ => rfl)) pe_str (nomark _)) (pss_one (ps_ret pe_non)) pss_nil)
      (pss_cons (ps_set (i := 1) scKpr.nd rfl (.inl rfl) (pe_slice sl_list (pv 0) (po_some pe_int) po_none))
      (pss_cons (ps_set (i := 2) scKpr.nd rfl (.inl rfl) (pe_cmpR (op_eqD hr.units) (pe_slice sl_list (pv 1) (po_some (pe_un un_neg pe_int)) po_none) (pe_lst (pa_cons pe_str pa_nil)) (nomark _)))
      (pss_cons (segC1 _ rfl)
      (pss_cons (ps_set (i := 3) scKpr.nd rfl (.inl rfl) (pe_cmpR (op_eqD hr.units) (pe_slice sl_list (pv 1) (po_some (pe_un un_neg pe_int)) po_none) (pe_lst (pa_cons pe_str pa_nil)) (nomark _)))
      (pss_cons (segC2 _ rfl)
      (pss_cons (ps_set (i := 4) scKpr.nd rfl (.inl rfl) (pe_cal GN hr (by rfl) (pa_cons (pv 1) pa_nil)))
      (pss_cons (ps_if (pt_cmpR op_isN (pv 4) pe_non (nomark _)) (pss_one (ps_ret pe_non)) pss_nil)
      (pss_one (ps_ret (pe_tup (pa_cons (pv 4) (pa_cons (pv 3) (pa_cons (pv 2) pa_nil)))))))))))))), ?_⟩
    have z1 : 1 ≤ sizeLine := by rw [sizeLine_eq]; decide
    have cK : Str.ofString "kind" = sS kindL := eq_sS (by decide +kernel)
    have cH : Str.ofString "hollow" = sS hollowL := eq_sS (by decide +kernel)
    have cC : Str.ofString "closed" = sS closedL := eq_sS (by decide +kernel)
    obtain ⟨x, r, rfl⟩ : ∃ x r, ws = x :: r := by cases ws with | nil => exact absurd rfl ne | cons x r => exact ⟨x, r, rfl⟩
    refine ⟨_, rfl, a, _, 0, wV x, rfl, rfl, SqL.of ha, atI_nat (j := 0) rfl, rfl, _, rfl, ?_⟩
    rw [cK]
    by_cases ck : x = kindL
    · subst ck
      have hk : kpW (kindL :: r) = (numsW (if decide ((if decide (r.getLast? = some hollowL) = true then r.dropLast else r).getLast? = some closedL) = true then (if decide (r.getLast? = some hollowL) = true then r.dropLast else r).dropLast else (if decide (r.getLast? = some hollowL) = true then r.dropLast else r))).map fun ns => (ns, decide ((if decide (r.getLast? = some hollowL) = true then r.dropLast else r).getLast? = some closedL), decide (r.getLast? = some hollowL)) := by
        unfold kpW
        rw [if_pos (show (kindL :: r).head? = some kindL from rfl)]; rfl
      generalize hb1 : decide (r.getLast? = some hollowL) = b1 at hk
      generalize hr1 : (if b1 = true then r.dropLast else r) = r1 at hk
      generalize hb2 : decide (r1.getLast? = some closedL) = b2 at hk
      generalize hr2 : (if b2 = true then r1.dropLast else r1) = r2 at hk
      have m1 : ∀ w ∈ r1, w ∈ r := fun w hw => by
        rw [← hr1] at hw
        cases b1 with
        | true => exact List.dropLast_subset _ hw
        | false => exact hw
      have m2 : ∀ w ∈ r2, w ∈ r1 := fun w hw => by
        rw [← hr2] at hw
        cases b2 with
        | true => exact List.dropLast_subset _ hw
        | false => exact hw
      have l1 : r1.length ≤ r.length := by
        rw [← hr1]
        cases b1 <;> simp
      have l2 : r2.length ≤ r1.length := by
        rw [← hr2]
        cases b2 <;> simp
      have wl' : r.length + 1 ≤ 900 := wl
      refine iteE (by simp) ⟨_, rfl, _, rfl, a, _, rfl, SqL.of ha, fun p np => ?_⟩
      rw [cut_tail]
      have s1 := same_new (o := HO.lst ((((kindL :: r).map wV)).drop 1)) np
      have hp : upd H p (HO.lst ((((kindL :: r).map wV)).drop 1)) p = some (.lst (r.map wV)) := by rw [upd_same]; rfl
      generalize upd H p (HO.lst ((((kindL :: r).map wV)).drop 1)) = H1 at hp s1
      -- hollow
      refine ⟨_, rfl, 1, rfl, _, rfl, p, _, rfl, SqL.of hp, fun p2 np2 => ⟨z1, fun p3 np3 => ?_⟩⟩
      rw [cut_last] at np3 ⊢
      have s2 := same_new (o := HO.lst ((r.map wV).drop ((r.map wV).length - 1))) np2
      have e2 : (r.map wV).drop ((r.map wV).length - 1) = (r.drop (r.length - 1)).map wV := by rw [List.length_map, List.map_drop]
      have h2 : upd H1 p2 (HO.lst ((r.map wV).drop ((r.map wV).length - 1))) p2 = some (.lst ((r.drop (r.length - 1)).map wV)) := by rw [upd_same, e2]
      generalize upd H1 p2 (HO.lst ((r.map wV).drop ((r.map wV).length - 1))) = H2 at h2 s2 np3 ⊢
      have s3 := same_new (o := HO.lst [V.str (Str.ofString "hollow")]) np3
      refine ⟨wsD (r.drop (r.length - 1)), wsD [hollowL], dp_ws (s3 _ _ h2), dp_ws (by rw [upd_same, cH]; rfl), sh_ws (fun w hw => (wk w (List.mem_cons_of_mem _ (List.mem_of_mem_drop hw))).1), sh_ws (ch_one lit_ok.2.2.1), ?_⟩
      rw [eqv_ws, last_dec, hb1]
      have s13 := s2.trans s3
      refine ⟨p, b1, _, rfl, rfl, s13 _ _ hp, fun H4 a4 s4 h4 => ?_⟩
      rw [if_drop, hr1] at h4
      -- closed
      refine ⟨_, rfl, 1, rfl, _, rfl, a4, _, rfl, SqL.of h4, fun p5 np5 => ⟨z1, fun p6 np6 => ?_⟩⟩
      rw [cut_last] at np6 ⊢
      have s5 := same_new (o := HO.lst ((r1.map wV).drop ((r1.map wV).length - 1))) np5
      have e5 : (r1.map wV).drop ((r1.map wV).length - 1) = (r1.drop (r1.length - 1)).map wV := by rw [List.length_map, List.map_drop]
      have h5 : upd H4 p5 (HO.lst ((r1.map wV).drop ((r1.map wV).length - 1))) p5 = some (.lst ((r1.drop (r1.length - 1)).map wV)) := by rw [upd_same, e5]
      generalize upd H4 p5 (HO.lst ((r1.map wV).drop ((r1.map wV).length - 1))) = H5 at h5 s5 np6 ⊢
      have s6 := same_new (o := HO.lst [V.str (Str.ofString "closed")]) np6
      refine ⟨wsD (r1.drop (r1.length - 1)), wsD [closedL], dp_ws (s6 _ _ h5), dp_ws (by rw [upd_same, cC]; rfl), sh_ws (fun w hw => (wk w (List.mem_cons_of_mem _ (m1 w (List.mem_of_mem_drop hw)))).1), sh_ws (ch_one lit_ok.2.2.2.1), ?_⟩
      rw [eqv_ws, last_dec, hb2]
      have s56 := s5.trans s6
      refine ⟨a4, b2, _, rfl, rfl, s56 _ _ h4, fun H7 a7 s7 h7 => ?_⟩
      rw [if_drop, hr2] at h7
      have sAll := s1.trans (s13.trans (s4.trans (s56.trans s7)))
      -- the numbers
      refine ⟨_, rfl, a7, r2, rfl, h7, by omega, fun w hw => (wk w (List.mem_cons_of_mem _ (m1 w (m2 w hw)))).2, fun en H8 s8 => ?_, fun ns en H8 rr s8 h8 => ?_⟩
      · rw [en] at hk
        exact ⟨_, rfl, rfl, _, rfl, iteT (qn hk H8 (sAll.trans s8))⟩
      · rw [en] at hk
        refine ⟨_, rfl, rfl, _, rfl, iteF ⟨_, rfl, _, rfl, _, rfl, (show 3 ≤ sizeLine by rw [sizeLine_eq]; decide), fun t nt => ?_⟩⟩
        have s9 := same_new (o := HO.tup [V.ref rr, V.bl b2, V.bl b1]) nt
        exact qs ns b2 b1 hk _ t rr (sAll.trans (s8.trans s9)) (s9 _ _ h8) upd_same
    · have hk : kpW (x :: r) = none := by
        unfold kpW
        rw [if_neg (by simpa using ck)]
      exact iteD (by show (!decide (wV x = V.str (sS kindL))) = true; rw [decide_eq_false (sS_ne ck)]; rfl) (qn hk H (Same.refl H))
theorem ok_kol {tk : Tok} (F : Fun K "kind_of_line" "kind_of_line" sKol f fd) (GP : Cal P w K mg base "kind_parts" 3 ["words"] spKpr) (GE : Cal P w K mg base "are_elders" 4 ["value", "kind", "several"] spEld) (mk : mg "MAX_KINDS" = some (.int 6 tk)) : FnOk P w K mg base CX0 5 f fd psKol spKol := by
  refine F.ok scKol (fun vs H Q E h => ?_) (fun cdv A outer s H vs Q E hr h => ?_)
  · obtain ⟨nv, a, k, es, cl, ho, l, sv, rfl, _⟩ := h
    rfl
  · obtain ⟨nv, a, k, es, cl, ho, l, sv, rfl, ha, hl, EL, q⟩ := h
    have hr3 := hr.mono (show 3 ≤ 4 by decide)
    refine ⟨_, (pss_cons (ps_set (i := 4) scKol.nd rfl (.inl rfl) (pe_cal GP hr3 (by rfl) (pa_cons (pv 1) pa_nil)))
      (pss_cons (ps_if (pt_cmpR op_isN (pv 4) pe_non (nomark _)) (pss_one ps_never) pss_nil)
      (pss_cons (ps_if (PW.pt (pw_or (pt_cmpR op_ge (pv 2) (pe_glob (v := .int 6) (by rfl) mk ⟨_, rfl⟩) (nomark _)) (pw_or1 (pt_not (pt_val (pe_cal GE hr (by rfl) (pa_cons (pe_ix ix_tup (pv 4) pe_int (fun _ _ => rfl)) (pa_cons (pv 2) (pa_cons (pv 3) pa_nil))))))))) (pss_one ps_never) pss_nil)
      (pss_one (ps_ret (pv 4)))))), ?_⟩
    have kk := kpW_kind (cl := cl) (ho := ho) hl (eld_lo EL k l hl)
    have kl := (List.getElem?_eq_some_iff.mp hl).1
    have n6 := EL.hi
    have wl := kindW_len (cl := cl) (ho := ho) (eld_len EL k)
    refine ⟨_, rfl, a, kindW es cl ho k, rfl, ha, by unfold kindW; simp, by omega, fun w hw => ?_, fun en => (by rw [kk] at en; cases en), fun ns c h en H1 t r s1 hr1 ht => ?_⟩
    · have z := word_ok (cl := cl) (ho := ho) (eld_lo EL k) w hw
      exact ⟨kindW_ch (eld_lo EL k) w hw, by have := z.2.2.2.2; omega⟩
    · rw [kk] at en
      cases en
      refine ⟨_, rfl, rfl, _, rfl, iteF ⟨_, rfl, _, _, rfl, rfl, _, rfl, iteE (decide_eq_false (by omega)) ?_⟩⟩
      have tl' : Tu H1 (.ref r) (pdI l) := tu_ints hr1 (by have := eld_len EL k l hl; omega)
      refine ⟨_, rfl, t, _, 0, .ref r, rfl, rfl, SqT.of ht, atI_nat (j := 0) rfl, _, rfl, _, rfl, .ref r, pdI l, ((k : Nat) : Int), .bl sv, rfl, tl'.da, _, rfl, ?_⟩
      have ee : eldB (pdI l) ((k : Nat) : Int) (!decide (V.bl sv = V.bl false)) = true := by
        unfold eldB
        rw [som_ok ⟨EL.asc k l hl, EL.low k l hl⟩, Bool.true_and]
        cases sv with
        | true => rfl
        | false =>
          have := EL.one k l hl rfl
          show (false || decide (lenD (pdI l) ≤ 1)) = true
          rw [Bool.false_or, decide_eq_true_iff]
          show (l.map _).length ≤ 1
          rw [List.length_map]; exact this
      rw [ee]
      exact iteF ⟨_, rfl, q H1 t r s1 hr1 ht⟩
end
end Kc

set_option Elab.async false
set_option linter.all false
set_option maxRecDepth 100000
set_option maxHeartbeats 4000000
/-! statements in a row, with a reading of one's own -/
namespace Kl
open PySem PySem.Spec PyProof.Rows L2 Kg Kd
theorem pss_imp {X : Cx} {l : List Stmt} {t t' : TS} (h : PSs X l t) (i : ∀ D σ H, t' D σ H → t D σ H) : PSs X l t' := ⟨fun pins s σ H D I z => h.run pins s σ H D I (i D σ H z)⟩
end Kl

set_option Elab.async false
set_option linter.all false
set_option maxRecDepth 100000
set_option maxHeartbeats 8000000
/-! _law_line of words: what a line tells, or None -/
namespace Kc
open PySem PySem.Spec PyProof.Rows L2 Kg Kd Kr Kf Kl TL
abbrev sLl6 : Stmt := topS 39
abbrev nLl6 : List Str := ["_law_words", "_law_rest", "_law_marks", "_law_mark", "_law_numbers", "_law_word"]
theorem scLl6 : FnScope nLl6 ["_law_words"] (defScope sLl6) := ⟨rfl, rfl, rfl, by decide +kernel, rfl, by decide +kernel, by decide +kernel⟩
def spLl6 : Sp := fun vs H Q _ => ∃ (a : Addr) (ws : List (List Nat)), vs = [.ref a] ∧ H a = some (.lst (ws.map wV)) ∧ ws ≠ [] ∧ ws.length ≤ 900 ∧ (∀ w ∈ ws, chOk w ∧ w.length ≤ 800) ∧
  (kpW ws = none → ∀ H', Same H H' → Q .non H') ∧ ∀ ns c h, kpW ws = some (ns, c, h) → ∀ H' t r, Same H H' → H' r = some (.tup (ns.map iV)) → H' t = some (.tup [.ref r, .bl c, .bl h]) → Q (.ref t) H'
def forB46 (s : Stmt) : List Stmt := match s with
  | .For _ _ b _ _ => b
  | _ => []
def llS (i : Nat) : Stmt := (forB46 ((defBody sLl6).getD 2 (.Pass ⟨0, 0, 0, 0⟩))).getD i (.Pass ⟨0, 0, 0, 0⟩)
/-- one mark -/
def tMk : TS := fun D σ H => ∃ (a p M : Addr) (m : List Nat) (r : List (List Nat)) (bs : List Bool) (y4 y5 : Option V), σ = [some (.ref a), some (.ref p), some (.ref M), some (wV m), y4, y5] ∧ H p = some (.lst (r.map wV)) ∧ H M = some (.lst (bs.map V.bl)) ∧ p ≠ M ∧ chOk m ∧ (∀ w ∈ r, chOk w) ∧ r.length ≤ 900 ∧ bs.length ≤ 2 ∧
  ∀ (H' : Hp) (p' : Addr), (∀ c o, H c = some o → c ≠ M → H' c = some o) → H p' = none → H' p' = some (.lst ((if decide (r.getLast? = some m) = true then r.dropLast else r).map wV)) → H' M = some (.lst ((bs ++ [decide (r.getLast? = some m)]).map V.bl)) → D.nx [some (.ref a), some (.ref p'), some (.ref M), some (wV m), y4, y5] H'
theorem at_lastD46 (zs : List V) (z : V) : atI (zs ++ [z]) (-1) = some z := by
  unfold atI
  have e : ixN (zs ++ [z]).length (-1) = some zs.length := by
    unfold ixN
    rw [if_neg (by decide), if_pos (by rw [List.length_append, List.length_singleton]; omega), List.length_append, List.length_singleton]
    congr 1
    omega
  rw [e]
  show (zs ++ [z])[zs.length]? = some z
  simp
theorem cut_ln {r : List V} {b : Bool} : cutV r none (some (((r.length : Nat) : Int) - (if b = true then 1 else 0))) = if b = true then r.dropLast else r := by
  cases b with
  | false =>
    have e : ((r.length : Nat) : Int) - (if false = true then 1 else 0) = ((r.length : Nat) : Int) := by simp
    rw [e, cut_tk (Nat.le_refl _), List.take_length]; rfl
  | true =>
    cases r with
    | nil => rfl
    | cons x r =>
      have e : (((x :: r).length : Nat) : Int) - (if true = true then 1 else 0) = ((r.length : Nat) : Int) := by rw [List.length_cons]; simp
      rw [e, cut_tk (by rw [List.length_cons]; omega), List.dropLast_eq_take, List.length_cons]
      rfl
theorem inV_num : ∀ l : List (List Nat), inV (V.int (-1)) (l.map fun w => V.int (numI w)) = !(l.all fun w => (numW w).isSome)
  | [] => rfl
  | w :: l => by
    have ih := inV_num l
    unfold inV at ih ⊢
    rw [List.map_cons, List.any_cons, ih, List.all_cons, Bool.not_and]
    congr 1
    show (numI w == -1) = !(numW w).isSome
    unfold numI
    cases numW w with
    | none => rfl
    | some n =>
      show (((n : Nat) : Int) == -1) = false
      rw [beq_eq_false_iff_ne]
      omega
theorem num_map {l : List (List Nat)} (h : (l.all fun w => (numW w).isSome) = true) : (l.map fun w => V.int (numI w)) = (l.map fun w => (numW w).getD 0).map iV := by
  rw [List.map_map]
  refine List.map_congr_left fun w hw => ?_
  have z := List.all_eq_true.mp h w hw
  show V.int (numI w) = V.int (((numW w).getD 0 : Nat) : Int)
  unfold numI
  cases hn : numW w with
  | none => rw [hn] at z; cases z
  | some n => rfl
section
variable {P : Program} {w : World} {K : PySem.W.Frag} {mg : Str → Option Value} {base : Heap} {f : Addr} {fd : FuncData} {cdv : Value} {A : Around} {out : List Env} {s : Shared} {H0 : Hp} {E : XK}
theorem segMk (hun : (cxOf CX0 P w K mg base nLl6 "_law_line" (defScope sLl6) f cdv A out s H0 E).nox.A.units + 64 < cLine) (B : Bl mg) : PSs (cxOf CX0 P w K mg base nLl6 "_law_line" (defScope sLl6) f cdv A out s H0 E).nox [llS 0, llS 1] tMk := by
  refine pss_imp (pss_cons (ps_expr (pe_bm PySem.F.plainAttrs_list PySem.F.slot_list_append PySem.F.type_list_append mt_append (pv 2) (pa_cons (pe_cmpR (op_eqD hun) (pe_slice sl_list (pv 1) (po_some (pe_un un_neg pe_int)) po_none) (pe_lst (pa_cons (pv 3) pa_nil)) (nomark _)) pa_nil)))
      (pss_one (ps_set (i := 1) scLl6.nd rfl (.inl rfl) (pe_slice sl_list (pv 1) po_none (po_some (pe_op op_sub (pe_callB call_len_seq (by rfl) B.len PySem.boot_len (pa_cons (pv 1) pa_nil)) (pe_callTy call_int1 (by rfl) B.int PyProof.Rows.boot_int (pa_cons (pe_ix ix_list (pv 2) (pe_un un_neg pe_int) (fun _ _ => rfl)) pa_nil)))))))) (fun D σ H h => ?_)
  obtain ⟨a, p, M, m, r, bs, y4, y5, rfl, hp, hM, pM, cm, cr, rl, bl, nx⟩ := h
  have z1 : 1 ≤ sizeLine := by rw [sizeLine_eq]; decide
  refine ⟨_, rfl, .inl ⟨rfl, _, SqL.of hM⟩, _, rfl, 1, rfl, _, rfl, p, _, rfl, SqL.of hp, fun p2 np2 => ⟨_, rfl, z1, fun p3 np3 => ?_⟩⟩
  rw [cut_last] at np3 ⊢
  have s2 := same_new (o := HO.lst ((r.map wV).drop ((r.map wV).length - 1))) np2
  have e2 : (r.map wV).drop ((r.map wV).length - 1) = (r.drop (r.length - 1)).map wV := by rw [List.length_map, List.map_drop]
  have h2 : upd H p2 (HO.lst ((r.map wV).drop ((r.map wV).length - 1))) p2 = some (.lst ((r.drop (r.length - 1)).map wV)) := by rw [upd_same, e2]
  generalize upd H p2 (HO.lst ((r.map wV).drop ((r.map wV).length - 1))) = H2 at h2 s2 np3 ⊢
  have s3 := same_new (o := HO.lst [wV m]) np3
  refine ⟨wsD (r.drop (r.length - 1)), wsD [m], dp_ws (s3 _ _ h2), dp_ws (by rw [upd_same]; rfl), sh_ws (fun w hw => cr w (List.mem_of_mem_drop hw)), sh_ws (ch_one cm), ?_⟩
  rw [eqv_ws, last_dec]
  have s13 := s2.trans s3
  have hM3 := s13 _ _ hM
  have hp3 := s13 _ _ hp
  generalize hb : decide (r.getLast? = some m) = b at nx ⊢
  generalize upd H2 p3 (HO.lst [wV m]) = H3 at s13 hM3 hp3 ⊢
  refine ⟨M, bs.map V.bl, .bl b, rfl, rfl, hM3, small1000 (by rw [List.length_map]; omega), ?_⟩
  have hM4 := upd_same (H := H3) (a := M) (o := HO.lst (bs.map V.bl ++ [V.bl b]))
  have hp4 : upd H3 M (.lst (bs.map V.bl ++ [V.bl b])) p = some (.lst (r.map wV)) := by rw [upd_ne pM]; exact hp3
  have k4 : ∀ c o, H c = some o → c ≠ M → upd H3 M (.lst (bs.map V.bl ++ [V.bl b])) c = some o := fun c o h n => by rw [upd_ne n]; exact s13 _ _ h
  have f4 : ∀ c, upd H3 M (.lst (bs.map V.bl ++ [V.bl b])) c = none → H c = none := fun c h => by
    cases z : H c with
    | none => rfl
    | some o =>
      by_cases e : c = M
      · subst e; rw [upd_same] at h; cases h
      · rw [k4 c o z e] at h; cases h
  generalize upd H3 M (.lst (bs.map V.bl ++ [V.bl b])) = H4 at hM4 hp4 k4 f4 ⊢
  refine ⟨_, rfl, _, rfl, p, _, rfl, .inl (SqL.of hp4), _, rfl, 1, rfl, M, bs.map V.bl ++ [V.bl b], _, .bl b, rfl, rfl, SqL.of hM4, at_lastD46 _ _, .inr ⟨_, rfl, _, _, rfl, rfl, ?_⟩⟩
  refine ⟨_, rfl, p, _, rfl, SqL.of hp4, fun p5 np5 => ?_⟩
  rw [cut_ln]
  have s5 := same_new (o := HO.lst (if b = true then (r.map wV).dropLast else r.map wV)) np5
  have h5 := upd_same (H := H4) (a := p5) (o := HO.lst (if b = true then (r.map wV).dropLast else r.map wV))
  refine nx _ p5 (fun c o h n => s5 _ _ (k4 c o h n)) (f4 _ np5) (by rw [h5, if_drop]) ?_
  rw [s5 _ _ hM4, List.map_append]; rfl
theorem ok_ll6 (F : Fun K "_law_line" "_law_line" sLl6 f fd) (B : Bl mg) (GN : Cal P w K mg base "_law_number" 1 ["_law_word"] spLm6) : FnOk P w K mg base CX0 2 f fd ["_law_words"] spLl6 := by
  refine F.ok scLl6 (fun vs H Q E h => ?_) (fun cdv A outer s H vs Q E hr h => ?_)
  · obtain ⟨a, ws, rfl, _⟩ := h
    rfl
  · obtain ⟨a, ws, rfl, ha, ne, wl, wk, qn, qs⟩ := h
    refine ⟨_, (pss_cons (ps_if (pt_cmpR op_ne (pe_ix ix_list (pv 0) pe_int (fun _ _ => rfl)) pe_str (nomark _)) (pss_one (ps_ret pe_non)) pss_nil)
      (pss_cons (ps_par (i := 1) (j := 2) (by rfl) scLl6.nd rfl rfl (by decide) rfl rfl (pa_cons (pe_slice sl_list (pv 0) (po_some pe_int) po_none) (pa_cons (pe_lst pa_nil) pa_nil)) (by rfl))
      (pss_cons (ps_for PassesOwn.never rfl (pi_list (pe_lst (pa_cons pe_str (pa_cons pe_str pa_nil)))) (pg_name (i := 3) scLl6.nd rfl (.inl rfl)) (segMk hr.units B))
      (pss_cons (ps_setLc (i := 4) (own := [("_law_word", 5)]) (g := (gName 5)) rfl scLl6.nd rfl rfl (sw_true rfl rfl rfl (by decide +kernel)) (pi_list (pv 1))
        (blkOk_by (N := nLl6) (sc := defScope sLl6) (by decide +kernel)) (fun _ _ _ _ _ => (pg_name (i := 5) scLl6.nd rfl (.inl rfl))) (fun _ _ _ _ _ => pts_nil)
        (fun _ _ _ _ _ => pe_cal GN hr (by rfl) (pa_cons (pv 5) pa_nil)))
      (pss_one (ps_ret (pe_ifExp (pt_cmpR op_in_seq (pe_un un_neg pe_int) (pv 4) rfl) pe_non (pe_tup (pa_cons (pe_callTy call_tupN (by rfl) B.tuple PyProof.Rows.boot_tuple (pa_cons (pv 4) pa_nil)) (pa_cons (pe_ix ix_list (pv 2) pe_int (fun _ _ => rfl)) (pa_cons (pe_ix ix_list (pv 2) pe_int (fun _ _ => rfl)) pa_nil))))))))))), ?_⟩
    have z2 : 2 ≤ sizeLine := by rw [sizeLine_eq]; decide
    have cK : Str.ofString "kind" = sS kindL := eq_sS (by decide +kernel)
    have cH : Str.ofString "hollow" = sS hollowL := eq_sS (by decide +kernel)
    have cC : Str.ofString "closed" = sS closedL := eq_sS (by decide +kernel)
    obtain ⟨x, r, rfl⟩ : ∃ x r, ws = x :: r := by cases ws with | nil => exact absurd rfl ne | cons x r => exact ⟨x, r, rfl⟩
    refine ⟨_, rfl, a, _, 0, wV x, rfl, rfl, SqL.of ha, atI_nat (j := 0) rfl, rfl, _, rfl, ?_⟩
    rw [cK]
    by_cases ck : x = kindL
    · subst ck
      have wl' : r.length + 1 ≤ 900 := wl
      refine iteE (by simp) ⟨_, rfl, _, rfl, a, _, rfl, SqL.of ha, fun p np => ?_⟩
      rw [cut_tail]
      have s1 := same_new (o := HO.lst ((((kindL :: r).map wV)).drop 1)) np
      have hp : upd H p (HO.lst ((((kindL :: r).map wV)).drop 1)) p = some (.lst (r.map wV)) := by rw [upd_same]; rfl
      generalize upd H p (HO.lst ((((kindL :: r).map wV)).drop 1)) = H1 at hp s1 ⊢
      refine ⟨Nat.zero_le _, fun M nM => ⟨_, _, rfl, z2, fun Lm nLm => ?_⟩⟩
      have hk : kpW (kindL :: r) = (numsW (if decide ((if decide (r.getLast? = some hollowL) = true then r.dropLast else r).getLast? = some closedL) = true then (if decide (r.getLast? = some hollowL) = true then r.dropLast else r).dropLast else (if decide (r.getLast? = some hollowL) = true then r.dropLast else r))).map fun ns => (ns, decide ((if decide (r.getLast? = some hollowL) = true then r.dropLast else r).getLast? = some closedL), decide (r.getLast? = some hollowL)) := by
        unfold kpW
        rw [if_pos (show (kindL :: r).head? = some kindL from rfl)]; rfl
      generalize hb1 : decide (r.getLast? = some hollowL) = b1 at hk
      generalize hr1 : (if b1 = true then r.dropLast else r) = r1 at hk
      generalize hb2 : decide (r1.getLast? = some closedL) = b2 at hk
      generalize hr2 : (if b2 = true then r1.dropLast else r1) = r2 at hk
      have m1 : ∀ w ∈ r1, w ∈ r := fun w hw => by
        rw [← hr1] at hw
        cases b1 with
        | true => exact List.dropLast_subset _ hw
        | false => exact hw
      have m2 : ∀ w ∈ r2, w ∈ r1 := fun w hw => by
        rw [← hr2] at hw
        cases b2 with
        | true => exact List.dropLast_subset _ hw
        | false => exact hw
      have l1 : r1.length ≤ r.length := by
        rw [← hr1]
        cases b1 <;> simp
      have l2 : r2.length ≤ r1.length := by
        rw [← hr2]
        cases b2 <;> simp
      have ch : ∀ w ∈ r, chOk w := fun w hw => (wk w (List.mem_cons_of_mem _ hw)).1
      have sM := same_new (o := HO.lst []) nM
      have hM2 := upd_same (H := H1) (a := M) (o := HO.lst [])
      have pM : p ≠ M := fun z => by rw [z, nM] at hp; cases hp
      have nMH : H M = none := s1.free nM
      generalize upd H1 M (.lst []) = H2 at sM hM2 nLm ⊢
      have sL := same_new (o := HO.lst [V.str (Str.ofString "hollow"), V.str (Str.ofString "closed")]) nLm
      have hLm : upd H2 Lm (HO.lst [V.str (Str.ofString "hollow"), V.str (Str.ofString "closed")]) Lm = some (.lst [wV hollowL, wV closedL]) := by rw [upd_same, cH, cC]
      have hM3 := sL _ _ hM2
      have LM : Lm ≠ M := fun z => by rw [z, hM2] at nLm; cases nLm
      have hp3 := sL _ _ (sM _ _ hp)
      have s03 : Same H _ := s1.trans (sM.trans sL)
      generalize upd H2 Lm (HO.lst [V.str (Str.ofString "hollow"), V.str (Str.ofString "closed")]) = H3 at s03 hLm hM3 hp3 ⊢
      let RI : Nat → List (List Nat) × List Bool := fun i => match i with
        | 0 => (r, [])
        | 1 => (r1, [b1])
        | _ => (r2, [b1, b2])
      refine ⟨Lm, rfl, ⟨_, SqL.of hLm⟩, for_list (K := K) (a := Lm) (xs := [wV hollowL, wV closedL]) (fun i σ H' => ∃ (p' : Addr) (y3 : Option V), σ = [some (.ref a), some (.ref p'), some (.ref M), y3, none, none] ∧ Same H H' ∧ H' p' = some (.lst ((RI i).1.map wV)) ∧ H' M = some (.lst ((RI i).2.map V.bl)) ∧ H' Lm = some (.lst [wV hollowL, wV closedL]) ∧ p' ≠ M)
        ⟨p, none, rfl, s03, hp3, hM3, hLm, pM⟩ (fun i σ H' _ pp => by obtain ⟨_, _, _, _, _, _, h, _⟩ := pp; exact SqL.of h) (fun i x σ H' hx pp => ?_) (fun σ H' pp => ?_)⟩
      · obtain ⟨p', y3, rfl, s', hp', hM', hL', pM'⟩ := pp
        have pn : ∀ {q : Addr}, H' q = none → q ≠ M := fun {q} h z => by rw [z, hM'] at h; cases h
        match i, hx, hp', hM' with
        | 0, hx, hp', hM' =>
          cases hx
          exact ⟨a, p', M, hollowL, r, [], none, none, rfl, hp', hM', pM', lit_ok.2.2.1, ch, by omega, Nat.zero_le _, fun H4 p4 k n4 h4 hM4 => ⟨p4, _, rfl, fun c o h => k c o (s' _ _ h) (fun z => by rw [z, nMH] at h; cases h), by rw [hb1, hr1] at h4; exact h4, by rw [hb1] at hM4; exact hM4, k _ _ hL' LM, pn n4⟩⟩
        | 1, hx, hp', hM' =>
          cases hx
          exact ⟨a, p', M, closedL, r1, [b1], none, none, rfl, hp', hM', pM', lit_ok.2.2.2.1, fun w hw => ch w (m1 w hw), by omega, (show 1 ≤ 2 by decide), fun H4 p4 k n4 h4 hM4 => ⟨p4, _, rfl, fun c o h => k c o (s' _ _ h) (fun z => by rw [z, nMH] at h; cases h), by rw [hb2, hr2] at h4; exact h4, by rw [hb2] at hM4; exact hM4, k _ _ hL' LM, pn n4⟩⟩
        | i + 2, hx, _, _ => simp at hx
      · obtain ⟨p', y3, rfl, s', hp', hM', hL', pM'⟩ := pp
        have hp' : H' p' = some (.lst (r2.map wV)) := hp'
        have hM' : H' M = some (.lst [V.bl b1, .bl b2]) := hM'
        refine ⟨_, rfl, p', rfl, ⟨_, SqL.of hp'⟩, fun D nD => ?_⟩
        refine lc_lI (K := K) (a := p') (xs := r2.map wV) (ls := r2) (fun _ => true) (fun w => V.int (numI w)) nD (by rw [List.length_map]; omega) hp' (by rw [List.length_map]) (fun j x w hx hw => fmt_one gName_mono' fun H5 s5 R hR => ?_) (fun H5 s5 hD => ?_)
        · rw [List.getElem?_map, hw] at hx
          cases hx
          exact ⟨rfl, _, rfl, w, rfl, (wk w (List.mem_cons_of_mem _ (m1 w (m2 w (List.mem_of_getElem? hw))))).2, fun H6 s6 => hR H6 s6⟩
        rw [filt_all] at hD
        have hM5 := s5 _ _ hM'
        have s05 := s'.trans s5
        have fl : (r2.map fun w => V.int (numI w)).all flatV = true := List.all_eq_true.mpr fun v hv => by
          obtain ⟨i, _, rfl⟩ := List.mem_map.mp hv
          rfl
        refine ⟨1, rfl, _, rfl, D, _, rfl, .inl (SqL.of hD), rfl, fl, _, rfl, ?_⟩
        have ei : (if (false : Bool) = true then !inV (V.int (-1)) (r2.map fun w => V.int (numI w)) else inV (V.int (-1)) (r2.map fun w => V.int (numI w))) = !(r2.all fun w => (numW w).isSome) := inV_num r2
        rw [ei]
        cases hall : r2.all fun w => (numW w).isSome with
        | false =>
          have en : numsW r2 = none := by unfold numsW; rw [hall]; rfl
          rw [en] at hk
          exact iteT (qn hk H5 s05)
        | true =>
          have en : numsW r2 = some (r2.map fun w => (numW w).getD 0) := by unfold numsW; rw [hall]; rfl
          rw [en] at hk
          refine iteF ⟨_, rfl, D, _, rfl, .inl hD, fun rr H8 s8 h8 => ?_⟩
          have hM8 := s8 _ _ hM5
          refine ⟨_, rfl, M, _, 1, .bl b2, rfl, rfl, SqL.of hM8, atI_nat (j := 1) rfl, _, rfl, M, _, 0, .bl b1, rfl, rfl, SqL.of hM8, atI_nat (j := 0) rfl, (show 3 ≤ sizeLine by rw [sizeLine_eq]; decide), fun t nt => ?_⟩
          have s9 := same_new (o := HO.tup [V.ref rr, V.bl b2, V.bl b1]) nt
          rw [num_map hall] at h8
          exact qs _ b2 b1 hk _ t rr (s05.trans (s8.trans s9)) (s9 _ _ h8) upd_same
    · have hk : kpW (x :: r) = none := by
        unfold kpW
        rw [if_neg (by simpa using ck)]
      exact iteD (by show (!decide (wV x = V.str (sS kindL))) = true; rw [decide_eq_false (sS_ne ck)]; rfl) (qn hk H (Same.refl H))
end
end Kc

set_option Elab.async false
set_option linter.all false
set_option maxRecDepth 100000
set_option maxHeartbeats 4000000
/-! Lines spread. -/
namespace Kf
open PySem PySem.Spec PyProof.Rows L2 Kg Kd TL
structure WOk (ws : List (List Nat)) : Prop where
  ne : ws ≠ []
  ok : ∀ w ∈ ws, w ≠ [] ∧ 32 ∉ w ∧ 35 ∉ w ∧ 10 ∉ w ∧ w.length ≤ 7
  few : ws.length ≤ 9
theorem wok_kind {es : List (List Nat)} {sv : Bool} (E : Eld es sv) (cl ho : List Nat) (k : Nat) : WOk (kindW es cl ho k) := by
  refine ⟨by unfold kindW; simp, fun w hw => ?_, kindW_len (eld_len E k)⟩
  have z := word_ok (eld_lo E k) w hw
  exact ⟨z.1, z.2.1, z.2.2.1, z.2.2.2.1, by have := z.2.2.2.2; omega⟩
theorem wok_first (sv : Bool) : WOk [firstL sv] := by
  refine ⟨by simp, fun w hw => ?_, by simp⟩
  rw [List.mem_singleton.mp hw]
  cases sv <;> decide
theorem joinL_mem {S : List Nat} {c : Nat} : ∀ {ws : List (List Nat)}, c ∈ joinL S ws → c ∈ S ∨ ∃ w ∈ ws, c ∈ w
  | [], h => nomatch h
  | [w], h => .inr ⟨w, List.mem_singleton.mpr rfl, h⟩
  | w :: y :: r, h => by
    have h' : c ∈ w ++ (S ++ joinL S (y :: r)) := h
    rcases List.mem_append.mp h' with z | z
    · exact .inr ⟨w, List.mem_cons_self .., z⟩
    · rcases List.mem_append.mp z with z | z
      · exact .inl z
      · rcases joinL_mem z with y' | ⟨u, hu, z⟩
        · exact .inl y'
        · exact .inr ⟨u, List.mem_cons_of_mem _ hu, z⟩
theorem words_last (m : Nat) : ∀ ws : List (List Nat), ws ≠ [] → (∀ w ∈ ws, w ≠ [] ∧ 32 ∉ w) → wordsL (joinL (List.replicate (m + 1) 32) ws) = ws
  | [], h, _ => absurd rfl h
  | [w], _, h => by
    have z := h w (List.mem_singleton.mpr rfl)
    exact wordsL_last z.1 z.2
  | w :: y :: r, _, h => by
    have z := h w (List.mem_cons_self ..)
    show wordsL (w ++ (List.replicate (m + 1) 32 ++ joinL (List.replicate (m + 1) 32) (y :: r))) = _
    rw [List.replicate_succ, List.cons_append, wordsL_word _ z.1 z.2, ← List.replicate_succ, wordsL_sps, words_last m (y :: r) (by simp) fun u hu => h u (List.mem_cons_of_mem _ hu)]
theorem words_more (m : Nat) (t : List Nat) : ∀ ws : List (List Nat), ws ≠ [] → (∀ w ∈ ws, w ≠ [] ∧ 32 ∉ w) → wordsL (joinL (List.replicate (m + 1) 32) ws ++ 32 :: t) = ws ++ wordsL t
  | [], h, _ => absurd rfl h
  | [w], _, h => by
    have z := h w (List.mem_singleton.mpr rfl)
    exact wordsL_word t z.1 z.2
  | w :: y :: r, _, h => by
    have z := h w (List.mem_cons_self ..)
    show wordsL ((w ++ (List.replicate (m + 1) 32 ++ joinL (List.replicate (m + 1) 32) (y :: r))) ++ 32 :: t) = _
    rw [List.append_assoc, List.append_assoc, List.replicate_succ, List.cons_append, wordsL_word _ z.1 z.2, ← List.replicate_succ, wordsL_sps, words_more m t (y :: r) (by simp) fun u hu => h u (List.mem_cons_of_mem _ hu)]; rfl
theorem row_ok {ws : List (List Nat)} (W : WOk ws) (j m : Nat) (hj : j ≤ 1) (hm : m ≤ 2) (suf : List Nat) (hs : suf = [] ∨ suf = [32] ∨ (∃ t, suf = 35 :: t ∧ 10 ∉ t ∧ t.length ≤ 8) ∨ ∃ t, suf = 32 :: 35 :: t ∧ 10 ∉ t ∧ t.length ≤ 7) :
    wordsL (remL ((List.replicate j 32 ++ joinL (List.replicate (m + 1) 32) ws) ++ suf)) = ws ∧ 10 ∉ (List.replicate j 32 ++ joinL (List.replicate (m + 1) 32) ws) ++ suf ∧ ((List.replicate j 32 ++ joinL (List.replicate (m + 1) 32) ws) ++ suf).length ≤ 110 := by
  have hw : ∀ w ∈ ws, w ≠ [] ∧ 32 ∉ w := fun w h => ⟨(W.ok w h).1, (W.ok w h).2.1⟩
  have no : ∀ c, c ≠ 32 → (∀ w ∈ ws, c ∉ w) → c ∉ List.replicate j 32 ++ joinL (List.replicate (m + 1) 32) ws := fun c c32 hc h => by
    rcases List.mem_append.mp h with z | z
    · exact c32 (List.eq_of_mem_replicate z)
    · rcases joinL_mem z with z | ⟨w, h1, h2⟩
      · exact c32 (List.eq_of_mem_replicate z)
      · exact hc w h1 h2
  have n35 := no 35 (by decide) fun w h => (W.ok w h).2.2.1
  have n10 := no 10 (by decide) fun w h => (W.ok w h).2.2.2.1
  have len : (List.replicate j 32 ++ joinL (List.replicate (m + 1) 32) ws).length ≤ 100 := by
    have h1 := joinL_len (List.replicate (m + 1) 32) ws
    have h2 := sum_few (c := 7) (ws := ws) fun w h => (W.ok w h).2.2.2.2
    have h3 := W.few
    rw [List.length_append, List.length_replicate]
    rw [List.length_replicate] at h1
    have : ws.length * (m + 1) ≤ 9 * 3 := Nat.mul_le_mul h3 (by omega)
    omega
  have w0 : wordsL (List.replicate j 32 ++ joinL (List.replicate (m + 1) 32) ws) = ws := by rw [wordsL_sps]; exact words_last m ws W.ne hw
  have w1 : wordsL ((List.replicate j 32 ++ joinL (List.replicate (m + 1) 32) ws) ++ [32]) = ws := by
    rw [List.append_assoc, wordsL_sps, words_more m [] ws W.ne hw, wordsL_nil, List.append_nil]
  generalize List.replicate j 32 ++ joinL (List.replicate (m + 1) 32) ws = x at n35 n10 len w0 w1 ⊢
  rcases hs with rfl | rfl | ⟨t, rfl, ht, tl'⟩ | ⟨t, rfl, ht, tl'⟩
  · rw [List.append_nil]
    exact ⟨by rw [remL_free n35, w0], n10, by omega⟩
  · refine ⟨by rw [remL_free (by simp [n35]), w1], by simp [n10], by simp; omega⟩
  · exact ⟨by rw [remL_at t n35, w0], by simp [n10, ht], by simp; omega⟩
  · have e : x ++ 32 :: 35 :: t = (x ++ [32]) ++ 35 :: t := by simp
    rw [e]
    exact ⟨by rw [remL_at t (by simp [n35]), w1], by simp [n10, ht], by simp; omega⟩
/-- the lines with words among these -/
def wl0 (fs : List (List Nat)) : List (List (List Nat)) := (fs.map fun p => wordsL (remL p)).filter fun p => decide (0 < p.length)
theorem wl0_app (a b : List (List Nat)) : wl0 (a ++ b) = wl0 a ++ wl0 b := by unfold wl0; rw [List.map_append, List.filter_append]
theorem wl0_none {x : List Nat} (h : wordsL (remL x) = []) : wl0 [x] = [] := by unfold wl0; rw [List.map_cons, List.map_nil, h]; rfl
theorem wl0_one {x : List Nat} {ws : List (List Nat)} (h : wordsL (remL x) = ws) (ne : ws ≠ []) : wl0 [x] = [ws] := by
  unfold wl0
  rw [List.map_cons, List.map_nil, h, List.filter_cons_of_pos (by simp; exact List.length_pos_iff.mpr ne)]; rfl
theorem wl_join {fs : List (List Nat)} (ne : fs ≠ []) (h : ∀ f ∈ fs, 10 ∉ f) (e : List Nat) (he : e = [] ∨ e = [10] ∨ e = [10, 10, 32, 35]) : wlL (joinL [10] fs ++ e) = wl0 fs ∧ ∀ p ∈ cutA 10 [] (joinL [10] fs ++ e), p ∈ fs ∨ p.length ≤ 2 := by
  rcases he with rfl | rfl | rfl
  · rw [List.append_nil]
    unfold wlL
    rw [cut_join0 fs ne h]
    exact ⟨rfl, fun p hp => .inl hp⟩
  · unfold wlL
    rw [cut_join fs ne h []]
    refine ⟨?_, fun p hp => ?_⟩
    · show wl0 (fs ++ [[]]) = wl0 fs
      rw [wl0_app, wl0_none (by decide), List.append_nil]
    · rcases List.mem_append.mp hp with z | z
      · exact .inl z
      · right
        rw [List.mem_singleton.mp z]; simp
  · unfold wlL
    rw [cut_join fs ne h [10, 32, 35]]
    have e2 : cutA 10 [] [10, 32, 35] = [[], [32, 35]] := by decide
    rw [e2]
    refine ⟨?_, fun p hp => ?_⟩
    · show wl0 (fs ++ [[], [32, 35]]) = wl0 fs
      rw [show ([[], [32, 35]] : List (List Nat)) = [[]] ++ [[32, 35]] from rfl, wl0_app, wl0_app, wl0_none (by decide), wl0_none (by decide)]
      simp
    · rcases List.mem_append.mp hp with z | z
      · exact .inl z
      · right
        simp at z
        rcases z with rfl | rfl <;> simp
/-- the text of kinds is cut into its lines -/
theorem cut_flat {c : Nat} : ∀ ls : List (List Nat), (∀ l ∈ ls, c ∉ l) → cutA c [] ((ls.map fun l => l ++ [c]).flatten) = ls ++ [[]]
  | [], _ => rfl
  | x :: r, h => by
    rw [List.map_cons, List.flatten_cons]
    have e : (x ++ [c]) ++ ((r.map fun l => l ++ [c]).flatten) = x ++ c :: ((r.map fun l => l ++ [c]).flatten) := by simp
    rw [e, cutA_at x [] _ (h x (List.mem_cons_self ..)), cut_flat r fun l hl => h l (List.mem_cons_of_mem _ hl)]; rfl
end Kf

set_option Elab.async false
set_option linter.all false
set_option maxRecDepth 100000
set_option maxHeartbeats 4000000
/-! the lines of a text: their words are within bounds, their signs the text's -/
namespace Kf
open PySem PySem.Spec PyProof.Rows
theorem cutA_sub (c : Nat) : ∀ (l acc w : List Nat), w ∈ cutA c acc l → ∀ x ∈ w, x ∈ acc ∨ x ∈ l
  | [], acc, w, h, x, hx => by
    have e : w = acc := List.mem_singleton.mp h
    rw [e] at hx
    exact .inl hx
  | y :: r, acc, w, h, x, hx => by
    have h : w ∈ (if y = c then acc :: cutA c [] r else cutA c (acc ++ [y]) r) := h
    split at h
    · rcases List.mem_cons.mp h with z | z
      · rw [z] at hx; exact .inl hx
      · rcases cutA_sub c r [] w z x hx with q | q
        · cases q
        · exact .inr (List.mem_cons_of_mem _ q)
    · rcases cutA_sub c r _ w h x hx with q | q
      · rcases List.mem_append.mp q with q | q
        · exact .inl q
        · rw [List.mem_singleton.mp q]; exact .inr List.mem_cons_self
      · exact .inr (List.mem_cons_of_mem _ q)
theorem lwL_few {l : List Nat} (ch : chOk l) (h : ∀ p ∈ cutA 10 [] l, p.length ≤ 800) : ∀ p ∈ lwL l, p.2 ≠ [] ∧ p.2.length ≤ 900 ∧ ∀ w ∈ p.2, chOk w ∧ w.length ≤ 800 := fun p hp => by
  unfold lwL at hp
  obtain ⟨h1, h2⟩ := List.mem_filter.mp hp
  obtain ⟨q, hq, rfl⟩ := List.mem_map.mp h1
  have hm : q.1 ∈ cutA 10 [] l := List.fst_mem_of_mem_zipIdx hq
  have hl := h _ hm
  have hr := remL_len q.1
  refine ⟨fun z => ?_, ?_, fun w hw => ⟨fun x hx => ?_, ?_⟩⟩
  · have h3 := of_decide_eq_true h2
    rw [z] at h3
    exact absurd h3 (Nat.lt_irrefl 0)
  · have := wordsL_len (remL q.1)
    show (wordsL (remL q.1)).length ≤ 900
    omega
  · have w1 : w ∈ cutA 32 [] (remL q.1) := (List.mem_filter.mp hw).1
    rcases cutA_sub 32 _ [] w w1 x hx with z | z
    · cases z
    · have z2 : x ∈ q.1 := (List.takeWhile_sublist _).subset z
      rcases cutA_sub 10 l [] q.1 hm x z2 with z3 | z3
      · cases z3
      · exact ch x z3
  · have := (wordsL_mem hw).2
    omega
theorem lwL_len (l : List Nat) : (lwL l).length ≤ (cutA 10 [] l).length := by
  unfold lwL
  refine Nat.le_trans (List.length_filter_le _ _) ?_
  rw [List.length_map, List.length_zipIdx]
  exact Nat.le_refl _
end Kf

set_option Elab.async false
set_option linter.all false
set_option maxRecDepth 100000
set_option maxHeartbeats 4000000
/-! Exceptions of own classes as values: made, asked by isinstance, their fields read. -/
namespace Kx
open PySem PySem.Spec PyProof.Rows L2 Kg Kd
section
variable {X : Cx} {pins : List (Addr × Obj)} {σ : L2.St} {H : Hp} {s : Shared}
/-- one object is changed, another is laid -/
theorem inv_two {h' : Heap} {a dx : Addr} {oa od : HO} {φ : Heap → Prop} {tk : Nat} (I : Inv X pins σ H s) (e : H a = some (.ext φ)) (k : ∀ b o, b ≠ a → s.heap.get? b = some o → h'.get? b = some o) (dn : s.heap.objs.size ≤ dx)
    (there : ∃ o, h'.get? a = some o) (na : ObjOk X.prog X.w (upd (upd H dx od) a oa) h' a oa) (nd : ObjOk X.prog X.w (upd (upd H dx od) a oa) h' dx od) : Inv X pins σ (upd (upd H dx od) a oa) { s with heap := h', toks := tk } := by
  have hdx : H dx = none := I.hok.fresh dn
  have ndx : ∀ c u, H c = some u → c ≠ dx := fun c u z => ne_of_none z hdx
  have nol : ∀ c o, s.heap.get? c = some o → c ≠ dx := fun c o z w => Nat.lt_irrefl _ (Nat.lt_of_lt_of_le (w ▸ Heap.lt_size z) dn)
  have frA : ∀ c, H c = none → c ≠ a := fun c z w => by rw [w, e] at z; exact nomatch z
  have kd : ∀ c u, H c = some u → (∀ ψ, u ≠ .ext ψ) → upd (upd H dx od) a oa c = some u := fun c u z w => by
    have ca : c ≠ a := fun v => by rw [v, e] at z; exact w φ (Option.some.inj z).symm
    rw [upd_ne ca, upd_ne (ndx c u z)]; exact z
  have U : Un X.fs [] H (upd (upd H dx od) a oa) s.heap h' :=
    { keep := fun b o z n _ _ => k b o (frA b n) z
      slot := fun b o z n _ _ => ⟨o.slots, k b o (frA b n) z⟩
      free := fun b o z n _ => by rw [upd_ne (frA b n), upd_ne (nol b o z), n]
      there := fun b o z _ => by
        by_cases w : b = a
        · rw [w]; exact there
        · exact ⟨o, k b o w z⟩
      tups := fun b xs z => kd b _ z fun ψ w => nomatch w
      frzs := fun b o u z => kd b _ z fun ψ w => nomatch w
      tbls := fun b ps z => ⟨#[], by rw [kd b _ z fun ψ w => nomatch w]; simp⟩ }
  refine I.un U fun b u z => ?_
  by_cases wa : b = a
  · rw [wa, upd_same] at z
    rw [wa, ← Option.some.inj z]; exact na
  · rw [upd_ne wa] at z
    by_cases wd : b = dx
    · rw [wd, upd_same] at z
      rw [wd, ← Option.some.inj z]; exact nd
    · rw [upd_ne wd] at z
      refine (I.hok b u z).stay (fun c o hc y => k c o (fun w => ?_) y) (fun c y => kd c _ y fun ψ w => nomatch w) (fun c xs y => kd c _ y fun ψ w => nomatch w)
      rcases hc with hc | hc
      · exact wa (hc.symm.trans w)
      · rw [w, e] at hc; exact nomatch hc
end
/-! ### a class without an __init__ of its own: X() -/
theorem pe_exc0 {X : Cx} {C : Addr} {bmB : List Value} {B newId initId : String} {x : Str} {p pos : Pos} (F : ExcBaseFacts B newId initId bmB) (q : PySem.W.excIn X.K C bmB newId = true) (gC : X.mg x = some (.ref C)) (kC : PySem.W.keepIn X.K (.ref C) = true) (hg : Gl X x)
    (hdb : (x == ("__debug__" : Str)) = false := by decide) : PE X (.Call (.Name x p) [] [] pos) (fun σ H Q => ∀ a, H a = none → Q (.ref a) (upd H a (exo a C none))) := by
  refine ⟨fun pins s σ H Q I h => wpAny_Call_Name_kw (ld_glob I hg gC (PySem.W.callWith_K0 I.kIn kC ?_) hdb)⟩
  obtain ⟨bm, N, nm, qn, bs, hd, sn, sub, ab, col, dd, k0, k1, k2, k3, k5, mN, hC, hN, hni, T⟩ := exc_obj I.kIn q
  refine wpAny_call_exc_subT (rest := []) F T hC hN hni (fun h' a M => ?_) (show 0 ≤ sizeLine by decide)
  obtain ⟨t, ht, _⟩ := M.there
  have hn : H a = none := I.hok.gone M.new
  exact ⟨.ref a, upd H a (exo a C none), I.laidN M.keeps M.new hn (exo_ok ht), rfl, h a hn⟩
/-! ### a class with an __init__ of its own: X(e, ..) -/
def tMkV (C : Addr) (sp : Sp) (ta : TA) : TE := fun σ H Q => ta σ H fun vs H1 => vs.length ≤ 1000 ∧ ∀ a, H1 a = none → sp (.ref a :: vs) (upd H1 a (exo a C none)) (fun v H2 => v = .non ∧ Q (.ref a) H2) E0
structure MkX (K : PySem.W.Frag) (C fI : Addr) (bmB : List Value) (newId : String) : Prop where
  cls : PySem.W.excInitIn K C bmB newId = true
  ini : PySem.W.findIn K (.ref C) "__init__" = some (some (.ref fI))
  fn : PySem.W.typeIn K (.ref fI) = some (.type "function")
  kp : PySem.W.keepIn K (.ref C) = true
theorem pe_mkV {X : Cx} {C fI : Addr} {bmB : List Value} {B newId initId : String} {x : Str} {p pos : Pos} {e : Expr} {es : List Expr} {ta : TA} {k : Nat} {fd : FuncData} {ps : List Str} {sp : Sp} (FB : ExcBaseFacts B newId initId bmB) (M : MkX X.K C fI bmB newId)
    (G : FnOk X.prog X.w X.K X.mg X.base CX0 k fI fd ps sp) (hr : Room (k + 1) X.A) (hb : Binds X.K fd ps []) (hg : Gl X x) (gC : X.mg x = some (.ref C)) (ha : PA X (e :: es) ta)
    (hdb : (x == ("__debug__" : Str)) = false := by decide) (he : starEach (e :: es) X.env = (false, eval e X.env) :: starEach es X.env := by rfl) (hpl : (backTo pos (starEach es X.env)).any (·.1) = false := by rfl) :
    PE X (.Call (.Name x p) (e :: es) [] pos) (tMkV C sp ta) := by
  refine ⟨fun pins s σ H Q I h => wpAny_Call_Name_kw (ld_glob I hg gC (PySem.W.callWith_K (h₀ := X.base) I.ok.mod.kin M.kp (thn (ha.run pos pins s σ H _ I h) fun us s1 ⟨vs, H1, I1, rv, hz, q1⟩ => ⟨I1.kIn, ?_⟩) he hpl) hdb)⟩
  obtain ⟨nm, N, qn, bs, bm, hd, sn, sub, ab, col, dd, k0, k1, k2, k3, k5, hC, hT⟩ := PySem.W.excInit_of I1.kIn M.cls
  obtain ⟨hp, g, dr, tk, os⟩ := s1
  have big : hp.objs.size ≤ hp.objs.size + 1 := Nat.le_succ _
  have spq := q1 (hp.objs.size + 1) (I1.hok.fresh big)
  have old : ∀ b o, hp.get? b = some o → ((hp.push (PySem.W.kdv_tup us)).push (PySem.HandSPX.excO C hp.objs.size)).get? b = some o := fun b o z => Heap.get?_push_of_some _ (Heap.get?_push_of_some _ z)
  have new : ((hp.push (PySem.W.kdv_tup us)).push (PySem.HandSPX.excO C hp.objs.size)).get? (hp.objs.size + 1) = some (PySem.HandSPX.excO C hp.objs.size) := by heap_get
  have J : Inv X pins σ (upd H1 (hp.objs.size + 1) (exo (hp.objs.size + 1) C none)) ⟨(hp.push (PySem.W.kdv_tup us)).push (PySem.HandSPX.excO C hp.objs.size), g, dr, tk, os⟩ :=
    I1.laid (t' := tk) (o := exo (hp.objs.size + 1) C none) old big (exo_ok new)
  have rv2 : Vals (V.ref (hp.objs.size + 1) :: vs) (Value.ref (hp.objs.size + 1) :: us) := .cons rfl rv
  have hlen : (Value.ref (hp.objs.size + 1) :: us).length = ps.length := (Vals.length rv2).symm.trans (G.len _ _ _ _ spq)
  have bi := hb ⟨(hp.push (PySem.W.kdv_tup us)).push (PySem.HandSPX.excO C hp.objs.size), g, dr, tk, os⟩ (Value.ref (hp.objs.size + 1) :: us) J.kIn (by rw [List.append_nil]; exact hlen)
  rw [List.append_nil] at bi
  have small : us.length ≤ sizeLine := by rw [← Paired.length rv, sizeLine_eq]; omega
  refine wpAny_call (PySem.HandSPX.call_own FB hT hC (PySem.W.looks_findIn I1.kIn M.ini) (fun self => PySem.W.bind_fn I1.kIn self M.fn) small
    (codeAny_mono (G.run _ X.stack _ _ ⟨Value.ref (hp.objs.size + 1) :: us, []⟩ _ _ _ E0 (hr.make C us []) (J.env0.make C us []) bi rv2 spq) fun r s' z => ?_))
  match r, z with
  | .error _, z => exact z.elim
  | .ok .next, z => exact z.elim
  | .ok .brk, z => exact z.elim
  | .ok .cont, z => exact z.elim
  | .ok (.ret u), z =>
    obtain ⟨v, H2, J2, ru, ev, q2⟩ := J.after z
    rw [ev] at ru
    exact ⟨ru, ⟨V.ref (hp.objs.size + 1), H2, J2, rfl, q2⟩⟩
/-! ### self.f = y of an exception that has no field yet, over any base -/
structure StX (K : PySem.W.Frag) (C : Addr) (bmB : List Value) : Prop where
  ov : PySem.W.excOver K C bmB = true
  hd : PySem.W.hasDictIn K C = true
  sa : PySem.W.findIn K (.ref C) "__setattr__" = some (some (.builtin "object.__setattr__"))
theorem stx_new {X : Cx} {pins : List (Addr × Obj)} {σ : L2.St} {H : Hp} {s : Shared} {a C : Addr} {bmB : List Value} {B : String} {f : Str} {y : V} {u : Value} {Q : Unit → Shared → Prop} {E : Value → Shared → Prop} {A : Around}
    (SF : StoreFacts B bmB "object.__setattr__" "object") (T : StX X.K C bmB) (I : Inv X pins σ H s) (e : H a = some (exo a C none)) (ht : PySem.W.takerIn X.K C f = some none) (ry : RelV y u)
    (h : ∀ dx s', H dx = none → dx ≠ a → Inv X pins σ (upd (upd H dx (exd dx [(f, y)])) a (exo a C (some dx))) s' → Q () s') : wpAny (model X.prog X.w) A (setAttr (.ref a) f u) Q E s := by
  obtain ⟨t1, ho⟩ := exo_at I.hok e
  obtain ⟨cd, hc, hd'⟩ := PySem.W.any_some T.hd
  obtain ⟨hp, g, d, t, os⟩ := s
  have K1 := I.kIn
  have hxs : a ≠ hp.objs.size := Nat.ne_of_lt (Heap.lt_size ho)
  refine PySem.W.set_plain K1 (od := none) ⟨ho, rfl, rfl, trivial⟩ T.sa (PySem.W.osa_openX (s := ⟨hp, g, d, t + 1, os⟩) (od := none) SF K1 ⟨ho, rfl, rfl, trivial⟩ T.ov ht fun b => ?_)
  refine wpAny_bind (wpAny_pure (wpAny_bind (PySem.W.instanceDict_exc (c2 := .none) ho (PySem.W.looks_clsIn K1 hc) hd' ?_)))
  have hx1 : (hp.push (PySem.W.dictOf [] 0)).get? a = _ := Heap.get?_push_of_some _ ho
  refine PySem.HandSPX.store_in_new (hp := (hp.push (PySem.W.dictOf [] 0)).update a fun o => { o with dict := some hp.objs.size }) (dx := hp.objs.size) ⟨_, #[], 0, (Heap.get?_update_ne _ _ _ _ hxs.symm).trans (Heap.get?_push_at rfl rfl), rfl, fun en he => absurd he (by simp), fun _ => rfl⟩ fun h' tk' hn hs => ?_
  have hx : h'.get? a = some { cls := .ref C, dict := some hp.objs.size, data := .fields #[.ref t1, .none, .none, .none, .bool false, .none] } := (hs.2 a hxs).trans (Heap.get?_update_self _ hx1 rfl)
  refine h hp.objs.size _ (I.hok.fresh (Nat.le_refl _)) hxs.symm (inv_two (I.tok (t + 1)) e (fun b o hb z => ?_) (Nat.le_refl _) ⟨_, hx⟩ (exo_ok hx) (exd_ok hn (relO_put (fs := []) ry fun _ => True.intro)))
  exact (hs.2 b (Nat.ne_of_lt (Heap.lt_size z))).trans ((Heap.get?_update_ne _ _ _ _ hb).trans (Heap.get?_push_of_some _ z))
/-- self.f = e, the first field -/
def tStx (K : PySem.W.Frag) (bmB : List Value) (f : Str) (to te : TE) : TS := fun D σ H => te σ H fun y H1 => to σ H1 fun x H2 => ∃ a C : Addr, x = .ref a ∧ StX K C bmB ∧ PySem.W.takerIn K C f = some none ∧ H2 a = some (exo a C none) ∧
  ∀ dx, H2 dx = none → dx ≠ a → D.nx σ (upd (upd H2 dx (exd dx [(f, y)])) a (exo a C (some dx)))
theorem ps_stx {X : Cx} {o e : Expr} {to te : TE} {f : Str} {p' pos : Pos} {bmB : List Value} {B : String} (SF : StoreFacts B bmB "object.__setattr__" "object") (ho : PE X o to) (he : PE X e te) (hs : swapsWith e (some (.Attribute o f p')) pos.line X.env = pure false := by rfl) :
    PS X (.Assign [.Attribute o f p'] e pos) (tStx X.K bmB f to te) := by
  refine ⟨fun pins s σ H D I h => plainObj_wpAny_Assign_Attribute (thn (he.run pins s σ H _ I h) fun v s1 ⟨y, H1, I1, r1, q1⟩ => thn (ho.run pins s1 σ H1 _ I1 q1) fun u s2 ⟨x, H2, I2, r2, a, C, ex, T, ht, ea, q⟩ => ?_) hs⟩
  subst ex
  cases r2
  exact stx_new SF T I2 ea ht r1 fun dx s' n ne J => ⟨σ, _, J, q dx n ne⟩
/-! ### a further field -/
theorem stx_old {X : Cx} {pins : List (Addr × Obj)} {σ : L2.St} {H : Hp} {s : Shared} {a C dx : Addr} {bmB : List Value} {B : String} {f : Str} {y : V} {u : Value} {fs : List (Str × V)} {Q : Unit → Shared → Prop} {E : Value → Shared → Prop} {A : Around}
    (SF : StoreFacts B bmB "object.__setattr__" "object") (T : StX X.K C bmB) (I : Inv X pins σ H s) (e : H a = some (exo a C (some dx))) (ed : H dx = some (exd dx fs)) (hl : fs.length ≤ 900) (ht : PySem.W.takerIn X.K C f = some none) (ry : RelV y u)
    (h : ∀ s', Inv X pins σ (upd H dx (exd dx ((f, y) :: fs))) s' → Q () s') : wpAny (model X.prog X.w) A (setAttr (.ref a) f u) Q E s := by
  obtain ⟨t1, ho⟩ := exo_at I.hok e
  obtain ⟨mA, hns, rel⟩ := exd_at I.hok ed
  obtain ⟨cd, hc, hd'⟩ := PySem.W.any_some T.hd
  obtain ⟨hp, g, d, t, os⟩ := s
  have K1 := I.kIn
  have hw := within_of rel
  obtain ⟨oD, _, _, hoD, _⟩ := id hns
  refine PySem.W.set_plain K1 (od := some oD) ⟨ho, rfl, rfl, hoD⟩ T.sa (PySem.W.osa_openX (s := ⟨hp, g, d, t + 1, os⟩) (od := some oD) SF K1 ⟨ho, rfl, rfl, hoD⟩ T.ov ht fun b => ?_)
  refine wpAny_bind (wpAny_pure (wpAny_bind (wpAny_bind (wpAny_loadPart ho (wpAny_bind ((PySem.W.looks_clsIn K1 hc).at ?_))))))
  rw [hd']
  refine wpAny_pure (a := some dx) (PySem.OEX.store_in_old hns hw (by rw [List.length_map]; omega) fun h' tk' hn hs => ?_)
  have th : ∃ o, h'.get? dx = some o := by
    obtain ⟨o, _, _, z, _⟩ := hn
    exact ⟨o, z⟩
  exact h _ ((I.tok (t + 1)).write (t' := tk') (x := dx) (e := dx) (o := exd dx ((f, y) :: fs)) (by rw [ed]; exact True.intro) (.inl rfl) (fun b o hb z => (hs.2 b hb).trans z) th (exd_ok hn (relO_put ry rel)))
def tStx2 (K : PySem.W.Frag) (bmB : List Value) (f : Str) (to te : TE) : TS := fun D σ H => te σ H fun y H1 => to σ H1 fun x H2 => ∃ (a C dx : Addr) (fs : List (Str × V)), x = .ref a ∧ StX K C bmB ∧ PySem.W.takerIn K C f = some none ∧ H2 a = some (exo a C (some dx)) ∧ H2 dx = some (exd dx fs) ∧ fs.length ≤ 900 ∧
  D.nx σ (upd H2 dx (exd dx ((f, y) :: fs)))
theorem ps_stx2 {X : Cx} {o e : Expr} {to te : TE} {f : Str} {p' pos : Pos} {bmB : List Value} {B : String} (SF : StoreFacts B bmB "object.__setattr__" "object") (ho : PE X o to) (he : PE X e te) (hs : swapsWith e (some (.Attribute o f p')) pos.line X.env = pure false := by rfl) :
    PS X (.Assign [.Attribute o f p'] e pos) (tStx2 X.K bmB f to te) := by
  refine ⟨fun pins s σ H D I h => plainObj_wpAny_Assign_Attribute (thn (he.run pins s σ H _ I h) fun v s1 ⟨y, H1, I1, r1, q1⟩ => thn (ho.run pins s1 σ H1 _ I1 q1) fun u s2 ⟨x, H2, I2, r2, a, C, dx, fs, ex, T, ht, ea, ed, hl, q⟩ => ?_) hs⟩
  subst ex
  cases r2
  exact stx_old SF T I2 ea ed hl ht r1 fun s' J => ⟨σ, _, J, q⟩
/-! ### what stands there -/
/-- an exception of the class C at a; its fields -/
def Exv (H : Hp) (a C : Addr) (fs : List (Str × V)) : Prop := (fs = [] ∧ H a = some (exo a C none)) ∨ ∃ d, H a = some (exo a C (some d)) ∧ H d = some (exd d fs)
theorem Exv.same {H H' : Hp} {a C : Addr} {fs : List (Str × V)} (h : Exv H a C fs) (s : Same H H') : Exv H' a C fs := by
  rcases h with ⟨e, h⟩ | ⟨d, h1, h2⟩
  · exact .inl ⟨e, s _ _ h⟩
  · exact .inr ⟨d, s _ _ h1, s _ _ h2⟩
section
variable {X : Cx} {pins : List (Addr × Obj)} {σ : L2.St} {H : Hp} {s : Shared}
theorem Exv.inst {a C : Addr} {fs : List (Str × V)} (h : Exv H a C fs) (I : Inv X pins σ H s) : ∃ ox od, PySem.W.InstAt s.heap a ox C od := by
  rcases h with ⟨_, h⟩ | ⟨d, h1, h2⟩
  · obtain ⟨t1, ho⟩ := exo_at I.hok h
    exact ⟨_, none, ⟨ho, rfl, rfl, trivial⟩⟩
  · obtain ⟨t1, ho⟩ := exo_at I.hok h1
    obtain ⟨mA, ⟨od, es, ep, hd, _⟩, _⟩ := exd_at I.hok h2
    exact ⟨_, some od, ⟨ho, rfl, rfl, hd⟩⟩
/-- isinstance(e, c) -/
def rIsX (K : PySem.W.Frag) : List V → Hp → VK → Prop := fun xs H Q => ∃ (a C : Addr) (fs : List (Str × V)) (c : V) (u : Value) (b : Bool), xs = [.ref a, c] ∧ Exv H a C fs ∧ ExcC K C ∧ ClsV c u ∧ PySem.W.kitOne K (.ref C) u = some b ∧ Q (.bl b) H
theorem call_isX : CallR X (.builtin "isinstance") (rIsX X.K) := by
  intro pins s σ H xs us Q I r h
  obtain ⟨a, C, fs, c, u, b, rfl, hx, T, k, e, q⟩ := h
  obtain ⟨u1, u2, rfl, r1, r2⟩ := vals2 r
  cases r1
  rw [k.eq r2]
  obtain ⟨ox, od, J⟩ := hx.inst I
  obtain ⟨cd, hc, _⟩ := PySem.W.any_some T.hd
  exact PySem.W.kia_one (PySem.W.kitx_exc (by rw [hc]; rfl) T.hg T.hk T.hs T.ha T.hn T.ht T.hm) I.kIn J e (fun z => nomatch z) fun tk => ⟨.bl b, H, I.tok tk, rfl, q⟩
/-- isinstance(e, (c, ..)) -/
def rIsXT (K : PySem.W.Frag) : List V → Hp → VK → Prop := fun xs H Q => ∃ (a C tp : Addr) (fs : List (Str × V)) (cs : List V) (ws : List Value) (b : Bool), xs = [.ref a, .ref tp] ∧ Exv H a C fs ∧ ExcC K C ∧ H tp = some (.tup cs) ∧ Paired ClsV cs ws ∧ PySem.W.kitAny K (.ref C) ws = some b ∧ Q (.bl b) H
theorem call_isXT : CallR X (.builtin "isinstance") (rIsXT X.K) := by
  intro pins s σ H xs us Q I r h
  obtain ⟨a, C, tp, fs, cs, ws, b, rfl, hx, T, hT, k, e, q⟩ := h
  obtain ⟨u1, u2, rfl, r1, r2⟩ := vals2 r
  cases r1
  cases r2
  obtain ⟨ox, od, J⟩ := hx.inst I
  obtain ⟨cd, hc, _⟩ := PySem.W.any_some T.hd
  obtain ⟨_, its, rv, o, g1, g2, n, g3⟩ := (show ObjOk X.prog X.w H s.heap tp (.tup cs) from I.hok tp _ hT)
  rw [ClsV.all k rv] at g3
  obtain ⟨oc, odd, dt, sl⟩ := o
  have g2' : oc = .type "tuple" := g2
  have g3' : dt = .seq ws.toArray n := g3
  subst g2' g3'
  exact PySem.W.kia_tup (PySem.W.kitx_exc (by rw [hc]; rfl) T.hg T.hk T.hs T.ha T.hn T.ht T.hm) I.kIn J g1 e (fun z => nomatch z) fun tk => ⟨.bl b, H, I.tok tk, rfl, q⟩
/-- e.f -/
def tFx (K : PySem.W.Frag) (f : Str) (te : TE) : TE := fun σ H Q => te σ H fun x H1 => ∃ (a C : Addr) (fs : List (Str × V)) (v : V), x = .ref a ∧ Exv H1 a C fs ∧ ExcC K C ∧ PySem.W.findIn K (.ref C) f = some none ∧ fs.lookup f = some v ∧ Q v H1
theorem pe_fx {e : Expr} {te : TE} {pos : Pos} {f : Str} (he : PE X e te) (hb : attributeBase e f X.env (eval e X.env) = eval e X.env := by rfl) : PE X (.Attribute e f pos) (tFx X.K f te) := by
  refine ⟨fun pins s σ H Q I h => attr_of hb (thn (he.run pins s σ H _ I h) fun u s1 ⟨x, H1, I1, rx, a, C, fs, v, ex, hx, T, hno, hl, q⟩ => ?_)⟩
  subst ex
  cases rx
  rcases hx with ⟨z, _⟩ | ⟨d, h1, h2⟩
  · rw [z] at hl; exact nomatch hl
  · obtain ⟨t1, ho⟩ := exo_at I1.hok h1
    obtain ⟨mA, hns, rel⟩ := exd_at I1.hok h2
    obtain ⟨od, hd, hlk⟩ := lookIn_ns hns
    obtain ⟨u2, hu, ru⟩ := RelO.some_of (v := v) (o := mA f) (by rw [← hl]; exact rel f)
    exact HandSPX.exc_get I1.kIn (od := some od) ⟨ho, rfl, rfl, hd⟩ T.hg T.hk T.hs (PySem.W.findObj_own T.hd hno rfl (by rw [hlk, hu])) (handed_of ru) ⟨v, H1, I1.tok _, ru, q⟩
end
end Kx

set_option Elab.async false
set_option linter.all false
set_option maxRecDepth 100000
set_option maxHeartbeats 4000000
/-! raise X(), X a class without an __init__ of its own. -/
namespace Kx
open PySem PySem.Spec PyProof.Rows L2 Kg Kd
theorem pmk_own0 {X : Cx} {C : Addr} {bmB : List Value} {B newId initId : String} {x : Str} {p pos : Pos} (F : ExcBaseFacts B newId initId bmB) (q : PySem.W.excIn X.K C bmB newId = true) (gC : X.mg x = some (.ref C)) (kC : PySem.W.keepIn X.K (.ref C) = true) (r : Raises X (.ref C)) (hg : Gl X x)
    (hdb : (x == ("__debug__" : Str)) = false := by decide) : PMk X (.Call (.Name x p) [] [] pos) (fun _ H Q => Q (.ref C) none H) := by
  intro pins s σ H Q I h
  refine wpAny_Call_Name_kw (ld_glob I hg gC (PySem.W.callWith_K0 I.kIn kC ?_) hdb)
  obtain ⟨bm, N, nm, qn, bs, hd, sn, sub, ab, col, dd, k0, k1, k2, k3, k5, mN, hC, hN, hni, T⟩ := exc_obj I.kIn q
  refine wpAny_call_exc_subT (rest := []) F T hC hN hni (fun h' a M => ?_) (show 0 ≤ sizeLine by decide)
  exact mk_of I M r h (I.hok.gone M.new)
/-- what is said of such a class -/
structure X0C (K : PySem.W.Frag) (mg : Str → Option Value) (x : Str) (C : Addr) : Prop where
  base : ∃ (bmB : List Value) (B newId initId : String), ExcBaseFacts B newId initId bmB ∧ PySem.W.excIn K C bmB newId = true
  kC : PySem.W.keepIn K (.ref C) = true
  sb : PySem.W.subIn K (.ref C) (.type "BaseException") = some true
  ty : PySem.W.typeIn K (.ref C) = some (.type "type")
  g : mg x = some (.ref C)
theorem pmk_x0 {X : Cx} {C : Addr} {x : Str} {p pos : Pos} (T : X0C X.K X.mg x C) (hg : Gl X x) (hdb : (x == ("__debug__" : Str)) = false := by decide) : PMk X (.Call (.Name x p) [] [] pos) (fun _ H Q => Q (.ref C) none H) := by
  obtain ⟨bmB, B, newId, initId, F, q⟩ := T.base
  exact pmk_own0 F q T.g T.kC (raises_own T.sb T.ty) hg hdb
end Kx

set_option Elab.async false
set_option linter.all false
set_option maxRecDepth 100000
set_option maxHeartbeats 4000000
/-! raise X(e, ..), X a class with an __init__ of its own over any built-in base. -/
namespace Kx
open PySem PySem.Spec PyProof.Rows L2 Kg Kd
theorem pmk_mkG {X : Cx} {G0 : List V → Hp → XK → Prop} {C fI : Addr} {bmB : List Value} {B newId initId : String} {x : Str} {p pos : Pos} {e : Expr} {es : List Expr} {ta : TA} {k : Nat} {fd : FuncData} {ps : List Str} {sp : Sp} (FB : ExcBaseFacts B newId initId bmB) (M : MkX X.K C fI bmB newId) (T : Raises X (.ref C))
    (G : FnOk X.prog X.w X.K X.mg X.base CX0 k fI fd ps sp) (hr : Room (k + 1) X.A) (hb : Binds X.K fd ps []) (hg : Gl X x) (gC : X.mg x = some (.ref C)) (ha : PA X (e :: es) ta)
    (hG : ∀ vs H1 Q, G0 vs H1 Q → vs.length ≤ 1000 ∧ ∀ a, H1 a = none → sp (.ref a :: vs) (upd H1 a (exo a C none)) (fun v H2 => v = .non ∧ ∃ (d : Addr) (fs : List (Str × V)), H2 a = some (exo a C (some d)) ∧ H2 d = some (exd d fs) ∧ H1 d = none ∧ Q (.ref C) (some d) (upd (del H2 a) d (.xd fs))) E0)
    (hdb : (x == ("__debug__" : Str)) = false := by decide) (he : starEach (e :: es) X.env = (false, eval e X.env) :: starEach es X.env := by rfl) (hpl : (backTo pos (starEach es X.env)).any (·.1) = false := by rfl) :
    PMk X (.Call (.Name x p) (e :: es) [] pos) (fun σ H Q => ta σ H fun vs H1 => G0 vs H1 Q) := by
  intro pins s σ H Q I h
  refine wpAny_Call_Name_kw (ld_glob I hg gC (PySem.W.callWith_K (h₀ := X.base) I.ok.mod.kin M.kp (thn (ha.run pos pins s σ H _ I h) fun us s1 ⟨vs, H1, I1, rv, g1⟩ => ⟨I1.kIn, ?_⟩) he hpl) hdb)
  obtain ⟨hz, q1⟩ := hG vs H1 Q g1
  obtain ⟨nm, N, qn, bs, bm, hd, sn, sub, ab, col, dd, k0, k1, k2, k3, k5, hC, hT⟩ := PySem.W.excInit_of I1.kIn M.cls
  obtain ⟨hp, g, dr, tk, os⟩ := s1
  have big : hp.objs.size ≤ hp.objs.size + 1 := Nat.le_succ _
  have spq := q1 (hp.objs.size + 1) (I1.hok.fresh big)
  have old : ∀ b o, hp.get? b = some o → ((hp.push (PySem.W.kdv_tup us)).push (PySem.HandSPX.excO C hp.objs.size)).get? b = some o := fun b o z => Heap.get?_push_of_some _ (Heap.get?_push_of_some _ z)
  have new : ((hp.push (PySem.W.kdv_tup us)).push (PySem.HandSPX.excO C hp.objs.size)).get? (hp.objs.size + 1) = some (PySem.HandSPX.excO C hp.objs.size) := by heap_get
  have J : Inv X pins σ (upd H1 (hp.objs.size + 1) (exo (hp.objs.size + 1) C none)) ⟨(hp.push (PySem.W.kdv_tup us)).push (PySem.HandSPX.excO C hp.objs.size), g, dr, tk, os⟩ :=
    I1.laid (t' := tk) (o := exo (hp.objs.size + 1) C none) old big (exo_ok new)
  have rv2 : Vals (V.ref (hp.objs.size + 1) :: vs) (Value.ref (hp.objs.size + 1) :: us) := .cons rfl rv
  have hlen : (Value.ref (hp.objs.size + 1) :: us).length = ps.length := (Vals.length rv2).symm.trans (G.len _ _ _ _ spq)
  have bi := hb ⟨(hp.push (PySem.W.kdv_tup us)).push (PySem.HandSPX.excO C hp.objs.size), g, dr, tk, os⟩ (Value.ref (hp.objs.size + 1) :: us) J.kIn (by rw [List.append_nil]; exact hlen)
  rw [List.append_nil] at bi
  have small : us.length ≤ sizeLine := by rw [← Paired.length rv, sizeLine_eq]; omega
  refine wpAny_call (PySem.HandSPX.call_own FB hT hC (PySem.W.looks_findIn I1.kIn M.ini) (fun self => PySem.W.bind_fn I1.kIn self M.fn) small
    (codeAny_mono (G.run _ X.stack _ _ ⟨Value.ref (hp.objs.size + 1) :: us, []⟩ _ _ _ E0 (hr.make C us []) (J.env0.make C us []) bi rv2 spq) fun r s' z => ?_))
  match r, z with
  | .error _, z => exact z.elim
  | .ok .next, z => exact z.elim
  | .ok .brk, z => exact z.elim
  | .ok .cont, z => exact z.elim
  | .ok (.ret u), z =>
    obtain ⟨v, H2, os2, bare2, un2, hok2, ru, ev, d, fs, ea, ed, hd1, q2⟩ := z
    subst ev
    obtain ⟨h2, g2, d2, t2, os'⟩ := s'
    exact ⟨ru, mk_end T I1 big old un2 hok2 os2 bare2 ea ed hd1 q2⟩
abbrev veL : List Value := [.type "ValueError", .type "Exception", .type "BaseException", .type "object"]
abbrev leL : List Value := [.type "LookupError", .type "Exception", .type "BaseException", .type "object"]
/-- an __init__ that keeps one value, two values -/
def spX1 (f : Str) (C : Addr) : Sp := fun vs H Q _ => ∃ (a : Addr) (v : V), vs = [.ref a, v] ∧ H a = some (exo a C none) ∧ ∀ dx, H dx = none → dx ≠ a → Q .non (upd (upd H dx (exd dx [(f, v)])) a (exo a C (some dx)))
def spX2 (f g : Str) (C : Addr) : Sp := fun vs H Q _ => ∃ (a : Addr) (v u : V), vs = [.ref a, v, u] ∧ H a = some (exo a C none) ∧ ∀ dx, H dx = none → dx ≠ a → Q .non (upd (upd (upd H dx (exd dx [(f, v)])) a (exo a C (some dx))) dx (exd dx [(g, u), (f, v)]))
/-- what an exception of the class C called x keeps of the n values that it is made of -/
structure RaC (P : Program) (w : World) (K : PySem.W.Frag) (mg : Str → Option Value) (base : Heap) (x : Str) (C : Addr) (n : Nat) (fl : List V → List (Str × V)) : Prop where
  ex : ∃ (fI : Addr) (fd : FuncData) (ps : List Str) (sp : Sp) (bmB : List Value) (B newId initId : String), ExcBaseFacts B newId initId bmB ∧ MkX K C fI bmB newId ∧ FnOk P w K mg base CX0 1 fI fd ps sp ∧ Binds K fd ps [] ∧
    ∀ (vs : List V) (H : Hp) (a : Addr) (Q : XK), vs.length = n → H a = none → (∀ H' d, Same H H' → H d = none → H' d = some (.xd (fl vs)) → Q (.ref C) (some d) H') →
      sp (.ref a :: vs) (upd H a (exo a C none)) (fun v H2 => v = .non ∧ ∃ (d : Addr) (fs : List (Str × V)), H2 a = some (exo a C (some d)) ∧ H2 d = some (exd d fs) ∧ H d = none ∧ Q (.ref C) (some d) (upd (del H2 a) d (.xd fs))) E0
  g : mg x = some (.ref C)
  sb : PySem.W.subIn K (.ref C) (.type "BaseException") = some true
  ty : PySem.W.typeIn K (.ref C) = some (.type "type")
  small : n ≤ 100
theorem same_x {H : Hp} {a d C : Addr} {f : Str} {v : V} {ys : List (Str × V)} (na : H a = none) (nd : H d = none) (ne : d ≠ a) : Same H (upd (del (upd (upd (upd H a (exo a C none)) d (exd d [(f, v)])) a (exo a C (some d))) a) d (.xd ys)) := fun c o z => by
  have n1 := ne_of_none z na
  have n2 := ne_of_none z nd
  rw [upd_ne n2, del_ne n1, upd_ne n1, upd_ne n2, upd_ne n1]
  exact z
theorem rac1 {P : Program} {w : World} {K : PySem.W.Frag} {mg : Str → Option Value} {base : Heap} {x f : Str} {C fI : Addr} {fd : FuncData} {ps : List Str} {bmB : List Value} {B newId initId : String} (FB : ExcBaseFacts B newId initId bmB) (M : MkX K C fI bmB newId)
    (G : FnOk P w K mg base CX0 1 fI fd ps (spX1 f C)) (b : Binds K fd ps []) (g : mg x = some (.ref C)) (sb : PySem.W.subIn K (.ref C) (.type "BaseException") = some true) (ty : PySem.W.typeIn K (.ref C) = some (.type "type")) :
    RaC P w K mg base x C 1 (fun vs => [(f, vs.headD .non)]) := by
  refine ⟨⟨fI, fd, ps, _, bmB, B, newId, initId, FB, M, G, b, fun vs H a Q hl na q => ?_⟩, g, sb, ty, by decide⟩
  obtain ⟨v, rfl⟩ : ∃ v, vs = [v] := by
    match vs, hl with
    | [v], _ => exact ⟨v, rfl⟩
  refine ⟨a, v, rfl, upd_same, fun dx nd ne => ⟨rfl, dx, [(f, v)], upd_same, by rw [upd_ne ne, upd_same], by rw [upd_ne ne] at nd; exact nd, ?_⟩⟩
  have nd1 : H dx = none := by rw [upd_ne ne] at nd; exact nd
  exact q _ dx (same_x na nd1 ne) nd1 upd_same
theorem rac2 {P : Program} {w : World} {K : PySem.W.Frag} {mg : Str → Option Value} {base : Heap} {x f h : Str} {C fI : Addr} {fd : FuncData} {ps : List Str} {bmB : List Value} {B newId initId : String} (FB : ExcBaseFacts B newId initId bmB) (M : MkX K C fI bmB newId)
    (G : FnOk P w K mg base CX0 1 fI fd ps (spX2 f h C)) (b : Binds K fd ps []) (g : mg x = some (.ref C)) (sb : PySem.W.subIn K (.ref C) (.type "BaseException") = some true) (ty : PySem.W.typeIn K (.ref C) = some (.type "type")) :
    RaC P w K mg base x C 2 (fun vs => [(h, vs.tail.headD .non), (f, vs.headD .non)]) := by
  refine ⟨⟨fI, fd, ps, _, bmB, B, newId, initId, FB, M, G, b, fun vs H a Q hl na q => ?_⟩, g, sb, ty, by decide⟩
  obtain ⟨v, u, rfl⟩ : ∃ v u, vs = [v, u] := by
    match vs, hl with
    | [v, u], _ => exact ⟨v, u, rfl⟩
  refine ⟨a, v, u, rfl, upd_same, fun dx nd ne => ⟨rfl, dx, [(h, u), (f, v)], by rw [upd_ne (Ne.symm ne), upd_same], upd_same, by rw [upd_ne ne] at nd; exact nd, ?_⟩⟩
  have nd1 : H dx = none := by rw [upd_ne ne] at nd; exact nd
  refine q _ dx (fun c o z => ?_) nd1 upd_same
  have n1 := ne_of_none z na
  have n2 := ne_of_none z nd1
  rw [upd_ne n2, del_ne n1, upd_ne n2]
  have y := same_x (C := C) (f := f) (v := v) (ys := []) na nd1 ne c o z
  rw [upd_ne n2, del_ne n1] at y
  exact y
/-- raise X(e, ..) -/
theorem pmk_ra {X : Cx} {x : Str} {C : Addr} {n : Nat} {fl : List V → List (Str × V)} {p pos : Pos} {e : Expr} {es : List Expr} {ta : TA} (R : RaC X.prog X.w X.K X.mg X.base x C n fl) (hr : Room 2 X.A) (hg : Gl X x) (ha : PA X (e :: es) ta)
    (hdb : (x == ("__debug__" : Str)) = false := by decide) (he : starEach (e :: es) X.env = (false, eval e X.env) :: starEach es X.env := by rfl) (hpl : (backTo pos (starEach es X.env)).any (·.1) = false := by rfl) :
    PMk X (.Call (.Name x p) (e :: es) [] pos) (fun σ H Q => ta σ H fun vs H1 => vs.length = n ∧ ∀ H' d, Same H1 H' → H1 d = none → H' d = some (.xd (fl vs)) → Q (.ref C) (some d) H') := by
  obtain ⟨fI, fd, ps, sp, bmB, B, newId, initId, FB, M, G, b, hs⟩ := R.ex
  exact pmk_mkG (G0 := fun vs H1 Q => vs.length = n ∧ ∀ H' d, Same H1 H' → H1 d = none → H' d = some (.xd (fl vs)) → Q (.ref C) (some d) H') FB M (raises_own R.sb R.ty) G hr b hg R.g ha
    (fun vs H1 Q ⟨hl, q⟩ => ⟨by rw [hl]; exact Nat.le_trans R.small (by decide), fun a na => hs vs H1 a Q hl na q⟩) hdb he hpl
end Kx

set_option Elab.async false
set_option linter.all false
set_option maxRecDepth 100000
set_option maxHeartbeats 4000000
/-! defs that raise, the context of what they raise known to be None (so a clause that catches it may raise). -/
namespace Kx
open PySem PySem.Spec PyProof.Rows L2 Kg Kd
theorem trN {h base : Heap} {e : Addr} {cls : Value} {d : Option Addr} {fl : Value} (x : HandSPX.TracedZ h base e (L2N.Zn cls d) fl) : HandSPX.TracedZ h base e (Zc cls d) fl := by
  obtain ⟨oe, vs, T, oT, ts, he, hz, r⟩ := x
  exact ⟨oe, vs, T, oT, ts, he, hz.zc, r⟩
theorem flyN {h base : Heap} {l : List Env} {e : Addr} {cls : Value} {d : Option Addr} (x : HandSPX.FlyingZ base l e (L2N.Zn cls d) h) : HandSPX.FlyingZ base l e (Zc cls d) h := ⟨x.1, x.2.1, x.2.2.1, trN x.2.2.2⟩
theorem cxN {P : Program} {w : World} {outer : List Env} {H : Hp} {s s' : Shared} {E : XK} {u : Value} (c : L2N.CX P w outer H s E u s') : L2.CX P w outer H s E u s' := by
  obtain ⟨a, B, H', cls, d, e, fl, r⟩ := c
  exact ⟨a, B, H', cls, d, e, flyN fl, r⟩
theorem xeN {X : Cx} {W : WX} {u : Value} {s' : Shared} (x : L2N.XE X W u s') : L2.XE X W u s' := by
  obtain ⟨a, B, sI, pins, σ, H, cls, d, e, I, nb, up, sky, r⟩ := x
  refine ⟨a, B, sI, pins, σ, H, cls, d, e, I, nb, up, ?_, r⟩
  rcases sky with ⟨hB, hn, hl, oe, vs, he, hz, hd, h1⟩ | fl | hh
  · exact .inl ⟨hB, hn, hl, oe, vs, he, hz.zc, hd, h1⟩
  · exact .inr (.inl (flyN fl))
  · exact .inr (.inr ⟨hh.1, hh.2.1, hh.2.2.1, trN hh.2.2.2⟩)
/-- who takes any exception takes these -/
theorem takesN {X : Cx} {W : WX} (t : L2.Takes X W) : L2N.Takes X W := fun u s' x => t u s' (xeN x)
/-- a def whose exceptions are known so promises less too -/
theorem FnOk.n {P : Program} {w : World} {K : PySem.W.Frag} {mg : Str → Option Value} {base : Heap} {k : Nat} {f : Addr} {fd : FuncData} {ps : List Str} {sp : Sp} (F : FnOk P w K mg base (L2N.CX P w) k f fd ps sp) : FnOk P w K mg base (L2.CX P w) k f fd ps sp :=
  ⟨F.len, fun A outer s H args us vs Q E hr e0 hb r hsp => codeAny_mono (F.run A outer s H args us vs Q E hr e0 hb r hsp) fun r' s' h => match r', h with
    | .error _, h => cxN h
    | .ok (.ret _), h => h
    | .ok .next, h => h
    | .ok .brk, h => h
    | .ok .cont, h => h⟩
section
variable {P : Program} {w : World} {K : PySem.W.Frag} {mg : Str → Option Value} {base : Heap}
/-- the rule for such a def -/
theorem _root_.L2.Fun.okN {x qual : Str} {st : Stmt} {f : Addr} {fd : FuncData} {N ps : List Str} {k : Nat} {sp : Sp} (F : Fun K x qual st f fd) (S : FnScope N ps (defScope st)) (len : ∀ vs H Q E, sp vs H Q E → vs.length = ps.length)
    (hbody : ∀ (cdv : Value) (A : Around) (outer : List Env) (s : Shared) (H : Hp) (vs : List V) (Q : VK) (E : XK), Room k (A.deeper (envOfC qual (defScope st) s.heap.objs.size f cdv)) → sp vs H Q E →
      ∃ t, PSs (cxOf (L2N.CX P w) P w K mg base N qual (defScope st) f cdv A outer s H E) (defBody st) t ∧ t { nx := fun _ H' => Q .non H', rt := Q } (start N vs) H) : FnOk P w K mg base (L2N.CX P w) (k + 1) f fd ps sp := by
  obtain ⟨oc, od, kV, doc, pm, an, cdv, ct, osl, rfl, lk, hcd⟩ := F.ex
  exact fn_of lk hcd S len fun A outer s H vs Q E hr hsp => hbody cdv A outer s H vs Q E hr hsp
end
theorem pmk_mkN {X : Cx} {G0 : List V → Hp → XK → Prop} {C fI : Addr} {bmB : List Value} {B newId initId : String} {x : Str} {p pos : Pos} {e : Expr} {es : List Expr} {ta : TA} {k : Nat} {fd : FuncData} {ps : List Str} {sp : Sp} (FB : ExcBaseFacts B newId initId bmB) (M : MkX X.K C fI bmB newId) (T : Raises X (.ref C))
    (G : FnOk X.prog X.w X.K X.mg X.base CX0 k fI fd ps sp) (hr : Room (k + 1) X.A) (hb : Binds X.K fd ps []) (hg : Gl X x) (gC : X.mg x = some (.ref C)) (ha : PA X (e :: es) ta)
    (hG : ∀ vs H1 Q, G0 vs H1 Q → vs.length ≤ 1000 ∧ ∀ a, H1 a = none → sp (.ref a :: vs) (upd H1 a (exo a C none)) (fun v H2 => v = .non ∧ ∃ (d : Addr) (fs : List (Str × V)), H2 a = some (exo a C (some d)) ∧ H2 d = some (exd d fs) ∧ H1 d = none ∧ Q (.ref C) (some d) (upd (del H2 a) d (.xd fs))) E0)
    (hdb : (x == ("__debug__" : Str)) = false := by decide) (he : starEach (e :: es) X.env = (false, eval e X.env) :: starEach es X.env := by rfl) (hpl : (backTo pos (starEach es X.env)).any (·.1) = false := by rfl) :
    L2N.PMk X (.Call (.Name x p) (e :: es) [] pos) (fun σ H Q => ta σ H fun vs H1 => G0 vs H1 Q) := by
  intro pins s σ H Q I h
  refine wpAny_Call_Name_kw (ld_glob I hg gC (PySem.W.callWith_K (h₀ := X.base) I.ok.mod.kin M.kp (thn (ha.run pos pins s σ H _ I h) fun us s1 ⟨vs, H1, I1, rv, g1⟩ => ⟨I1.kIn, ?_⟩) he hpl) hdb)
  obtain ⟨hz, q1⟩ := hG vs H1 Q g1
  obtain ⟨nm, N, qn, bs, bm, hd, sn, sub, ab, col, dd, k0, k1, k2, k3, k5, hC, hT⟩ := PySem.W.excInit_of I1.kIn M.cls
  obtain ⟨hp, g, dr, tk, os⟩ := s1
  have big : hp.objs.size ≤ hp.objs.size + 1 := Nat.le_succ _
  have spq := q1 (hp.objs.size + 1) (I1.hok.fresh big)
  have old : ∀ b o, hp.get? b = some o → ((hp.push (PySem.W.kdv_tup us)).push (PySem.HandSPX.excO C hp.objs.size)).get? b = some o := fun b o z => Heap.get?_push_of_some _ (Heap.get?_push_of_some _ z)
  have new : ((hp.push (PySem.W.kdv_tup us)).push (PySem.HandSPX.excO C hp.objs.size)).get? (hp.objs.size + 1) = some (PySem.HandSPX.excO C hp.objs.size) := by heap_get
  have J : Inv X pins σ (upd H1 (hp.objs.size + 1) (exo (hp.objs.size + 1) C none)) ⟨(hp.push (PySem.W.kdv_tup us)).push (PySem.HandSPX.excO C hp.objs.size), g, dr, tk, os⟩ :=
    I1.laid (t' := tk) (o := exo (hp.objs.size + 1) C none) old big (exo_ok new)
  have rv2 : Vals (V.ref (hp.objs.size + 1) :: vs) (Value.ref (hp.objs.size + 1) :: us) := .cons rfl rv
  have hlen : (Value.ref (hp.objs.size + 1) :: us).length = ps.length := (Vals.length rv2).symm.trans (G.len _ _ _ _ spq)
  have bi := hb ⟨(hp.push (PySem.W.kdv_tup us)).push (PySem.HandSPX.excO C hp.objs.size), g, dr, tk, os⟩ (Value.ref (hp.objs.size + 1) :: us) J.kIn (by rw [List.append_nil]; exact hlen)
  rw [List.append_nil] at bi
  have small : us.length ≤ sizeLine := by rw [← Paired.length rv, sizeLine_eq]; omega
  refine wpAny_call (PySem.HandSPX.call_own FB hT hC (PySem.W.looks_findIn I1.kIn M.ini) (fun self => PySem.W.bind_fn I1.kIn self M.fn) small
    (codeAny_mono (G.run _ X.stack _ _ ⟨Value.ref (hp.objs.size + 1) :: us, []⟩ _ _ _ E0 (hr.make C us []) (J.env0.make C us []) bi rv2 spq) fun r s' z => ?_))
  match r, z with
  | .error _, z => exact z.elim
  | .ok .next, z => exact z.elim
  | .ok .brk, z => exact z.elim
  | .ok .cont, z => exact z.elim
  | .ok (.ret u), z =>
    obtain ⟨v, H2, os2, bare2, un2, hok2, ru, ev, d, fs, ea, ed, hd1, q2⟩ := z
    subst ev
    obtain ⟨h2, g2, d2, t2, os'⟩ := s'
    obtain ⟨t0, G', J', kG, ge, hoe, na⟩ := mk_end0 (d2 := d2) (t2 := t2) I1 big old un2 hok2 os2 bare2 ea ed hd1
    exact ⟨ru, hp.objs.size + 1, _, _, ⟨G', g2, d2, t2, os'⟩, _, .ref C, some d, rfl, J', kG, ge, hoe, ⟨rfl, rfl, fun vs hv => by cases hv; rfl⟩, rfl, rfl, na, rfl, bare2, T, q2⟩
/-- raise X(e, ..) -/
theorem pmk_raN {X : Cx} {x : Str} {C : Addr} {n : Nat} {fl : List V → List (Str × V)} {p pos : Pos} {e : Expr} {es : List Expr} {ta : TA} (R : RaC X.prog X.w X.K X.mg X.base x C n fl) (hr : Room 2 X.A) (hg : Gl X x) (ha : PA X (e :: es) ta)
    (hdb : (x == ("__debug__" : Str)) = false := by decide) (he : starEach (e :: es) X.env = (false, eval e X.env) :: starEach es X.env := by rfl) (hpl : (backTo pos (starEach es X.env)).any (·.1) = false := by rfl) :
    L2N.PMk X (.Call (.Name x p) (e :: es) [] pos) (fun σ H Q => ta σ H fun vs H1 => vs.length = n ∧ ∀ H' d, Same H1 H' → H1 d = none → H' d = some (.xd (fl vs)) → Q (.ref C) (some d) H') := by
  obtain ⟨fI, fd, ps, sp, bmB, B, newId, initId, FB, M, G, b, hs⟩ := R.ex
  exact pmk_mkN (G0 := fun vs H1 Q => vs.length = n ∧ ∀ H' d, Same H1 H' → H1 d = none → H' d = some (.xd (fl vs)) → Q (.ref C) (some d) H') FB M (raises_own R.sb R.ty) G hr b hg R.g ha
    (fun vs H1 Q ⟨hl, q⟩ => ⟨by rw [hl]; exact Nat.le_trans R.small (by decide), fun a na => hs vs H1 a Q hl na q⟩) hdb he hpl
theorem pmk_own0N {X : Cx} {C : Addr} {bmB : List Value} {B newId initId : String} {x : Str} {p pos : Pos} (F : ExcBaseFacts B newId initId bmB) (q : PySem.W.excIn X.K C bmB newId = true) (gC : X.mg x = some (.ref C)) (kC : PySem.W.keepIn X.K (.ref C) = true) (r : Raises X (.ref C)) (hg : Gl X x)
    (hdb : (x == ("__debug__" : Str)) = false := by decide) : L2N.PMk X (.Call (.Name x p) [] [] pos) (fun _ H Q => Q (.ref C) none H) := by
  intro pins s σ H Q I h
  refine wpAny_Call_Name_kw (ld_glob I hg gC (PySem.W.callWith_K0 I.kIn kC ?_) hdb)
  obtain ⟨bm, N, nm, qn, bs, hd, sn, sub, ab, col, dd, k0, k1, k2, k3, k5, mN, hC, hN, hni, T⟩ := exc_obj I.kIn q
  refine wpAny_call_exc_subT (rest := []) F T hC hN hni (fun h' a M => ?_) (show 0 ≤ sizeLine by decide)
  exact L2N.mk_of I M r h (I.hok.gone M.new)
theorem pmk_x0N {X : Cx} {C : Addr} {x : Str} {p pos : Pos} (T : X0C X.K X.mg x C) (hg : Gl X x) (hdb : (x == ("__debug__" : Str)) = false := by decide) : L2N.PMk X (.Call (.Name x p) [] [] pos) (fun _ H Q => Q (.ref C) none H) := by
  obtain ⟨bmB, B, newId, initId, F, q⟩ := T.base
  exact pmk_own0N F q T.g T.kC (raises_own T.sb T.ty) hg hdb
/-- what one knows of a callee's exceptions, where any are taken -/
theorem passAtN {X : Cx} {W : WX} (tk : L2.Takes X W) (σ : L2.St) : PassesAt (L2N.CX X.prog X.w) X σ (WE W σ) := L2N.passAt (takesN tk) σ
end Kx

set_option Elab.async false
set_option linter.all false
set_option maxRecDepth 100000
set_option maxHeartbeats 4000000
/-! Defs and methods that may raise, each as one fact. -/
namespace Kl
open PySem PySem.Spec PyProof.Rows L2 Kg Kd
section
variable (P : Program) (w : World) (K : PySem.W.Frag) (mg : Str → Option Value) (base : Heap)
/-- a def of the module that may raise -/
structure CalX (nm : Str) (lv : Nat) (ps : List Str) (sp : Sp) : Prop where
  ex : ∃ f fd, mg nm = some (.ref f) ∧ PySem.W.keepIn K (.ref f) = true ∧ Binds K fd ps [] ∧ FnOk P w K mg base (L2N.CX P w) lv f fd ps sp
/-- a method of the class at C that may raise -/
structure MCalX (C : Addr) (m : Str) (lv : Nat) (ps : List Str) (sp : Sp) : Prop where
  ex : ∃ f fd, Meth K C m f ∧ Binds K fd ps [] ∧ FnOk P w K mg base (L2N.CX P w) lv f fd ps sp
end
/-- in a def that raises: what a callee lets out goes on -/
theorem passO {P : Program} {w : World} {K : PySem.W.Frag} {mg : Str → Option Value} {base : Heap} {N : List Str} {q : Str} {sc : Scope} {f : Addr} {cdv : Value} {A : Around} {out : List Env} {s : Shared} {H : Hp} {E : XK} :
    Passes (L2N.CX P w) (cxOf (L2N.CX P w) P w K mg base N q sc f cdv A out s H E) E := L2N.passes_call (X := cxOf (L2N.CX P w) P w K mg base N q sc f cdv A out s H E) (L2N.takes_of rfl rfl rfl rfl) fun _ _ _ _ h => h
section
variable {X : Cx} {lv : Nat} {nm m : Str} {C : Addr} {ps : List Str} {sp : Sp} {E : XK} {p pos apos : Pos} {e o : Expr} {es : List Expr} {t : TA} {ta : TE}
theorem pe_calX (c : CalX X.prog X.w X.K X.mg X.base nm lv ps sp) (hr : Room lv X.A) (hx : Passes (L2N.CX X.prog X.w) X E) (hg : Gl X nm) (ha : PA X (e :: es) t) (hdb : (nm == ("__debug__" : Str)) = false := by decide) (he : starEach (e :: es) X.env = (false, eval e X.env) :: starEach es X.env := by rfl) (hpl : (backTo pos (starEach es X.env)).any (·.1) = false := by rfl) :
    PE X (.Call (.Name nm p) (e :: es) [] pos) (tCall sp [] E t) := by
  obtain ⟨f, fd, g, k, b, F⟩ := c.ex
  exact pe_call F hr hg g k b .nil hx ha hdb he hpl
theorem pe_mcalX {pl : Sem Bool} (he : PE X o ta) (c : Cls X.K C) (M : MCalX X.prog X.w X.K X.mg X.base C m lv ps sp) (hr : Room lv X.A) (hx : Passes (L2N.CX X.prog X.w) X E) (ha : PA X (e :: es) t)
    (hst : starEach (e :: es) X.env = (false, eval e X.env) :: starEach es X.env := by rfl) (hpl : (backTo pos (starEach es X.env)).any (·.1) = false := by rfl)
    (ht : eval (.Call (.Attribute o m apos) (e :: es) [] pos) X.env = (do
      let ov ← eval o X.env
      standAt apos.atName
      let (f, first) ← holding [ov] (getMethod ov m pl)
      callWith pos f first (backTo pos (starEach (e :: es) X.env)) (backToKw pos (keywordEach [] X.env))) := by rfl) : PE X (.Call (.Attribute o m apos) (e :: es) [] pos) (tMeth C m sp [] E ta t) := by
  obtain ⟨f, fd, hm, b, F⟩ := M.ex
  exact pe_meth he c hm F hr b .nil hx ha hst hpl ht
theorem pe_mcalX0 {pl : Sem Bool} (he : PE X o ta) (c : Cls X.K C) (M : MCalX X.prog X.w X.K X.mg X.base C m lv ps sp) (hr : Room lv X.A) (hx : Passes (L2N.CX X.prog X.w) X E)
    (ht : eval (.Call (.Attribute o m apos) [] [] pos) X.env = (do
      let ov ← eval o X.env
      standAt apos.atName
      let (f, first) ← holding [ov] (getMethod ov m pl)
      callWith pos f first (backTo pos (starEach [] X.env)) (backToKw pos (keywordEach [] X.env))) := by rfl) : PE X (.Call (.Attribute o m apos) [] [] pos) (tMeth C m sp [] E ta tNil) := by
  obtain ⟨f, fd, hm, b, F⟩ := M.ex
  exact pe_meth0 he c hm F hr b .nil hx ht
/-- the same by positional values -/
theorem CalX.raw {P : Program} {w : World} {K : PySem.W.Frag} {mg : Str → Option Value} {base : Heap} (c : CalX P w K mg base nm lv ps sp) : ∃ f, mg nm = some (.ref f) ∧ PySem.W.keepIn K (.ref f) = true ∧ FnR P w K mg base (L2N.CX P w) lv f sp := by
  obtain ⟨f, fd, g, k, b, F⟩ := c.ex
  exact ⟨f, g, k, (F.raw b .nil).imp fun vs H Q E h => by rw [List.append_nil]; exact h⟩
theorem CalX.mono {P : Program} {w : World} {K : PySem.W.Frag} {mg : Str → Option Value} {base : Heap} {lv' : Nat} (c : CalX P w K mg base nm lv ps sp) (h : lv ≤ lv') : CalX P w K mg base nm lv' ps sp := by
  obtain ⟨f, fd, g, k, b, F⟩ := c.ex
  exact ⟨f, fd, g, k, b, F.mono h⟩
end
end Kl

set_option Elab.async false
set_option linter.all false
set_option maxRecDepth 100000
set_option maxHeartbeats 4000000
/-! Within a try: C(e, ..) and o.m(e, ..) that may raise; isinstance of what was caught. -/
namespace Kx
open PySem PySem.Spec PyProof.Rows L2 Kg Kd
section
variable {X : Cx} {CX : CXT} {k : Nat} {f C : Addr} {fd : FuncData} {ps : List Str} {sp : Sp} {x : Str} {p pos : Pos} {e : Expr} {es : List Expr} {t : TA}
theorem run_makeS {pins : List (Addr × Obj)} {σ : L2.St} {H : Hp} {s : Shared} {Q : VK} {E : XK} {us : List Value} {vs : List V} (M : Mk X.K C f) (F : FnOk X.prog X.w X.K X.mg X.base CX k f fd ps sp) (hr : Room (k + 1) X.A) (hb : Binds X.K fd ps [])
    (hx : PassesAt CX X σ E) (I : Inv X pins σ H s) (r : Vals vs us)
    (h : ∀ x dx, H x = none → H dx = none → dx ≠ x → sp (.ref x :: vs) (upd (upd H dx (.own x)) x (.ins C dx [])) (fun v H2 => v = .non ∧ Q (.ref x) H2) E) :
    wpAny (model X.prog X.w) X.A (call (.ref C) us) (EP X pins σ Q) X.xe s := by
  have hq := h (s.heap.objs.size + 1) s.heap.objs.size (I.hok.fresh (Nat.le_succ _)) (I.hok.fresh (Nat.le_refl _)) (Nat.ne_of_lt (Nat.lt_succ_self _))
  have I2 := Inv.made (C := C) I
  have r2 : Vals (V.ref (s.heap.objs.size + 1) :: vs) (Value.ref (s.heap.objs.size + 1) :: us) := .cons rfl r
  have hl : (Value.ref (s.heap.objs.size + 1) :: us).length = ps.length := by
    have e := r2.length
    rw [F.len _ _ _ _ hq] at e
    exact e.symm
  have bi := hb { s with heap := (s.heap.push PySem.W.emptyDict).push (PySem.W.instObj C s.heap.objs.size) } (Value.ref (s.heap.objs.size + 1) :: us) I2.kIn (by rw [List.append_nil]; exact hl)
  rw [List.append_nil] at bi
  refine wpAny_call (make_map (f := f) I.kIn M.makes M.init (beq_iff_eq.mp M.fn) (codeAny_mono (F.run _ X.stack _ _ ⟨Value.ref (s.heap.objs.size + 1) :: us, []⟩ (Value.ref (s.heap.objs.size + 1) :: us) _ _ E (hr.make C us [])
    (I2.env0.make C us []) bi r2 hq) fun r s' hq' => ?_))
  cases r with
  | error e => exact hx pins _ _ e s' I2 hq'
  | ok fl =>
    cases fl with
    | ret u =>
      obtain ⟨v, H', I3, rv, ev, q3⟩ := I2.after hq'
      subst ev
      exact ⟨rv, ⟨V.ref (s.heap.objs.size + 1), H', I3, rfl, q3⟩⟩
    | next => exact False.elim hq'
    | brk => exact False.elim hq'
    | cont => exact False.elim hq'
/-- C(e, ..) where its __init__ may raise, within a try -/
def tMakeS (C : Addr) (sp : Sp) (E : L2.St → XK) (t : TA) : TE := fun σ H Q => t σ H fun vs H1 => ∀ x dx, H1 x = none → H1 dx = none → dx ≠ x →
  sp (.ref x :: vs) (upd (upd H1 dx (.own x)) x (.ins C dx [])) (fun v H2 => v = .non ∧ Q (.ref x) H2) (E σ)
theorem pe_makeS {E : L2.St → XK} (M : Mk X.K C f) (F : FnOk X.prog X.w X.K X.mg X.base CX k f fd ps sp) (hr : Room (k + 1) X.A) (hg : Gl X x) (hm : X.mg x = some (.ref C)) (hb : Binds X.K fd ps []) (hx : ∀ σ, PassesAt CX X σ (E σ))
    (ha : PA X (e :: es) t) (hdb : (x == ("__debug__" : Str)) = false := by decide) (he : starEach (e :: es) X.env = (false, eval e X.env) :: starEach es X.env := by rfl) (hpl : (backTo pos (starEach es X.env)).any (·.1) = false := by rfl) :
    PE X (.Call (.Name x p) (e :: es) [] pos) (tMakeS C sp E t) := by
  refine ⟨fun pins s σ H Q I h => ?_⟩
  refine wpAny_Call_Name_kw (ld_glob I hg hm ?_ hdb)
  refine PySem.W.callWith_K (h₀ := X.base) I.ok.mod.kin M.kp (thn (ha.run pos pins s σ H _ I h) fun us s1 ⟨vs, H1, I1, r, q⟩ => ⟨I1.kIn, ?_⟩) he hpl
  exact run_makeS M F hr hb (hx σ) I1 r q
/-- isinstance(err, c), err the error that the suite holds, with a dict of its own -/
def rIsF (K : PySem.W.Frag) (D a : Addr) (cls : Value) (d : Option Addr) : List V → Hp → VK → Prop := fun xs H Q => ∃ (c : V) (cv : Value) (b : Bool) (dd : Addr) (fs : List (Str × V)), xs = [.ref a, c] ∧ cls = .ref D ∧ d = some dd ∧ H dd = some (.xd fs) ∧ (∀ u, RelV c u → u = cv) ∧ PySem.W.kitOne K (.ref D) cv = some b ∧ Q (.bl b) H
theorem call_isF {a D : Addr} {oe : Obj} {cls : Value} {d : Option Addr} {pn : List (Addr × Obj)} (C : ExcC X.K D) (hz : Zc cls d oe) (hf : ∃ vs, oe.data = .fields vs) : CallR (X.suite a ((a, oe) :: pn)) (.builtin "isinstance") (rIsF X.K D a cls d) := by
  intro pins s σ H xs us Q I r h
  obtain ⟨c, cv, b, dd, fs, rfl, rfl, rfl, hdd, hcv, e, q⟩ := h
  cases r with
  | cons rx rr =>
    cases rr with
    | cons rt rr =>
      cases rr
      cases rx
      have ec := hcv _ rt
      subst ec
      obtain ⟨hget, _⟩ := I.pin (a, oe) (List.mem_append.mpr (.inl List.mem_cons_self))
      obtain ⟨vs, hv⟩ := hf
      have hx : ObjOk X.prog X.w H s.heap dd (.xd fs) := I.hok dd _ hdd
      obtain ⟨mA, hns, hr⟩ := hx
      obtain ⟨od, ho, hl⟩ := lookIn_ns hns
      have J : PySem.W.InstAt s.heap a oe D (some od) := ⟨hget, hz.1, by unfold PySem.W.notCls; rw [hv] <;> rfl, by rw [hz.2]; exact ho⟩
      obtain ⟨cd, hc, _⟩ := PySem.W.any_some C.hd
      exact PySem.W.kia_one (PySem.W.kitx_exc (by rw [hc]; rfl) C.hg C.hk C.hs C.ha C.hn C.ht C.hm) I.kIn J e (fun z => nomatch z) fun tk => ⟨.bl b, H, I.kept (t' := tk) fun _ _ z => z, rfl, q⟩
end
end Kx
namespace Kx
open PySem PySem.Spec PyProof.Rows L2 Kg Kd Kl
/-- o.m(e, ..) that may raise, within a try -/
def tMethS (C : Addr) (m : Str) (sp : Sp) (E : L2.St → XK) (ta : TE) (t : TA) : TE := fun σ H Q => ta σ H fun x H1 => ∃ a dx fs, x = .ref a ∧ H1 a = some (.ins C dx fs) ∧ fs.lookup m = none ∧ t σ H1 fun vs H2 => sp (x :: vs) H2 Q (E σ)
section
variable {X : Cx} {lv : Nat} {m : Str} {C : Addr} {ps : List Str} {sp : Sp} {E : L2.St → XK} {pos apos : Pos} {e o : Expr} {es : List Expr} {t : TA} {ta : TE}
theorem pe_methS {CX : CXT} {f : Addr} {fd : FuncData} {pl : Sem Bool} (he : PE X o ta) (c : Cls X.K C) (hm : Meth X.K C m f) (F : FnOk X.prog X.w X.K X.mg X.base CX lv f fd ps sp) (hr : Room lv X.A) (hb : Binds X.K fd ps []) (hx : ∀ σ, PassesAt CX X σ (E σ)) (ha : PA X (e :: es) t)
    (hst : starEach (e :: es) X.env = (false, eval e X.env) :: starEach es X.env := by rfl) (hpl : (backTo pos (starEach es X.env)).any (·.1) = false := by rfl)
    (ht : eval (.Call (.Attribute o m apos) (e :: es) [] pos) X.env = (do
      let ov ← eval o X.env
      standAt apos.atName
      let (f, first) ← holding [ov] (getMethod ov m pl)
      callWith pos f first (backTo pos (starEach (e :: es) X.env)) (backToKw pos (keywordEach [] X.env))) := by rfl) : PE X (.Call (.Attribute o m apos) (e :: es) [] pos) (tMethS C m sp E ta t) := by
  refine ⟨fun pins s σ H Q I h => ?_⟩
  refine PySem.W.methodCall_KW (pl := pl) (thn (he.run pins s σ H _ I h) fun u s1 ⟨x, H1, I1, rx, a, dx, fs, ex, ea, l, q⟩ => ?_) ht
  subst ex
  obtain rfl : u = Value.ref a := rx
  refine getmeth_ok I1 ea c hm l ?_
  refine PySem.W.callWith_K (first := [.ref a]) (h₀ := X.base) I.ok.mod.kin hm.kp (thn (ha.run pos pins s1 σ H1 _ I1 q) fun us s2 ⟨vs, H2, I2, r, q2⟩ => ⟨I2.kIn, ?_⟩) hst hpl
  exact run_fnS (us := .ref a :: us) (vs := .ref a :: vs) F hr hb (hx σ) I2 (.cons rfl r) q2
theorem pe_methS0 {CX : CXT} {f : Addr} {fd : FuncData} {pl : Sem Bool} (he : PE X o ta) (c : Cls X.K C) (hm : Meth X.K C m f) (F : FnOk X.prog X.w X.K X.mg X.base CX lv f fd ps sp) (hr : Room lv X.A) (hb : Binds X.K fd ps []) (hx : ∀ σ, PassesAt CX X σ (E σ))
    (ht : eval (.Call (.Attribute o m apos) [] [] pos) X.env = (do
      let ov ← eval o X.env
      standAt apos.atName
      let (f, first) ← holding [ov] (getMethod ov m pl)
      callWith pos f first (backTo pos (starEach [] X.env)) (backToKw pos (keywordEach [] X.env))) := by rfl) : PE X (.Call (.Attribute o m apos) [] [] pos) (tMethS C m sp E ta tNil) := by
  refine ⟨fun pins s σ H Q I h => ?_⟩
  refine PySem.W.methodCall_KW (pl := pl) (thn (he.run pins s σ H _ I h) fun u s1 ⟨x, H1, I1, rx, a, dx, fs, ex, ea, l, q⟩ => ?_) ht
  subst ex
  obtain rfl : u = Value.ref a := rx
  refine getmeth_ok I1 ea c hm l ?_
  refine PySem.W.callWith_K0 (first := [.ref a]) I1.kIn hm.kp ?_
  exact run_fnS (us := [.ref a]) (vs := [.ref a]) F hr hb (hx σ) I1 (.cons rfl .nil) q
theorem pe_mcalS {pl : Sem Bool} (he : PE X o ta) (c : Cls X.K C) (M : MCalX X.prog X.w X.K X.mg X.base C m lv ps sp) (hr : Room lv X.A) (hx : ∀ σ, PassesAt (L2N.CX X.prog X.w) X σ (E σ)) (ha : PA X (e :: es) t)
    (hst : starEach (e :: es) X.env = (false, eval e X.env) :: starEach es X.env := by rfl) (hpl : (backTo pos (starEach es X.env)).any (·.1) = false := by rfl)
    (ht : eval (.Call (.Attribute o m apos) (e :: es) [] pos) X.env = (do
      let ov ← eval o X.env
      standAt apos.atName
      let (f, first) ← holding [ov] (getMethod ov m pl)
      callWith pos f first (backTo pos (starEach (e :: es) X.env)) (backToKw pos (keywordEach [] X.env))) := by rfl) : PE X (.Call (.Attribute o m apos) (e :: es) [] pos) (tMethS C m sp E ta t) := by
  obtain ⟨f, fd, hm, b, F⟩ := M.ex
  exact pe_methS he c hm F hr b hx ha hst hpl ht
theorem pe_mcalS0 {pl : Sem Bool} (he : PE X o ta) (c : Cls X.K C) (M : MCalX X.prog X.w X.K X.mg X.base C m lv ps sp) (hr : Room lv X.A) (hx : ∀ σ, PassesAt (L2N.CX X.prog X.w) X σ (E σ))
    (ht : eval (.Call (.Attribute o m apos) [] [] pos) X.env = (do
      let ov ← eval o X.env
      standAt apos.atName
      let (f, first) ← holding [ov] (getMethod ov m pl)
      callWith pos f first (backTo pos (starEach [] X.env)) (backToKw pos (keywordEach [] X.env))) := by rfl) : PE X (.Call (.Attribute o m apos) [] [] pos) (tMethS C m sp E ta tNil) := by
  obtain ⟨f, fd, hm, b, F⟩ := M.ex
  exact pe_methS0 he c hm F hr b hx ht
end
end Kx

set_option Elab.async false
set_option linter.all false
set_option maxRecDepth 100000
set_option maxHeartbeats 4000000
/-! x = C(e, ..), the __init__ of C may raise, as a promise by name. -/
namespace Kl
open PySem PySem.Spec PyProof.Rows L2 Kg Kd
structure MkW (P : Program) (w : World) (K : PySem.W.Frag) (mg : Str → Option Value) (base : Heap) (x : Str) (C : Addr) (lv : Nat) (ps : List Str) (sp : Sp) : Prop where
  ex : ∃ f fd, Mk K C f ∧ mg x = some (.ref C) ∧ Binds K fd ps [] ∧ FnOk P w K mg base (L2N.CX P w) lv f fd ps sp
theorem pe_mkW {X : Cx} {x : Str} {C : Addr} {lv : Nat} {ps : List Str} {sp : Sp} {E : XK} {p pos : Pos} {e : Expr} {es : List Expr} {t : TA} (M : MkW X.prog X.w X.K X.mg X.base x C lv ps sp) (hr : Room (lv + 1) X.A) (hg : Gl X x) (hx : Passes (L2N.CX X.prog X.w) X E)
    (ha : PA X (e :: es) t) (hdb : (x == ("__debug__" : Str)) = false := by decide) (he : starEach (e :: es) X.env = (false, eval e X.env) :: starEach es X.env := by rfl) (hpl : (backTo pos (starEach es X.env)).any (·.1) = false := by rfl) :
    PE X (.Call (.Name x p) (e :: es) [] pos) (tMake C sp [] E t) := by
  obtain ⟨f, fd, m, g, b, F⟩ := M.ex
  exact pe_make m F hr hg g b .nil hx ha hdb he hpl
theorem passXO {P : Program} {w : World} {X : Cx} : Passes (L2N.CX P w) X E0 := fun _ _ _ _ _ _ _ h => by
  obtain ⟨_, _, _, _, _, _, _, _, _, _, _, _, z⟩ := h
  exact z.elim
end Kl

set_option Elab.async false
set_option linter.all false
set_option maxRecDepth 100000
set_option maxHeartbeats 8000000
/-! lines with one change -/
namespace Kc
open PySem PySem.Spec PyProof.Rows L2 Kg Kd Kr Kf Kl TL
abbrev sBn46 : Stmt := topS 42
abbrev nBn46 : List Str := ["_law_deck_here", "_law_lines", "_law_at", "_law_kind", "_law_odd_here", "_law_word", "_law_words", "_law_place"]
theorem scBn46 : FnScope nBn46 ["_law_deck_here", "_law_lines"] (defScope sBn46) := ⟨rfl, rfl, rfl, by decide +kernel, rfl, by decide +kernel, by decide +kernel⟩
/-- so many lines at most, no longer than m -/
def LnB (n m : Nat) (ls : List (List Nat)) : Prop := ls.length ≤ n ∧ ∀ l ∈ ls, l.length ≤ m ∧ chOk l
def spBn46 : Sp := fun vs H Q _ => ∃ (d la lb La : Addr) (b n m : Nat) (ls : List (List Nat)), vs = [.ref d, .ref La] ∧ DeckAt H d la lb (b + 5) ∧ d ≠ La ∧ la ≠ La ∧ H La = some (.lst (ls.map wV)) ∧ ls ≠ [] ∧ LnB n m ls ∧ n ≤ 100 ∧ m ≤ 100 ∧
  ∀ (H' : Hp) (r : Addr) (ls' : List (List Nat)), Go H d la lb b H' → H r = none → H' r = some (.lst (ls'.map wV)) → LnB (n + 3) m ls' ∨ LnB (n + 1) (m + 9) ls' → Q (.ref r) H'
/-! ### how long -/
def jn (ws : List (List Nat)) : Nat := (ws.map List.length).sum + ws.length
theorem jn_app (a b : List (List Nat)) : jn (a ++ b) = jn a + jn b := by unfold jn; simp; omega
theorem jn_cut (c : Nat) : ∀ l acc : List Nat, jn (cutA c acc l) = acc.length + l.length + 1
  | [], acc => by show jn [acc] = _; simp [jn]
  | x :: l, acc => by
    show jn (if x = c then acc :: cutA c [] l else cutA c (acc ++ [x]) l) = _
    split
    · rw [show acc :: cutA c [] l = [acc] ++ cutA c [] l from rfl, jn_app, jn_cut c l []]
      simp [jn]; omega
    · rw [jn_cut c l]
      simp; omega
theorem jn_td (p : Nat) (ws : List (List Nat)) : jn (ws.take p) + jn (ws.drop p) = jn ws := by rw [← jn_app, List.take_append_drop]
theorem jn_gap (p e : Nat) (ws : List (List Nat)) : jn (ws.take p) + jn (ws.drop (p + e)) ≤ jn ws := by
  have h1 := jn_td p ws
  have h2 := jn_td e (ws.drop p)
  rw [List.drop_drop] at h2
  omega
theorem join_jn (ws : List (List Nat)) : (joinL [32] ws).length ≤ jn ws := by
  have := joinL_len [32] ws
  unfold jn
  rw [List.length_singleton, Nat.mul_one] at this
  exact this
theorem cut_dpA {xs : List V} {k : Nat} : cutV xs (some ((k : Nat) : Int)) none = xs.drop k := by
  have e0 : HT.sIx xs.length xs.length none = xs.length := rfl
  have e1 : HT.sIx xs.length 0 (some ((k : Nat) : Int)) = min k xs.length := by rw [HT.sIx_nat]
  unfold cutV
  rw [e0, e1, List.take_of_length_le]
  · rcases Nat.le_total k xs.length with h | h
    · rw [Nat.min_eq_left h]
    · rw [Nat.min_eq_right h, List.drop_length, List.drop_eq_nil_iff.mpr h]
  · rw [List.length_drop]
    exact Nat.le_refl _
theorem chOk_cut {c : Nat} {l w : List Nat} (h : chOk l) (hw : w ∈ cutA c [] l) : chOk w := fun x hx => by
  rcases cutA_sub c l [] w hw x hx with z | z
  · cases z
  · exact h x z
theorem chOk_join {ws : List (List Nat)} (h : ∀ w ∈ ws, chOk w) : chOk (joinL [32] ws) := fun x hx => by
  rcases joinL_mem hx with z | ⟨w, hw, z⟩
  · rw [List.mem_singleton.mp z]; decide
  · exact h w hw x z
/-! ### the words -/
def SmW (v : V) : Prop := ∃ l : List Nat, v = wV l ∧ l.length ≤ 7 ∧ chOk l
def oddA6 : List Str := ["kind", "closed", "hollow", "0", "1", "01", "7", "x", "several", "\t", "0\t", "-1", "1.", "#"]
def oddB6 : List Str := ["kind 0", "~", "10", "77", "100", "007", "1\t", "\t1"]
theorem smW_of {xs : List Str} (h : (xs.all fun x => decide ((tl x).length ≤ 7) && (tl x).all fun c => decide (c < 1114112)) = true) : ∀ v ∈ xs.map V.str, SmW v := by
  intro v hv
  obtain ⟨x, hx, rfl⟩ := List.mem_map.mp hv
  have z := List.all_eq_true.mp h x hx
  rw [Bool.and_eq_true] at z
  exact ⟨tl x, congrArg V.str (sS_tl x).symm, of_decide_eq_true z.1, fun c hc => of_decide_eq_true (List.all_eq_true.mp z.2 c hc)⟩
theorem odd6_ok : ∀ v ∈ oddA6.map V.str ++ oddB6.map V.str, SmW v := by
  rw [← List.map_append]
  exact smW_of (by decide +kernel)
theorem pick6 {xs : List V} {r : Int} (r0 : 0 ≤ r) (r1 : r < ((xs.length : Nat) : Int)) : ∃ v, v ∈ xs ∧ atI xs r = some v := by
  obtain ⟨m, rfl⟩ : ∃ m : Nat, r = (m : Nat) := ⟨r.toNat, by omega⟩
  have h : m < xs.length := by omega
  exact ⟨xs[m], List.getElem_mem h, atI_nat (by simp [h])⟩
theorem LnB.sub {n m : Nat} {ls ls' : List (List Nat)} (h : LnB n m ls) (k : Nat) (l : ls'.length ≤ n + k) (s : ∀ x ∈ ls', x ∈ ls) : LnB (n + k) m ls' := ⟨l, fun x hx => h.2 x (s x hx)⟩
theorem LnB.mix {n m k : Nat} {ls ls' : List (List Nat)} (h : LnB n m ls) (l : ls'.length ≤ n + 1) (s : ∀ x ∈ ls', x ∈ ls ∨ x.length ≤ m + k ∧ chOk x) : LnB (n + 1) (m + k) ls' := ⟨l, fun x hx => by
  rcases s x hx with z | z
  · have := h.2 x z
    exact ⟨by omega, this.2⟩
  · exact z⟩
/-- the line put in its place -/
abbrev S46 (d La : Addr) (an kd : Int) (y4 y5 : Option V) (W : V) (y7 : Option V) : L2.St := [some (.ref d), some (.ref La), some (.int an), some (.int kd), y4, y5, some W, y7]
def tRn6 : TS := fun D σ H => ∃ (d La W : Addr) (an : Nat) (kd : Int) (ls ws : List (List Nat)) (y4 y5 y7 : Option V), σ = S46 d La ((an : Nat) : Int) kd y4 y5 (.ref W) y7 ∧ H La = some (.lst (ls.map wV)) ∧ an < ls.length ∧ ls.length ≤ 100 ∧ H W = some (.lst (ws.map wV)) ∧ jn ws ≤ 200 ∧
  ∀ H' r, Same H H' → H r = none → H' r = some (.lst ((ls.take an ++ [joinL [32] ws] ++ ls.drop (an + 1)).map wV)) → D.rt (.ref r) H'
section
variable {P : Program} {w : World} {K : PySem.W.Frag} {mg : Str → Option Value} {base : Heap} {f : Addr} {fd : FuncData}
variable {cdv : Value} {A : Around} {out : List Env} {s : Shared} {H0 : Hp} {E : XK}
theorem jn_small {ws : List (List Nat)} (h : jn ws ≤ 200) : ((ws.map sS).map (·.length)).sum + (ws.map sS).length * (sS [32]).length ≤ 16777216 := by
  have e3 : (ws.map sS).map (·.length) = ws.map List.length := by
    rw [List.map_map]
    exact List.map_congr_left fun w _ => sS_len w
  unfold jn at h
  rw [e3, List.length_map, sS_len, List.length_singleton]
  omega
theorem segRn : PS (cxOf CX0 P w K mg base nBn46 "_law_bent" (defScope sBn46) f cdv A out s H0 E).nox ((defBody sBn46).getD 9 (.Pass ⟨0, 0, 0, 0⟩)) tRn6 := by
  refine ps_imp (ps_ret (pe_op op_cat (pe_op op_cat (pe_slice sl_list (pv 1) po_none (po_some (pv 2))) (pe_lst (pa_cons (pe_join pe_str (pv 6)) pa_nil))) (pe_slice sl_list (pv 1) (po_some (pe_op op_add (pv 2) pe_int)) po_none))) (fun D σ H h => ?_)
  obtain ⟨d, La, W, an, kd, ls, ws, y4, y5, y7, rfl, hL, al, l100, hW, j2, q⟩ := h
  have bg := big1000
  have z1 : 1 ≤ sizeLine := by omega
  have cB : Str.ofString " " = sS [32] := eq_sS (by decide +kernel)
  refine ⟨_, rfl, _, rfl, _, rfl, La, _, rfl, SqL.of hL, fun p1 n1 => ?_⟩
  rw [cut_tk (by rw [List.length_map]; omega), ← List.map_take]
  have s1 := same_new (o := HO.lst ((ls.take an).map wV)) n1
  have h1 := upd_same (H := H) (a := p1) (o := HO.lst ((ls.take an).map wV))
  have hW1 : upd H p1 (HO.lst ((ls.take an).map wV)) W = some (.lst ((ws.map sS).map V.str)) := by rw [s1 _ _ hW, List.map_map]; rfl
  generalize upd H p1 (HO.lst ((ls.take an).map wV)) = H1 at s1 h1 hW1 ⊢
  rw [cB]
  refine ⟨⟨_, rfl⟩, _, rfl, _, W, ws.map sS, rfl, rfl, .inl (SqL.of hW1), jn_small j2, z1, fun p2 n2 => ?_⟩
  rw [show Txt.join (sS [32]) (ws.map sS) = sS (joinL [32] ws) from SX.join_S _ _]
  have s2 := same_new (o := HO.lst [V.str (sS (joinL [32] ws))]) n2
  have h2 := upd_same (H := H1) (a := p2) (o := HO.lst [V.str (sS (joinL [32] ws))])
  have h12 := s2 _ _ h1
  generalize upd H1 p2 (HO.lst [V.str (sS (joinL [32] ws))]) = H2 at s2 h2 h12 ⊢
  refine ⟨p1, p2, _, _, rfl, rfl, h12, h2, by rw [List.length_map, List.length_take]; simp; omega, fun p3 n3 => ?_⟩
  have s3 := same_new (o := HO.lst ((ls.take an).map wV ++ [V.str (sS (joinL [32] ws))])) n3
  have h3 := upd_same (H := H2) (a := p3) (o := HO.lst ((ls.take an).map wV ++ [V.str (sS (joinL [32] ws))]))
  have s13 := s1.trans (s2.trans s3)
  generalize upd H2 p3 (HO.lst ((ls.take an).map wV ++ [V.str (sS (joinL [32] ws))])) = H3 at s13 h3 ⊢
  refine ⟨_, rfl, _, rfl, _, _, rfl, rfl, _, rfl, La, _, rfl, SqL.of (s13 _ _ hL), fun p4 n4 => ?_⟩
  rw [show (((an : Nat) : Int) + 1) = ((an + 1 : Nat) : Int) by omega, cut_dpA, ← List.map_drop]
  have s4 := same_new (o := HO.lst ((ls.drop (an + 1)).map wV)) n4
  refine ⟨p3, p4, _, _, rfl, rfl, s4 _ _ h3, upd_same, by rw [List.length_append, List.length_map, List.length_map, List.length_take, List.length_drop]; simp; omega, fun p5 n5 => ?_⟩
  have s5 := same_new (o := HO.lst (((ls.take an).map wV ++ [V.str (sS (joinL [32] ws))]) ++ (ls.drop (an + 1)).map wV)) n5
  refine q _ p5 (s13.trans (s4.trans s5)) ((s13.trans s4).free n5) ?_
  rw [upd_same, List.map_append, List.map_append]; rfl
theorem ok_bn46 (F : Fun K "_law_bent" "_law_bent" sBn46 f fd) (B : Bl mg) (GN : Cal P w K mg base "_law_next" 1 ["_law_deck_here", "_law_many"] spNext) : FnOk P w K mg base CX0 2 f fd ["_law_deck_here", "_law_lines"] spBn46 := by
  refine F.ok scBn46 (fun vs H Q E h => ?_) (fun cdv A outer s H vs Q E hr h => ?_)
  · obtain ⟨d, la, lb, La, b, n, m, ls, rfl, _⟩ := h
    rfl
  · obtain ⟨d, la, lb, La, b, n, m, ls, rfl, D0, nd, nla, hL, lne, lb0, n100, m100, q⟩ := h
    refine ⟨_, (pss_cons (ps_par (i := 2) (j := 3) (by rfl) scBn46.nd rfl rfl (by decide) rfl rfl (pa_cons (pe_cal GN hr (by rfl) (pa_cons (pv 0) (pa_cons (pe_callB call_len_seq (by rfl) B.len PySem.boot_len (pa_cons (pv 1) pa_nil)) pa_nil))) (pa_cons (pe_cal GN hr (by rfl) (pa_cons (pv 0) (pa_cons pe_int pa_nil))) pa_nil)) (by rfl))
      (pss_cons (ps_set (i := 4) scBn46.nd rfl (.inl rfl) (pe_lst (pa_cons pe_str (pa_cons pe_str (pa_cons pe_str (pa_cons pe_str (pa_cons pe_str (pa_cons pe_str (pa_cons pe_str (pa_cons pe_str (pa_cons pe_str (pa_cons pe_str (pa_cons pe_str (pa_cons pe_str (pa_cons pe_str (pa_cons pe_str pa_nil))))))))))))))))
      (pss_cons (ps_set (i := 5) scBn46.nd rfl (.inl rfl) (pe_ix ix_list (pe_op op_cat (pv 4) (pe_lst (pa_cons pe_str (pa_cons pe_str (pa_cons pe_str (pa_cons pe_str (pa_cons pe_str (pa_cons pe_str (pa_cons pe_str (pa_cons pe_str pa_nil)))))))))) (pe_cal GN hr (by rfl) (pa_cons (pv 0) (pa_cons pe_int pa_nil))) (fun _ _ => rfl)))
      (pss_cons (ps_if (pt_cmpR op_eq (pv 3) pe_int (nomark _)) (pss_one (ps_ret (pe_op op_cat (pe_slice sl_list (pv 1) po_none (po_some (pv 2))) (pe_slice sl_list (pv 1) (po_some (pe_op op_add (pv 2) pe_int)) po_none)))) pss_nil)
      (pss_cons (ps_if (pt_cmpR op_eq (pv 3) pe_int (nomark _)) (pss_one (ps_ret (pe_op op_cat (pe_op op_cat (pe_slice sl_list (pv 1) po_none (po_some (pv 2))) (pe_lst (pa_cons (pv 5) pa_nil))) (pe_slice sl_list (pv 1) (po_some (pv 2)) po_none)))) pss_nil)
      (pss_cons (ps_if (pt_cmpR op_eq (pv 3) pe_int (nomark _)) (pss_one (ps_ret (pe_op op_cat (pv 1) (pe_op op_rep (pe_slice sl_list (pv 1) (po_some (pe_un un_neg pe_int)) po_none) (pe_op op_add pe_int (pe_cal GN hr (by rfl) (pa_cons (pv 0) (pa_cons pe_int pa_nil)))))))) pss_nil)
      (pss_cons (ps_set (i := 6) scBn46.nd rfl (.inl rfl) (pe_split (pe_ix ix_list (pv 1) (pv 2) (fun _ _ => rfl)) pe_str))
      (pss_cons (ps_set (i := 7) scBn46.nd rfl (.inl rfl) (pe_cal GN hr (by rfl) (pa_cons (pv 0) (pa_cons (pe_op op_add (pe_callB call_len_seq (by rfl) B.len PySem.boot_len (pa_cons (pv 6) pa_nil)) pe_int) pa_nil))))
      (pss_cons (ps_if (pt_cmpR op_lt (pv 3) pe_int (nomark _)) (pss_one (ps_set (i := 6) scBn46.nd rfl (.inl rfl) (pe_op op_cat (pe_op op_cat (pe_slice sl_list (pv 6) po_none (po_some (pv 7))) (pe_lst (pa_cons (pv 5) pa_nil))) (pe_slice sl_list (pv 6) (po_some (pe_op op_add (pv 7) (pe_cal GN hr (by rfl) (pa_cons (pv 0) (pa_cons pe_int pa_nil))))) po_none)))) (pss_one (ps_set (i := 6) scBn46.nd rfl (.inl rfl) (pe_op op_cat (pe_slice sl_list (pv 6) po_none (po_some (pv 7))) (pe_slice sl_list (pv 6) (po_some (pe_op op_add (pv 7) pe_int)) po_none)))))
      (pss_one segRn)))))))))), ?_⟩
    have bg := big1000
    have lpos : 1 ≤ ls.length := List.length_pos_iff.mpr lne
    have lln := lb0.1
    refine ⟨_, rfl, _, rfl, La, _, rfl, .inl (SqL.of hL), d, la, lb, _, b + 4, rfl, by rw [List.length_map]; omega, by rw [List.length_map]; omega, D0, fun at_ H1 a0 a1 D1 k1 => ?_⟩
    refine ⟨_, rfl, d, la, lb, 7, b + 3, rfl, by decide, by decide, D1, fun kd H2 c0 c1 D2 k2 => ⟨_, _, rfl, ?_⟩⟩
    rw [List.length_map] at a1
    obtain ⟨an, rfl⟩ : ∃ n : Nat, at_ = (n : Nat) := ⟨at_.toNat, by omega⟩
    have g2 := ((Go.refl D0).draw D1 k1).draw D2 k2
    have hL2 := g2.at_ hL nd nla
    have al : an < ls.length := by omega
    clear k1 k2 D1 D2
    -- the words
    refine ⟨(show 14 ≤ sizeLine by omega), fun A1 nA1 => ?_⟩
    have s3 := same_new (H := H2) (o := HO.lst (oddA6.map V.str)) nA1
    have hA1 := upd_same (H := H2) (a := A1) (o := HO.lst (oddA6.map V.str))
    refine ⟨_, rfl, (show 8 ≤ sizeLine by omega), fun A2 nA2 => ?_⟩
    have s4 := same_new (H := upd H2 A1 (HO.lst (oddA6.map V.str))) (o := HO.lst (oddB6.map V.str)) nA2
    refine ⟨A1, A2, oddA6.map V.str, oddB6.map V.str, rfl, rfl, s4 _ _ hA1, upd_same, (show 14 + 8 ≤ sizeLine by omega), fun A3 nA3 => ?_⟩
    have s5 := same_new (H := upd (upd H2 A1 (HO.lst (oddA6.map V.str))) A2 (HO.lst (oddB6.map V.str))) (o := HO.lst (oddA6.map V.str ++ oddB6.map V.str)) nA3
    have hA3 := upd_same (H := upd (upd H2 A1 (HO.lst (oddA6.map V.str))) A2 (HO.lst (oddB6.map V.str))) (a := A3) (o := HO.lst (oddA6.map V.str ++ oddB6.map V.str))
    have s35 := s3.trans (s4.trans s5)
    have g5 := g2.same s35
    have nA3H := g2.free ((s3.trans s4).free nA3)
    have hL5 := s35 _ _ hL2
    obtain ⟨H5, eH5⟩ : ∃ H5, H5 = upd (upd (upd H2 A1 (HO.lst (oddA6.map V.str))) A2 (HO.lst (oddB6.map V.str))) A3 (HO.lst (oddA6.map V.str ++ oddB6.map V.str)) := ⟨_, rfl⟩
    rw [← eH5] at hA3 g5 hL5
    refine ⟨_, rfl, d, la, lb, 22, b + 2, rfl, by decide, by decide, (show DeckAt (upd (upd (upd H2 A1 (HO.lst (oddA6.map V.str))) A2 (HO.lst (oddB6.map V.str))) A3 (HO.lst (oddA6.map V.str ++ oddB6.map V.str))) d la lb (b + 2 + 1) from eH5 ▸ g5.now), fun r H6 r0 r1 D6 k6 => ?_⟩
    have k6' : Keep (dk d la) H5 H6 := by rw [eH5]; exact k6
    have g6 := g5.draw D6 k6'
    obtain ⟨o1, o2, _⟩ := g6.off nA3H
    have hA6 : H6 A3 = some (.lst (oddA6.map V.str ++ oddB6.map V.str)) := k6' _ _ hA3 (by rintro (z | z) <;> (rw [z] at o1 o2; contradiction))
    have hL6 : H6 La = some (.lst (ls.map wV)) := k6' _ _ hL5 (by rintro (z | z) <;> (rw [z] at nd nla; contradiction))
    obtain ⟨v, hv, hat⟩ := pick6 (xs := oddA6.map V.str ++ oddB6.map V.str) r0 (by have : (oddA6.map V.str ++ oddB6.map V.str).length = 22 := rfl; omega)
    obtain ⟨wd, rfl, wl, wc⟩ := odd6_ok v hv
    clear k6 k6' hA3 s3 s4 s5 s35 hA1 nA1 nA2 nA3 eH5 hL5 hL2 g5 D6
    refine ⟨A3, _, r, _, rfl, rfl, SqL.of hA6, hat, ?_⟩
    have lmap : ∀ k, ((ls.take k).map wV).length ≤ 100 := fun k => by rw [List.length_map, List.length_take]; omega
    have lmap2 : ∀ k, ((ls.drop k).map wV).length ≤ 100 := fun k => by rw [List.length_map, List.length_drop]; omega
    -- left out
    refine ⟨_, rfl, rfl, _, rfl, ?_⟩
    by_cases e0 : kd = 0
    · refine iteD (by rw [e0]; rfl) ⟨_, rfl, _, rfl, _, rfl, La, _, rfl, SqL.of hL6, fun p1 n1 => ?_⟩
      rw [cut_tk (by rw [List.length_map]; omega), ← List.map_take]
      have s7 := same_new (o := HO.lst ((ls.take an).map wV)) n1
      have h7 := upd_same (H := H6) (a := p1) (o := HO.lst ((ls.take an).map wV))
      refine ⟨_, rfl, _, rfl, _, _, rfl, rfl, _, rfl, La, _, rfl, SqL.of (s7 _ _ hL6), fun p2 n2 => ?_⟩
      rw [show (((an : Nat) : Int) + 1) = ((an + 1 : Nat) : Int) by omega, cut_dpA, ← List.map_drop]
      have s8 := same_new (o := HO.lst ((ls.drop (an + 1)).map wV)) n2
      refine ⟨p1, p2, _, _, rfl, rfl, s8 _ _ h7, upd_same, by have := lmap an; have := lmap2 (an + 1); omega, fun p3 n3 => ?_⟩
      have s9 := same_new (o := HO.lst ((ls.take an).map wV ++ (ls.drop (an + 1)).map wV)) n3
      refine q _ p3 ((g6.same (s7.trans (s8.trans s9))).less (by omega)) (g6.free ((s7.trans s8).free n3)) (ls' := ls.take an ++ ls.drop (an + 1)) (by rw [upd_same, List.map_append]) (.inl (lb0.sub 3 ?_ fun x hx => ?_))
      · rw [List.length_append, List.length_take, List.length_drop]; omega
      · rcases List.mem_append.mp hx with z | z
        · exact List.mem_of_mem_take z
        · exact List.mem_of_mem_drop z
    refine iteE (decide_eq_false fun z => e0 (V.int.inj z)) ⟨_, rfl, rfl, _, rfl, ?_⟩
    -- put in
    by_cases e1 : kd = 1
    · refine iteD (by rw [e1]; rfl) ⟨_, rfl, _, rfl, _, rfl, La, _, rfl, SqL.of hL6, fun p1 n1 => ?_⟩
      rw [cut_tk (by rw [List.length_map]; omega), ← List.map_take]
      have s7 := same_new (o := HO.lst ((ls.take an).map wV)) n1
      have h7 := upd_same (H := H6) (a := p1) (o := HO.lst ((ls.take an).map wV))
      refine ⟨_, rfl, (show 1 ≤ sizeLine by omega), fun p2 n2 => ?_⟩
      have s8 := same_new (o := HO.lst [wV wd]) n2
      refine ⟨p1, p2, _, _, rfl, rfl, s8 _ _ h7, upd_same, by have := lmap an; simp at this ⊢; omega, fun p3 n3 => ?_⟩
      have s9 := same_new (o := HO.lst ((ls.take an).map wV ++ [wV wd])) n3
      have h9 := upd_same (H := upd (upd H6 p1 (HO.lst ((ls.take an).map wV))) p2 (HO.lst [wV wd])) (a := p3) (o := HO.lst ((ls.take an).map wV ++ [wV wd]))
      have s79 := s7.trans (s8.trans s9)
      refine ⟨_, rfl, _, rfl, _, rfl, La, _, rfl, SqL.of (s79 _ _ hL6), fun p4 n4 => ?_⟩
      rw [cut_dpA, ← List.map_drop]
      have s10 := same_new (o := HO.lst ((ls.drop an).map wV)) n4
      refine ⟨p3, p4, _, _, rfl, rfl, s10 _ _ h9, upd_same, by have := lmap an; have := lmap2 an; simp at *; omega, fun p5 n5 => ?_⟩
      have s11 := same_new (o := HO.lst (((ls.take an).map wV ++ [wV wd]) ++ (ls.drop an).map wV)) n5
      refine q _ p5 ((g6.same (s79.trans (s10.trans s11))).less (by omega)) (g6.free ((s79.trans s10).free n5)) (ls' := ls.take an ++ [wd] ++ ls.drop an) (by rw [upd_same, List.map_append, List.map_append]; rfl) (.inr (lb0.mix ?_ fun x hx => ?_))
      · rw [List.length_append, List.length_append, List.length_take, List.length_drop]; simp; omega
      · rcases List.mem_append.mp hx with z | z
        · rcases List.mem_append.mp z with z | z
          · exact .inl (List.mem_of_mem_take z)
          · rw [List.mem_singleton.mp z]; exact .inr ⟨by omega, wc⟩
        · exact .inl (List.mem_of_mem_drop z)
    refine iteE (decide_eq_false fun z => e1 (V.int.inj z)) ⟨_, rfl, rfl, _, rfl, ?_⟩
    -- the last line again
    by_cases e2 : kd = 2
    · refine iteD (by rw [e2]; rfl) ⟨_, rfl, _, rfl, 1, rfl, _, rfl, La, _, rfl, SqL.of hL6, fun p1 n1 => ?_⟩
      rw [cut_last, ← List.map_drop, List.length_map]
      have s7 := same_new (o := HO.lst ((ls.drop (ls.length - 1)).map wV)) n1
      have h7 := upd_same (H := H6) (a := p1) (o := HO.lst ((ls.drop (ls.length - 1)).map wV))
      have g7 := g6.same s7
      have n1H := g6.free n1
      have hL7 := s7 _ _ hL6
      generalize upd H6 p1 (HO.lst ((ls.drop (ls.length - 1)).map wV)) = H7 at h7 g7 hL7 ⊢
      refine ⟨_, rfl, d, la, lb, 3, b + 1, rfl, by decide, by decide, g7.now, fun x H8 x0 x1 D8 k8 => ?_⟩
      have g8 := g7.draw D8 k8
      obtain ⟨o1', o2', _⟩ := g8.off n1H
      have h8 : H8 p1 = some (.lst ((ls.drop (ls.length - 1)).map wV)) := k8 _ _ h7 (by rintro (z | z) <;> (rw [z] at o1' o2'; contradiction))
      have hL8 : H8 La = some (.lst (ls.map wV)) := k8 _ _ hL7 (by rintro (z | z) <;> (rw [z] at nd nla; contradiction))
      have ld : ((ls.drop (ls.length - 1)).map wV).length = 1 := by rw [List.length_map, List.length_drop]; omega
      obtain ⟨xn, rfl⟩ : ∃ n : Nat, x = (n : Nat) := ⟨x.toNat, by omega⟩
      have ex : (1 + ((xn : Nat) : Int)).toNat = xn + 1 := by omega
      refine ⟨_, _, rfl, rfl, p1, _, _, rfl, rfl, h8, by omega, by omega, by rw [ld, ex]; omega, fun p2 n2 => ?_⟩
      rw [ex]
      have s9 := same_new (o := HO.lst (List.replicate (xn + 1) ((ls.drop (ls.length - 1)).map wV)).flatten) n2
      have rl : ∀ k : Nat, (List.replicate k ((ls.drop (ls.length - 1)).map wV)).flatten = ((List.replicate k (ls.drop (ls.length - 1))).flatten).map wV := fun k => by rw [List.map_flatten, List.map_replicate]
      rw [rl] at s9 ⊢
      have fl : ((List.replicate (xn + 1) (ls.drop (ls.length - 1))).flatten).length = xn + 1 := by
        rw [List.length_flatten, List.map_replicate, List.length_drop, show ls.length - (ls.length - 1) = 1 by omega, List.sum_replicate_nat, Nat.mul_one]
      refine ⟨La, p2, _, _, rfl, rfl, s9 _ _ hL8, upd_same, by rw [List.length_map, List.length_map, fl]; omega, fun p3 n3 => ?_⟩
      have s10 := same_new (o := HO.lst (ls.map wV ++ ((List.replicate (xn + 1) (ls.drop (ls.length - 1))).flatten).map wV)) n3
      refine q _ p3 ((g8.same (s9.trans s10)).less (by omega)) (g8.free (s9.free n3)) (ls' := ls ++ (List.replicate (xn + 1) (ls.drop (ls.length - 1))).flatten) (by rw [upd_same, List.map_append]) (.inl (lb0.sub 3 ?_ fun y hy => ?_))
      · rw [List.length_append, fl]; omega
      · rcases List.mem_append.mp hy with z | z
        · exact z
        · obtain ⟨l', hl', hy'⟩ := List.mem_flatten.mp z
          rw [List.eq_of_mem_replicate hl'] at hy'
          exact List.mem_of_mem_drop hy'
    refine iteE (decide_eq_false fun z => e2 (V.int.inj z)) ?_
    -- a line's words
    have hx : ls[an]? = some ls[an] := List.getElem?_eq_getElem al
    have xm := lb0.2 _ (List.getElem_mem al)
    generalize ls[an] = x at hx xm
    have cB : Str.ofString " " = sS [32] := eq_sS (by decide +kernel)
    refine ⟨_, rfl, _, rfl, La, _, ((an : Nat) : Int), wV x, rfl, rfl, SqL.of hL6, atI_nat (j := an) (by rw [List.getElem?_map, hx]; rfl), ⟨_, rfl⟩, sS x, _, rfl, rfl, by decide, by rw [sS_len]; omega, fun W0 nW0 => ?_⟩
    rw [cB, split_sS x (by decide)]
    have s7 := same_new (o := HO.lst (((cutA 32 [] x).map sS).map V.str)) nW0
    have h7 : upd H6 W0 (HO.lst (((cutA 32 [] x).map sS).map V.str)) W0 = some (.lst ((cutA 32 [] x).map wV)) := by rw [upd_same, List.map_map]; rfl
    have g7 := g6.same s7
    have nWH := g6.free nW0
    have hL7 := s7 _ _ hL6
    generalize upd H6 W0 (HO.lst (((cutA 32 [] x).map sS).map V.str)) = H7 at h7 g7 hL7 ⊢
    have cl := cutA_len 32 x []
    have jc := jn_cut 32 x []
    rw [List.length_nil, Nat.zero_add] at jc
    have cc : ∀ y ∈ cutA 32 [] x, chOk y := fun y hy => chOk_cut xm.2 hy
    generalize cutA 32 [] x = ws at h7 cl jc cc
    refine ⟨_, rfl, _, rfl, W0, _, rfl, .inl (SqL.of h7), _, _, rfl, rfl, d, la, lb, _, b + 1, rfl, by rw [List.length_map]; omega, by rw [List.length_map]; omega, g7.now, fun pl H8 p0 p1 D8 k8 => ?_⟩
    rw [List.length_map] at p1
    have g8 := g7.draw D8 k8
    obtain ⟨o3, o4, _⟩ := g8.off nWH
    have h8 : H8 W0 = some (.lst (ws.map wV)) := k8 _ _ h7 (by rintro (z | z) <;> (rw [z] at o3 o4; contradiction))
    have hL8 : H8 La = some (.lst (ls.map wV)) := k8 _ _ hL7 (by rintro (z | z) <;> (rw [z] at nd nla; contradiction))
    obtain ⟨pn, rfl⟩ : ∃ n : Nat, pl = (n : Nat) := ⟨pl.toNat, by omega⟩
    have pnl : pn ≤ ws.length := by omega
    clear k8 D8
    refine ⟨_, rfl, _, _, rfl, rfl, _, rfl, ?_⟩
    -- the end
    have fin : ∀ (H9 : Hp) (W : Addr) (ws' : List (List Nat)) (y7 : Option V), Go H d la lb b H9 → H9 La = some (.lst (ls.map wV)) → H9 W = some (.lst (ws'.map wV)) → jn ws' ≤ jn ws + 8 → (∀ y ∈ ws', chOk y) → tRn6 { nx := fun σ H' => Q V.non H', rt := Q } (S46 d La ((an : Nat) : Int) kd (some (.ref A1)) (some (wV wd)) (.ref W) y7) H9 := fun H9 W ws' y7 g9 hL9 hW9 j9 c9 => by
      refine ⟨d, La, W, an, kd, ls, ws', _, _, y7, rfl, hL9, al, by omega, hW9, by omega, fun H' r s' nr hr' => ?_⟩
      refine q H' r _ (g9.same s') (g9.free nr) hr' (.inr (lb0.mix ?_ fun y hy => ?_))
      · rw [List.length_append, List.length_append, List.length_take, List.length_drop]; simp; omega
      · rcases List.mem_append.mp hy with z | z
        · rcases List.mem_append.mp z with z | z
          · exact .inl (List.mem_of_mem_take z)
          · rw [List.mem_singleton.mp z]
            have := join_jn ws'
            exact .inr ⟨by omega, chOk_join c9⟩
        · exact .inl (List.mem_of_mem_drop z)
    have wmap : ∀ k, ((ws.take k).map wV).length ≤ 200 := fun k => by rw [List.length_map, List.length_take]; omega
    have wmap2 : ∀ k, ((ws.drop k).map wV).length ≤ 200 := fun k => by rw [List.length_map, List.length_drop]; omega
    have cct : ∀ k, ∀ y ∈ ws.take k, chOk y := fun k y hy => cc y (List.mem_of_mem_take hy)
    have ccd : ∀ k, ∀ y ∈ ws.drop k, chOk y := fun k y hy => cc y (List.mem_of_mem_drop hy)
    by_cases e5 : kd < 5
    · refine iteD (decide_eq_true e5) ⟨_, rfl, _, rfl, _, rfl, W0, _, rfl, SqL.of h8, fun q1 m1 => ?_⟩
      rw [cut_tk (by rw [List.length_map]; omega), ← List.map_take]
      have s9 := same_new (o := HO.lst ((ws.take pn).map wV)) m1
      have h9 := upd_same (H := H8) (a := q1) (o := HO.lst ((ws.take pn).map wV))
      refine ⟨_, rfl, (show 1 ≤ sizeLine by omega), fun q2 m2 => ?_⟩
      have s10 := same_new (o := HO.lst [wV wd]) m2
      refine ⟨q1, q2, _, _, rfl, rfl, s10 _ _ h9, upd_same, by have := wmap pn; simp at this ⊢; omega, fun q3 m3 => ?_⟩
      have s11 := same_new (o := HO.lst ((ws.take pn).map wV ++ [wV wd])) m3
      have h11 := upd_same (H := upd (upd H8 q1 (HO.lst ((ws.take pn).map wV))) q2 (HO.lst [wV wd])) (a := q3) (o := HO.lst ((ws.take pn).map wV ++ [wV wd]))
      have s91 := s9.trans (s10.trans s11)
      have g11 := g8.same s91
      have hL11 := s91 _ _ hL8
      have hW11 := s91 _ _ h8
      have m3H := g8.free ((s9.trans s10).free m3)
      generalize upd (upd (upd H8 q1 (HO.lst ((ws.take pn).map wV))) q2 (HO.lst [wV wd])) q3 (HO.lst ((ws.take pn).map wV ++ [wV wd])) = H11 at h11 g11 hL11 hW11 ⊢
      refine ⟨_, rfl, _, rfl, _, rfl, d, la, lb, 2, b, rfl, by decide, by decide, g11.now, fun e H12 e0' e1' D12 k12 => ?_⟩
      have g12 := g11.draw D12 k12
      have hL12 : H12 La = some (.lst (ls.map wV)) := k12 _ _ hL11 (by rintro (z | z) <;> (rw [z] at nd nla; contradiction))
      have hW12 : H12 W0 = some (.lst (ws.map wV)) := k12 _ _ hW11 (by rintro (z | z) <;> (rw [z] at o3 o4; contradiction))
      obtain ⟨o5, o6, _⟩ := g12.off m3H
      have h12 : H12 q3 = some (.lst ((ws.take pn).map wV ++ [wV wd])) := k12 _ _ h11 (by rintro (z | z) <;> (rw [z] at o5 o6; contradiction))
      obtain ⟨en, rfl⟩ : ∃ n : Nat, e = (n : Nat) := ⟨e.toNat, by omega⟩
      refine ⟨_, _, rfl, rfl, _, rfl, W0, _, rfl, SqL.of hW12, fun q4 m4 => ?_⟩
      rw [show (((pn : Nat) : Int) + ((en : Nat) : Int)) = ((pn + en : Nat) : Int) by omega, cut_dpA, ← List.map_drop]
      have s13 := same_new (o := HO.lst ((ws.drop (pn + en)).map wV)) m4
      refine ⟨q3, q4, _, _, rfl, rfl, s13 _ _ h12, upd_same, by have := wmap pn; have := wmap2 (pn + en); simp at *; omega, fun q5 m5 => ?_⟩
      have s14 := same_new (o := HO.lst (((ws.take pn).map wV ++ [wV wd]) ++ (ws.drop (pn + en)).map wV)) m5
      refine fin _ q5 (ws.take pn ++ [wd] ++ ws.drop (pn + en)) _ (g12.same (s13.trans s14)) ((s13.trans s14) _ _ hL12) (by rw [upd_same, List.map_append, List.map_append]; rfl) ?_ fun y hy => ?_
      · have := jn_gap pn en ws
        rw [jn_app, jn_app]
        have : jn [wd] = wd.length + 1 := by simp [jn]
        omega
      · rcases List.mem_append.mp hy with z | z
        · rcases List.mem_append.mp z with z | z
          · exact cct _ y z
          · rw [List.mem_singleton.mp z]; exact wc
        · exact ccd _ y z
    · refine iteE (decide_eq_false e5) ⟨_, rfl, _, rfl, _, rfl, W0, _, rfl, SqL.of h8, fun q1 m1 => ?_⟩
      rw [cut_tk (by rw [List.length_map]; omega), ← List.map_take]
      have s9 := same_new (o := HO.lst ((ws.take pn).map wV)) m1
      have h9 := upd_same (H := H8) (a := q1) (o := HO.lst ((ws.take pn).map wV))
      refine ⟨_, rfl, _, rfl, _, _, rfl, rfl, _, rfl, W0, _, rfl, SqL.of (s9 _ _ h8), fun q2 m2 => ?_⟩
      rw [show (((pn : Nat) : Int) + 1) = ((pn + 1 : Nat) : Int) by omega, cut_dpA, ← List.map_drop]
      have s10 := same_new (o := HO.lst ((ws.drop (pn + 1)).map wV)) m2
      refine ⟨q1, q2, _, _, rfl, rfl, s10 _ _ h9, upd_same, by have := wmap pn; have := wmap2 (pn + 1); omega, fun q3 m3 => ?_⟩
      have s11 := same_new (o := HO.lst ((ws.take pn).map wV ++ (ws.drop (pn + 1)).map wV)) m3
      have s91 := s9.trans (s10.trans s11)
      refine fin _ q3 (ws.take pn ++ ws.drop (pn + 1)) _ ((g8.same s91).less (by omega)) (s91 _ _ hL8) (by rw [upd_same, List.map_append]) ?_ fun y hy => ?_
      · have := jn_gap pn 1 ws
        rw [jn_app]
        omega
      · rcases List.mem_append.mp hy with z | z
        · exact cct _ y z
        · exact ccd _ y z
end
end Kc

set_option Elab.async false
set_option linter.all false
set_option maxRecDepth 100000
set_option maxHeartbeats 4000000
/-! what is_ascending lets through; data of tuples alone -/
namespace Kc
open PySem PySem.Spec PyProof.Rows L2 Kg Kd Kr Kf
theorem asc_inv : ∀ {ds : List PyData} {n lo : Nat}, asc (n : Nat) (lo : Nat) ds = true → ∃ l : List Nat, ds = l.map iD ∧ l.Pairwise (· < ·) ∧ ∀ x ∈ l, lo ≤ x ∧ x < n
  | [], _, _, _ => ⟨[], rfl, .nil, fun x hx => nomatch hx⟩
  | .int i :: ds, n, lo, h => by
    have h' : (if i < ((lo : Nat) : Int) ∨ ((n : Nat) : Int) ≤ i then false else asc (n : Nat) (i + 1) ds) = true := h
    by_cases c : i < ((lo : Nat) : Int) ∨ ((n : Nat) : Int) ≤ i
    · rw [if_pos c] at h'; exact nomatch h'
    · rw [if_neg c] at h'
      obtain ⟨j, rfl⟩ : ∃ j : Nat, i = (j : Nat) := ⟨i.toNat, by omega⟩
      obtain ⟨l, e, h1, h2⟩ := asc_inv (ds := ds) (n := n) (lo := j + 1) h'
      refine ⟨j :: l, by rw [e]; rfl, List.pairwise_cons.mpr ⟨fun x hx => (h2 x hx).1, h1⟩, fun x hx => ?_⟩
      rcases List.mem_cons.mp hx with z | z
      · omega
      · have := h2 x z; omega
  | .none :: _, _, _, h => nomatch h
  | .bool _ :: _, _, _, h => nomatch h
  | .str _ :: _, _, _, h => nomatch h
  | .list _ :: _, _, _, h => nomatch h
  | .tuple _ :: _, _, _, h => nomatch h
  | .dict _ :: _, _, _, h => nomatch h
theorem som_inv {d : PyData} {n : Nat} (h : ascD d (n : Nat) = true) : ∃ l, d = pdI l ∧ Som n l := by
  cases d with
  | tuple ds =>
    obtain ⟨l, e, h1, h2⟩ := asc_inv (lo := 0) h
    exact ⟨l, by rw [e]; rfl, h1, fun x hx => (h2 x hx).2⟩
  | _ => exact nomatch h
theorem das_ints {av : Addr → Prop} {H : Hp} : ∀ {l : List Nat} {vs : List V}, DaAll av H vs (l.map iD) → TuAll H vs (l.map iD)
  | [], _, .nil => .nil
  | n :: l, _, .cons h r => by
    cases h
    exact .cons (.int _) (das_ints r)
theorem da_pdI {av : Addr → Prop} {H : Hp} {v : V} {l : List Nat} (h : Da av H v (pdI l)) : Tu H v (pdI l) := by
  unfold pdI at h ⊢
  cases h with
  | tup _ h1 h2 h3 => exact .tup h1 h2 (das_ints h3)
theorem das_pdI {av : Addr → Prop} {H : Hp} : ∀ {es : List (List Nat)} {vs : List V}, DaAll av H vs (es.map pdI) → TuAll H vs (es.map pdI)
  | [], _, .nil => .nil
  | n :: l, _, .cons h r => .cons (da_pdI h) (das_pdI r)
theorem da_pdE {av : Addr → Prop} {H : Hp} {v : V} {es : List (List Nat)} (h : Da av H v (pdE es)) : Tu H v (pdE es) := by
  unfold pdE at h ⊢
  cases h with
  | tup _ h1 h2 h3 => exact .tup h1 h2 (das_pdI h3)
theorem das_lenI {av : Addr → Prop} {H : Hp} : ∀ {vs : List V} {ds : List PyData}, DaAll av H vs ds → vs.length = ds.length
  | _, _, .nil => rfl
  | _, _, .cons _ r => congrArg (· + 1) (das_lenI r)
theorem tr_tu {av : Addr → Prop} {H : Hp} : ∀ {t : Tr} {v : V}, Da av H v t.d → Tu H v t.d
  | .ans n, v, h => by
    have h' : Da av H v (.int ((n : Nat) : Int)) := h
    cases h'
    exact .int _
  | .tst k y n, v, h => by
    have h' : Da av H v (.tuple [.int ((k : Nat) : Int), y.d, n.d]) := h
    cases h' with
    | tup _ h1 h2 h3 =>
      cases h3 with
      | cons a1 r1 =>
        cases r1 with
        | cons a2 r2 =>
          cases r2 with
          | cons a3 r3 =>
            cases r3
            cases a1
            exact .tup h1 h2 (.cons (.int _) (.cons (tr_tu a2) (.cons (tr_tu a3) .nil)))
theorem need_tu {av : Addr → Prop} {H : Hp} {p : Nat × Bool} {v : V} (h : Da av H v (needD p)) : Tu H v (needD p) := by
  unfold needD at h ⊢
  cases h with
  | tup _ h1 h2 h3 =>
    cases h3 with
    | cons a1 r1 =>
      cases r1 with
      | cons a2 r2 =>
        cases r2
        cases a1
        cases a2
        exact .tup h1 h2 (.cons (.int _) (.cons (.bl _) .nil))
theorem all_tu {α : Type} {av : Addr → Prop} {H : Hp} {g : α → PyData} (hg : ∀ {x : α} {v : V}, Da av H v (g x) → Tu H v (g x)) : ∀ {xs : List α} {vs : List V}, DaAll av H vs (xs.map g) → TuAll H vs (xs.map g)
  | [], _, .nil => .nil
  | _ :: _, _, .cons h r => .cons (hg h) (all_tu hg r)
theorem row_tu {av : Addr → Prop} {H : Hp} {r : Kf.Row} {v : V} (h : Da av H v (rwD r)) : Tu H v (rwD r) := by
  unfold rwD at h ⊢
  cases h with
  | tup _ h1 h2 h3 =>
    cases h3 with
    | cons a1 r1 =>
      cases r1 with
      | cons a2 r2 =>
        cases r2
        cases a2
        cases a1 with
        | tup _ g1 g2 g3 => exact .tup h1 h2 (.cons (.tup g1 g2 (all_tu need_tu g3)) (.cons (.int _) .nil))
/-- a choice is of tuples alone -/
theorem ch_tu {av : Addr → Prop} {H : Hp} {c : Ch} {v : V} (h : Da av H v c.d) : Tu H v c.d := by
  cases c with
  | tree t => exact tr_tu h
  | rows rs =>
    have h' : Da av H v (.tuple (rs.map rwD)) := h
    cases h' with
    | tup _ h1 h2 h3 => exact (.tup h1 h2 (all_tu row_tu h3) : Tu H _ (.tuple (rs.map rwD)))
end Kc

set_option Elab.async false
set_option linter.all false
set_option maxRecDepth 100000
set_option maxHeartbeats 4000000
/-! Comprehensions over enumerate; numbers among kinds; sameness of tuples of kinds. -/
namespace Kf
open PySem PySem.Spec PyProof.Rows L2 Kg Kd LamX Kr
theorem inV_J (j : Int) : ∀ l : List Int, inV (.int j) (l.map V.int) = decide (j ∈ l)
  | [] => by simp [inV]
  | a :: l => by
    have z := inV_J j l
    unfold inV at z ⊢
    rw [List.map_cons, List.any_cons, z]
    have e : eqV (V.int a) (.int j) = decide (j = a) := by
      show (a == j) = _
      by_cases c : j = a
      · subst c; simp
      · have c2 : ¬ a = j := fun y => c y.symm
        simp [c, c2]
    rw [e]
    by_cases c : j = a
    · simp [c]
    · simp [c]
theorem flat_J : ∀ l : List Int, (l.map V.int).all flatV = true
  | [] => rfl
  | a :: l => by rw [List.map_cons, List.all_cons, flat_J l]; rfl
section
variable {K : PySem.W.Frag} {a : Addr} {xs : List V} {g : TG} {te : TE} {vs : List Nat} {σ : L2.St} {H1 : Hp} {D : Addr} {Qd : Hp → Prop}
/-- [.. for i, x in enumerate(t)] -/
theorem lc_eI (v : Nat → V) (mono : ∀ {x σ H A B}, (∀ s h, A s h → B s h) → g x σ H A → g x σ H B) (nD : H1 D = none) (hn : xs.length ≤ 900) (ha : H1 a = some (.tup xs))
    (hs : ∀ (i : Nat) (x : V), xs[i]? = some x → ∀ (H : Hp) (t : Addr), Same H1 H → H t = some (.tup [.int ((i : Nat) : Int), x]) → ∀ (R : V → Hp → Prop), (∀ H', Same H H' → R (v i) H') → g (.ref t) (wipe σ vs) H fun σ2 H2 => wipe σ2 vs = wipe σ vs ∧ te σ2 H2 R)
    (hd : ∀ H, Same H1 H → H D = some (.lst ((List.range xs.length).map v)) → Qd H) :
    ∃ W : Nat → Nat → Hp → Prop, (∃ m, W 0 m (upd H1 D (.lst []))) ∧ ∀ i m H, W i m H →
      ((IteT K a).stop i H ∧ Qd H) ∨ ((IteT K a).go i H ∧ ∃ Nx : Hp → Prop, (∀ H', Nx H' → ∃ m', m' < m ∧ W (i + 1) m' H') ∧ ∀ x H', (IteT K a).yld i H x H' → g x (wipe σ vs) H' fun σ2 H2 => wipe σ2 vs = wipe σ vs ∧ tYes σ2 H2 fun b H3 =>
        if b = true then te σ2 H3 fun y H4 => ∃ acc, H4 D = some (.lst acc) ∧ acc.length < sizeLine ∧ Nx (upd H4 D (.lst (acc ++ [y]))) else Nx H3) := by
  refine lc_it (walk_enumT (K := K) (a := a) (xs := xs)) (fun i H => Same H1 H ∧ H D = some (.lst ((List.range i).map v))) ⟨same_new nD, upd_same⟩ (fun i H _ p => SqT.of (p.1 _ _ ha)) (fun i x H H' hi p yy => ?_) (fun H p => hd H p.1 p.2)
  obtain ⟨t, v1, v2, rfl, nT, rfl, f1, f2⟩ := yy
  have f1' : v1 = .int ((i : Nat) : Int) := (Option.some.inj f1).symm
  subst f1'
  have s' := same_new (o := HO.tup [.int ((i : Nat) : Int), v2]) nT
  refine mono (fun s2 h2 z => ⟨z.1, ?_⟩) (hs i v2 f2 _ t (p.1.trans s') upd_same (fun y H4 => ∃ acc, H4 D = some (.lst acc) ∧ acc.length < sizeLine ∧ (Same H1 (upd H4 D (.lst (acc ++ [y]))) ∧ (upd H4 D (.lst (acc ++ [y]))) D = some (.lst ((List.range (i + 1)).map v)))) fun H2 s2 => ⟨_, s2 _ _ (s' _ _ p.2), ?_, fun bb o z => ?_, ?_⟩)
  · exact z.2
  · rw [List.length_map, List.length_range]; exact small1000 (by omega)
  · rw [upd_ne (ne_of_none z nD)]; exact s2 _ _ (s' _ _ (p.1 _ _ z))
  · rw [upd_same, List.range_succ, List.map_append]; rfl
end
/-! ### sameness of tuples of kinds -/
theorem sameA_ints : ∀ (l m : List Nat), sameA (l.map iD) (m.map iD) = decide (l = m)
  | [], [] => by simp [sameA]
  | [], _ :: _ => by simp [sameA]
  | _ :: _, [] => by simp [sameA]
  | a :: l, b :: m => by
    rw [List.map_cons, List.map_cons]
    show (sameD (iD a) (iD b) && sameA (l.map iD) (m.map iD)) = _
    rw [sameA_ints l m]
    have e : sameD (iD a) (iD b) = decide (a = b) := by
      show sameD (.int ((a : Nat) : Int)) (.int ((b : Nat) : Int)) = _
      rw [sameD]
      by_cases c : a = b
      · subst c; simp
      · have c2 : ¬ ((a : Nat) : Int) = ((b : Nat) : Int) := by omega
        simp [c, c2]
    rw [e]
    by_cases c : a = b
    · subst c; simp
    · simp [c]
theorem sameD_pdI (l m : List Nat) : sameD (pdI l) (pdI m) = decide (l = m) := by
  unfold pdI
  rw [sameD, sameA_ints]
theorem sameA_back : ∀ {ds : List PyData} {m : List Nat}, sameA ds (m.map iD) = true → ds = m.map iD
  | [], [], _ => rfl
  | [], _ :: _, h => by simp [sameA] at h
  | _ :: _, [], h => by simp [sameA] at h
  | d :: ds, b :: m, h => by
    have h' : (sameD d (iD b) && sameA ds (m.map iD)) = true := h
    obtain ⟨h1, h2⟩ := Bool.and_eq_true_iff.mp h'
    rw [List.map_cons, sameA_back h2]
    congr 1
    have h1' : sameD d (.int ((b : Nat) : Int)) = true := h1
    cases d with
    | int i =>
      rw [sameD] at h1'
      rw [of_decide_eq_true h1']; rfl
    | _ => simp [sameD] at h1'
theorem sameD_back {d : PyData} {m : List Nat} (h : sameD d (pdI m) = true) : d = pdI m := by
  unfold pdI at h ⊢
  cases d with
  | tuple ds =>
    rw [sameD] at h
    rw [sameA_back h]
  | _ => simp [sameD] at h
end Kf

set_option Elab.async false
set_option linter.all false
set_option maxRecDepth 100000
set_option maxHeartbeats 4000000
/-! [.. for i, x in enumerate(l) if ..], l a list -/
namespace Kf
open PySem PySem.Spec PyProof.Rows L2 Kg Kd Kr
section
variable {K : PySem.W.Frag} {a : Addr} {xs : List V} {g : TG} {tt : TT} {te : TE} {vs : List Nat} {σ : L2.St} {H1 : Hp} {D : Addr} {Qd : Hp → Prop}
theorem lc_enF (P : Nat → Bool) (f : Nat → V) (nD : H1 D = none) (hn : xs.length ≤ 900) (ha : H1 a = some (.lst xs))
    (hs : ∀ (i : Nat) (x : V), xs[i]? = some x → ∀ (H : Hp) (t : Addr), Same H1 H → H t = some (.tup [.int ((i : Nat) : Int), x]) → ∀ (R : V → Hp → Prop) (R0 : Hp → Prop), (∀ H', Same H H' → (P i = true → R (f i) H') ∧ (P i = false → R0 H')) →
      g (.ref t) (wipe σ vs) H fun σ2 H2 => wipe σ2 vs = wipe σ vs ∧ tt σ2 H2 fun b H3 => if b = true then te σ2 H3 R else R0 H3)
    (hd : ∀ H, Same H1 H → H D = some (.lst (((List.range xs.length).filter P).map f)) → Qd H) :
    ∃ W : Nat → Nat → Hp → Prop, (∃ m, W 0 m (upd H1 D (.lst []))) ∧ ∀ i m H, W i m H →
      ((Ite K a).stop i H ∧ Qd H) ∨ ((Ite K a).go i H ∧ ∃ Nx : Hp → Prop, (∀ H', Nx H' → ∃ m', m' < m ∧ W (i + 1) m' H') ∧ ∀ x H', (Ite K a).yld i H x H' → g x (wipe σ vs) H' fun σ2 H2 => wipe σ2 vs = wipe σ vs ∧ tt σ2 H2 fun b H3 =>
        if b = true then te σ2 H3 fun y H4 => ∃ acc, H4 D = some (.lst acc) ∧ acc.length < sizeLine ∧ Nx (upd H4 D (.lst (acc ++ [y]))) else Nx H3) := by
  refine lc_it (walk_enum (K := K) (a := a) (xs := xs)) (fun i H => Same H1 H ∧ H D = some (.lst (((List.range i).filter P).map f))) ⟨same_new nD, upd_same⟩ (fun i H _ p => SqL.of (p.1 _ _ ha)) (fun i x H H' hi p yy => ?_) (fun H p => hd H p.1 p.2)
  obtain ⟨t, v1, v2, rfl, nT, rfl, f1, f2⟩ := yy
  have f1' : v1 = .int ((i : Nat) : Int) := (Option.some.inj f1).symm
  subst f1'
  have s' := same_new (o := HO.tup [.int ((i : Nat) : Int), v2]) nT
  refine hs i v2 f2 _ t (p.1.trans s') upd_same _ _ fun H4 s4 => ⟨fun c => ?_, fun c => ?_⟩
  · refine ⟨_, s4 _ _ (s' _ _ p.2), ?_, fun b o z => ?_, ?_⟩
    · have := rgm_len P f i
      exact small1000 (by omega)
    · rw [upd_ne (ne_of_none z nD)]; exact s4 _ _ (s' _ _ (p.1 _ _ z))
    · rw [upd_same, rgm_succ, if_pos c]
  · refine ⟨p.1.trans (s'.trans s4), ?_⟩
    rw [rgm_succ, if_neg (by rw [c]; exact Bool.false_ne_true), List.append_nil]
    exact s4 _ _ (s' _ _ p.2)
end
theorem prd_at {α β : Type} {F : α → β → Prop} : ∀ {as : List α} {bs : List β}, Paired F as bs → ∀ {j : Nat} {a : α} {b : β}, as[j]? = some a → bs[j]? = some b → F a b
  | _, _, .nil, j, a, b, h, _ => by simp at h
  | _, _, .cons h t, 0, a, b, h1, h2 => by simp at h1 h2; subst h1; subst h2; exact h
  | _, _, .cons h t, j + 1, a, b, h1, h2 => prd_at t (j := j) (by simpa using h1) (by simpa using h2)
theorem asc_same : ∀ {a b : List Nat}, a.Pairwise (· < ·) → b.Pairwise (· < ·) → (∀ k, k ∈ a ↔ k ∈ b) → a = b
  | [], [], _, _, _ => rfl
  | [], b :: bs, _, _, h => absurd ((h b).mpr (List.mem_cons_self ..)) (by simp)
  | a :: as, [], _, _, h => absurd ((h a).mp (List.mem_cons_self ..)) (by simp)
  | a :: as, b :: bs, ha, hb, h => by
    rw [List.pairwise_cons] at ha hb
    have e : a = b := by
      have h1 := (h a).mp (List.mem_cons_self ..)
      have h2 := (h b).mpr (List.mem_cons_self ..)
      rcases List.mem_cons.mp h1 with h1 | h1
      · exact h1
      · rcases List.mem_cons.mp h2 with h2 | h2
        · exact h2.symm
        · have := hb.1 _ h1
          have := ha.1 _ h2
          omega
    subst e
    refine congrArg (a :: ·) (asc_same ha.2 hb.2 fun k => ⟨fun hk => ?_, fun hk => ?_⟩)
    · rcases List.mem_cons.mp ((h k).mp (List.mem_cons_of_mem _ hk)) with e | z
      · have := ha.1 _ hk; omega
      · exact z
    · rcases List.mem_cons.mp ((h k).mpr (List.mem_cons_of_mem _ hk)) with e | z
      · have := hb.1 _ hk; omega
      · exact z
theorem som_filt {n : Nat} {l : List Nat} (h : Som n l) : (List.range n).filter (fun k => decide (k ∈ l)) = l := by
  refine asc_same (List.pairwise_lt_range.filter _) h.asc fun k => ?_
  rw [List.mem_filter, List.mem_range, decide_eq_true_iff]
  exact ⟨fun z => z.2, fun z => ⟨h.low k z, z⟩⟩
end Kf

set_option Elab.async false
set_option linter.all false
set_option maxRecDepth 100000
set_option maxHeartbeats 4000000
namespace Kc
open PySem PySem.Spec PyProof.Rows L2 Kg Kd Kr Kf
abbrev sSome : Stmt := topS 34
abbrev sFour : Stmt := topS 35
abbrev nSome : List Str := ["_law_deck_here", "_law_many", "_law_most", "_law_left", "_law_number_here"]
abbrev nFour : List Str := ["_law_deck_here", "_law_most", "_law_many", "_law_several", "_law_elders", "_law_kind", "_law_some_here", "_law_closed", "_law_hollow"]
theorem scSome : FnScope nSome ["_law_deck_here", "_law_many", "_law_most"] (defScope sSome) := ⟨rfl, rfl, rfl, by decide +kernel, rfl, by decide +kernel, by decide +kernel⟩
theorem scFour : FnScope nFour ["_law_deck_here", "_law_most"] (defScope sFour) := ⟨rfl, rfl, rfl, by decide +kernel, rfl, by decide +kernel, by decide +kernel⟩
def spSome : Sp := fun vs H Q _ => ∃ (d la lb : Addr) (n m b : Nat), vs = [.ref d, .int (n : Nat), .int (m : Nat)] ∧ n ≤ 6 ∧ DeckAt H d la lb (b + n) ∧
  ∀ H' p l, Go H d la lb b H' → H p = none → Tu H' (.ref p) (pdI l) → Som n l → l.length ≤ m → Q (.ref p) H'
def spFour : Sp := fun vs H Q _ => ∃ (d la lb : Addr) (m b : Nat), vs = [.ref d, .int (m : Nat)] ∧ 1 ≤ m ∧ m ≤ 6 ∧ DeckAt H d la lb (b + 64) ∧
  ∀ H' l es cl ho sv, Go H d la lb b H' → H l = none → Fo H' l es cl ho sv → es.length ≤ m → Q (.ref l) H'
section
variable {P : Program} {w : World} {K : PySem.W.Frag} {mg : Str → Option Value} {base : Heap} {f : Addr} {fd : FuncData} {k : Nat}
theorem ok_some {fN : Addr} {dN : FuncData} (F : Fun K "_law_some" "_law_some" sSome f fd) (B : Bl mg) (GN : FnOk P w K mg base CX0 1 fN dN ["_law_deck_here", "_law_many"] spNext) (kN : PySem.W.keepIn K (.ref fN) = true) (bN : Binds K dN ["_law_deck_here", "_law_many"] []) (gN : mg "_law_next" = some (.ref fN)) : FnOk P w K mg base CX0 2 f fd ["_law_deck_here", "_law_many", "_law_most"] spSome := by
  refine F.ok scSome (fun vs H Q E h => ?_) (fun cdv A outer s H vs Q E hr h => ?_)
  · obtain ⟨d, la, lb, n, m, b, rfl, _⟩ := h
    rfl
  · obtain ⟨d, la, lb, n, m, b, rfl, hn, D, q⟩ := h
    refine ⟨_, pss_cons (ps_setLc (i := 3) (own := [("_law_number_here", 4)]) (g := gName 4) rfl scSome.nd rfl rfl (sw_true rfl rfl rfl (by decide +kernel)) (pi_range1 (by rfl) B.range (pa_cons (pv 1) pa_nil))
        (blkOk_by (N := nSome) (sc := defScope sSome) (by decide +kernel)) (fun _ _ _ _ _ => pg_name (i := 4) scSome.nd rfl (Or.inl rfl)) (fun _ _ _ _ _ => pts_one (pt_cmpR op_eq (pe_call GN hr (by rfl) gN kN bN .nil pass0 (pa_cons (pv 0) (pa_cons pe_int pa_nil))) pe_int (nomark _)))
        (fun _ _ _ _ _ => pv 4))
      (pss_one (ps_ret (pe_callTy call_tuple_of (by rfl) B.tuple PyProof.Rows.boot_tuple (pa_cons (pe_slice sl_list (pv 3) po_none (po_some (pv 2))) pa_nil)))), ?_⟩
    refine ⟨_, rfl, (n : Nat), rfl, by omega, by omega, fun Dl nD => ?_⟩
    refine lc_range (lo := 0) (n := ((n : Nat) : Int).toNat) (fun i H1 => ∃ l : List Nat, Go H d la lb (b + (n - i)) H1 ∧ H1 Dl = some (.lst (l.map iV)) ∧ Som i l) ⟨[], (Go.refl D).same (same_new nD), upd_same, ⟨.nil, fun x hx => nomatch hx⟩⟩ (fun i H1 hi p => ?_) (fun H1 p => ?_)
    · obtain ⟨l, g, hD, sl⟩ := p
      rw [Int.toNat_natCast] at hi
      have ll := sl.len
      obtain ⟨o1, o2, o3⟩ := g.off nD
      refine ⟨rfl, _, rfl, d, la, lb, 2, b + (n - (i + 1)), rfl, by decide, by decide, g.now.less (by omega), fun v H2 _ _ D2 k2 => ⟨rfl, _, rfl, ?_⟩⟩
      have g2 := g.draw D2 k2
      have hD2 := k2 _ _ hD (by rintro (z | z) <;> (rw [z] at o1 o2; contradiction))
      refine ite2 (fun _ => ?_) (fun _ => ?_)
      · refine ⟨_, rfl, _, hD2, ?_, l ++ [i], ?_, ?_, som_snoc sl⟩
        · rw [List.length_map]; exact small1000 (by omega)
        · exact g2.put nD
        · rw [upd_same, List.map_append]
          show some (HO.lst (l.map iV ++ [V.int (0 + (i : Nat))])) = _
          rw [Int.zero_add]; rfl
      · exact ⟨l, g2, hD2, som_up sl (by omega)⟩
    · obtain ⟨l, g, hD, sl⟩ := p
      rw [Int.toNat_natCast] at sl g
      have ll := sl.len
      refine ⟨_, rfl, _, rfl, _, rfl, Dl, _, rfl, SqL.of hD, fun p np => ?_⟩
      have e1 : cutV (l.map iV) none (some (m : Nat)) = (l.take m).map iV := by
        unfold cutV
        rw [HT.sIx_none, HT.sIx_nat, List.length_map, List.drop_zero, Nat.sub_zero, ← List.map_take]
        congr 1
        by_cases h : m ≤ l.length
        · rw [Nat.min_eq_left h]
        · rw [Nat.min_eq_right (by omega), List.take_of_length_le (by omega), List.take_of_length_le (by omega)]
      rw [e1]
      have g2 := g.same (same_new (o := HO.lst ((l.take m).map iV)) np)
      refine ⟨p, _, rfl, .inl ⟨SqL.of upd_same, fun t nt => ?_⟩⟩
      have g3 := g2.same (same_new (o := HO.tup ((l.take m).map iV)) nt)
      have tl : (l.take m).length ≤ l.length := by rw [List.length_take]; omega
      refine q _ t (l.take m) (g3.less (by omega)) (g2.free nt) (tu_ints upd_same (by omega)) ⟨sl.asc.sublist (List.take_sublist ..), fun x hx => sl.low x (List.mem_of_mem_take hx)⟩ (by rw [List.length_take]; omega)
end
end Kc

set_option Elab.async false
set_option linter.all false
set_option maxRecDepth 100000
set_option maxHeartbeats 8000000
namespace Kc
open PySem PySem.Spec PyProof.Rows L2 Kg Kd Kr Kf
theorem eqv_nilT (l : List Nat) : PyData.eqv (pdI l) (.tuple []) = l.isEmpty := by
  have z := eqv_pdI l []
  have e : pdI [] = .tuple [] := rfl
  rw [e] at z
  rw [z]
  cases l <;> rfl
/-- elders so far -/
structure ElP (es : List (List Nat)) (sv : Bool) : Prop where
  asc : ∀ (k : Nat) (l : List Nat), es[k]? = some l → l.Pairwise (· < ·)
  low : ∀ (k : Nat) (l : List Nat), es[k]? = some l → ∀ x ∈ l, x < k
  one : ∀ (k : Nat) (l : List Nat), es[k]? = some l → sv = false → l.length ≤ 1
theorem ElP.nil {sv : Bool} : ElP [] sv := ⟨fun k l h => by simp at h, fun k l h => by simp at h, fun k l h => by simp at h⟩
theorem ElP.snoc {es : List (List Nat)} {sv : Bool} {l : List Nat} (E : ElP es sv) (h : Som es.length l) (o : sv = false → l.length ≤ 1) : ElP (es ++ [l]) sv := by
  have key : ∀ (k : Nat) (m : List Nat), (es ++ [l])[k]? = some m → es[k]? = some m ∨ (k = es.length ∧ m = l) := by
    intro k m z
    by_cases c : k < es.length
    · rw [List.getElem?_append_left c] at z; exact .inl z
    · rw [List.getElem?_append_right (by omega)] at z
      by_cases c2 : k - es.length = 0
      · rw [c2] at z
        simp at z
        exact .inr ⟨by omega, z.symm⟩
      · rw [List.getElem?_eq_none (by rw [List.length_singleton]; omega)] at z; cases z
  refine ⟨fun k m z => ?_, fun k m z => ?_, fun k m z => ?_⟩
  · rcases key k m z with y | ⟨rfl, rfl⟩
    · exact E.asc k m y
    · exact h.asc
  · rcases key k m z with y | ⟨rfl, rfl⟩
    · exact E.low k m y
    · exact h.low
  · rcases key k m z with y | ⟨rfl, rfl⟩
    · exact E.one k m y
    · exact o
theorem som_one {k : Nat} (h : 0 < k) : Som k [k - 1] := ⟨List.pairwise_singleton .., fun x hx => by rw [List.mem_singleton.mp hx]; omega⟩
section
variable {P : Program} {w : World} {K : PySem.W.Frag} {mg : Str → Option Value} {base : Heap} {f : Addr} {fd : FuncData} {k : Nat}
theorem ok_four {fN fS : Addr} {dN dS : FuncData} (F : Fun K "_law_four" "_law_four" sFour f fd) (B : Bl mg) (GN : FnOk P w K mg base CX0 1 fN dN ["_law_deck_here", "_law_many"] spNext) (kN : PySem.W.keepIn K (.ref fN) = true) (bN : Binds K dN ["_law_deck_here", "_law_many"] []) (gN : mg "_law_next" = some (.ref fN))
    (GS : FnOk P w K mg base CX0 2 fS dS ["_law_deck_here", "_law_many", "_law_most"] spSome) (kS : PySem.W.keepIn K (.ref fS) = true) (bS : Binds K dS ["_law_deck_here", "_law_many", "_law_most"] []) (gS : mg "_law_some" = some (.ref fS)) : FnOk P w K mg base CX0 3 f fd ["_law_deck_here", "_law_most"] spFour := by
  refine F.ok scFour (fun vs H Q E h => ?_) (fun cdv A outer s H vs Q E hr h => ?_)
  · obtain ⟨d, la, lb, m, b, rfl, _⟩ := h
    rfl
  · obtain ⟨d, la, lb, m, b, rfl, hm1, hm6, D, q⟩ := h
    have hr1 := hr.mono (show 1 ≤ 2 by decide)
    refine ⟨_, pss_cons (ps_par (i := 2) (j := 3) (by rfl) scFour.nd rfl rfl (by decide) rfl rfl (pa_cons (pe_op op_add pe_int (pe_call GN hr1 (by rfl) gN kN bN .nil pass0 (pa_cons (pv 0) (pa_cons (pv 1) pa_nil)))) (pa_cons (pe_cmpR op_gt (pe_call GN hr1 (by rfl) gN kN bN .nil pass0 (pa_cons (pv 0) (pa_cons pe_int pa_nil))) pe_int (nomark _)) pa_nil)) (by rfl))
      (pss_cons (ps_set (i := 4) scFour.nd rfl (.inl rfl) (pe_lst pa_nil))
      (pss_cons (ps_for PassesOwn.never rfl (pi_range1 (by rfl) B.range (pa_cons (pv 2) pa_nil)) (pg_name (i := 5) scFour.nd rfl (.inl rfl))
        (pss_cons (ps_set (i := 6) scFour.nd rfl (.inl rfl) (pe_call GS hr (by rfl) gS kS bS .nil pass0 (pa_cons (pv 0) (pa_cons (pv 5) (pa_cons (pe_ifExp (pt_val (pv 3)) (pe_ix ix_list (pe_lst (pa_cons pe_int (pa_cons pe_int (pa_cons pe_int pa_nil)))) (pe_call GN hr1 (by rfl) gN kN bN .nil pass0 (pa_cons (pv 0) (pa_cons pe_int pa_nil))) (fun _ _ => rfl)) pe_int) pa_nil)))))
        (pss_cons (ps_if (PW.pt (pw_and (pt_cmpR op_gt (pv 5) pe_int (nomark _)) (pw_and (pt_cmpR (op_eqD hr.units) (pv 6) (pe_tup pa_nil) (nomark _)) (pw_and1 (pt_cmpR op_eq (pe_call GN hr1 (by rfl) gN kN bN .nil pass0 (pa_cons (pv 0) (pa_cons pe_int pa_nil))) pe_int (nomark _))))))
          (pss_one (ps_set (i := 6) scFour.nd rfl (.inl rfl) (pe_tup (pa_cons (pe_op op_sub (pv 5) pe_int) pa_nil)))) pss_nil)
        (pss_one (ps_expr (pe_bm PySem.F.plainAttrs_list PySem.F.slot_list_append PySem.F.type_list_append mt_append (pv 4) (pa_cons (pv 6) pa_nil)))))))
      (pss_cons (ps_set (i := 7) scFour.nd rfl (.inl rfl) (pe_callTy call_tuple_of (by rfl) B.tuple PyProof.Rows.boot_tuple (pa_cons (pe_lc (own := [("_law_kind", 5)]) (g := gName 5) rfl scFour.nd (pi_range1 (by rfl) B.range (pa_cons (pv 2) pa_nil))
        (blkOk_by (N := nFour) (sc := defScope sFour) (by decide +kernel)) (fun _ _ _ _ _ => pg_name (i := 5) scFour.nd rfl (Or.inl rfl)) (fun _ _ _ _ _ => pts_one (pt_cmpR op_eq (pe_call GN hr1 (by rfl) gN kN bN .nil pass0 (pa_cons (pv 0) (pa_cons pe_int pa_nil))) pe_int (nomark _)))
        (fun _ _ _ _ _ => pv 5)) pa_nil)))
      (pss_cons (ps_set (i := 8) scFour.nd rfl (.inl rfl) (pe_callTy call_tuple_of (by rfl) B.tuple PyProof.Rows.boot_tuple (pa_cons (pe_lc (own := [("_law_kind", 5)]) (g := gName 5) rfl scFour.nd (pi_range1 (by rfl) B.range (pa_cons (pv 2) pa_nil))
        (blkOk_by (N := nFour) (sc := defScope sFour) (by decide +kernel)) (fun _ _ _ _ _ => pg_name (i := 5) scFour.nd rfl (Or.inl rfl)) (fun _ _ _ _ _ => pts_one (pt_cmpR op_eq (pe_call GN hr1 (by rfl) gN kN bN .nil pass0 (pa_cons (pv 0) (pa_cons pe_int pa_nil))) pe_int (nomark _)))
        (fun _ _ _ _ _ => pv 5)) pa_nil)))
      (pss_one (ps_ret (pe_lst (pa_cons (pe_callTy call_tuple_of (by rfl) B.tuple PyProof.Rows.boot_tuple (pa_cons (pv 4) pa_nil)) (pa_cons (pv 7) (pa_cons (pv 8) (pa_cons (pv 3) pa_nil))))))))))), ?_⟩
    -- many, several
    refine ⟨_, rfl, _, rfl, d, la, lb, (m : Nat), b + 63, rfl, by omega, by omega, D, fun v H1 v0 v1 D1 k1 => ⟨1, v, rfl, rfl, ?_⟩⟩
    refine ⟨_, rfl, d, la, lb, 4, b + 62, rfl, by decide, by decide, D1, fun u H2 u0 u1 D2 k2 => ⟨u, 0, rfl, rfl, ?_⟩⟩
    obtain ⟨n, rfl⟩ : ∃ n : Nat, v = (n : Nat) := ⟨v.toNat, by omega⟩
    have e1 : (1 : Int) + (n : Nat) = ((n + 1 : Nat) : Int) := by omega
    have hN : n + 1 ≤ m := by omega
    obtain ⟨sv, hsv⟩ : ∃ sv, decide (0 < u) = sv := ⟨_, rfl⟩
    refine ⟨.int ((n + 1 : Nat) : Int), .bl sv, by rw [← e1, ← hsv], ?_⟩
    have g2 := ((Go.refl D).draw D1 k1).draw D2 k2
    refine ⟨(show 0 ≤ sizeLine by decide), fun L nL => ?_⟩
    have nL0 := g2.free nL
    have g3 := g2.same (same_new (o := HO.lst []) nL)
    -- the elders
    refine ⟨_, rfl, ((n + 1 : Nat) : Int), rfl, by omega, by omega, for_range (lo := 0) (n := ((n + 1 : Nat) : Int).toNat) (fun i σ H3 => ∃ (y5 y6 : Option V) (es : List (List Nat)) (vs : List V), σ = [some (.ref d), some (.int (m : Nat)), some (.int ((n + 1 : Nat) : Int)), some (.bl sv), some (.ref L), y5, y6, none, none] ∧ Go H d la lb (b + 14 + 8 * (6 - i)) H3 ∧ H3 L = some (.lst vs) ∧ TuAll H3 vs (es.map pdI) ∧ es.length = i ∧ ElP es sv)
      ⟨none, none, [], [], rfl, g3.less (by omega), upd_same, .nil, rfl, ElP.nil⟩ (fun i σ H3 hi p => ?_) (fun σ H3 p => ?_)⟩
    · obtain ⟨y5, y6, es, vs, rfl, g, hL, tu, hl, EP⟩ := p
      have e2 : ((n + 1 : Nat) : Int).toNat = n + 1 := by omega
      rw [e2] at hi
      have ei : (0 : Int) + (i : Nat) = (i : Nat) := by omega
      rw [ei]
      obtain ⟨o1, o2, o3⟩ := g.off nL0
      -- what follows the row
      refine ⟨_, rfl, _, rfl, _, rfl, _, rfl, ?_⟩
      have after : ∀ (H5 : Hp) (p : Addr) (l : List Nat), Go H d la lb (b + 14 + 8 * (6 - (i + 1)) + 1) H5 → H5 L = some (.lst vs) → TuAll H5 vs (es.map pdI) → Tu H5 (.ref p) (pdI l) → Som i l → (sv = false → l.length ≤ 1) → Go H d la lb (b + 14 + 8 * (6 - (i + 1))) (upd H5 L (.lst (vs ++ [.ref p]))) ∧ TuAll (upd H5 L (.lst (vs ++ [.ref p]))) (vs ++ [.ref p]) ((es ++ [l]).map pdI) ∧ (es ++ [l]).length = i + 1 ∧ ElP (es ++ [l]) sv := by
        intro H5 p l g5 hL5 tu5 tp sl ll
        refine ⟨(g5.put nL0).less (by omega), ?_, by rw [List.length_append, List.length_singleton, hl], EP.snoc (by rw [hl]; exact sl) ll⟩
        rw [List.map_append]
        exact (tu5.append (.cons tp .nil)).keep (KF.putL hL5)
      cases sv
      case' true =>
        refine iteT ⟨(show 3 ≤ sizeLine by decide), fun Lr nLr => ⟨_, rfl, d, la, lb, 3, b + 14 + 8 * (6 - (i + 1)) + 1 + i, rfl, by decide, by decide, (g.now.same (same_new nLr)).less (by omega), fun r H4 r0 r1 D4 k4 => ?_⟩⟩
        have g4 := (g.same (same_new (o := HO.lst [.int 1, .int 2, .int 5]) nLr)).draw D4 k4
        have hLr : H4 Lr = some (.lst [.int 1, .int 2, .int 5]) := k4 _ _ upd_same (by
          obtain ⟨a1, a2, _⟩ := g.now.tracked
          rintro (z | z) <;> (rw [z] at nLr; contradiction))
        have hL4 : H4 L = some (.lst vs) := k4 _ _ (same_new nLr _ _ hL) (by rintro (z | z) <;> (rw [z] at o1 o2; contradiction))
        have tu4 : TuAll H4 vs (es.map pdI) := tu.keep ((KF.of_same (same_new nLr)).trans (Go.kf ((Go.refl (g.now.same (same_new nLr))).draw D4 k4)))
        have pick : ∃ mm : Nat, atI ([.int 1, .int 2, .int 5] : List V) r = some (.int (mm : Nat)) := by
          have : r = 0 ∨ r = 1 ∨ r = 2 := by omega
          rcases this with h | h | h <;> subst h
          · exact ⟨1, rfl⟩
          · exact ⟨2, rfl⟩
          · exact ⟨5, rfl⟩
        obtain ⟨mm, hmm⟩ := pick
        refine ⟨Lr, _, r, .int (mm : Nat), rfl, rfl, SqL.of hLr, hmm, d, la, lb, i, mm, b + 14 + 8 * (6 - (i + 1)) + 1, rfl, by omega, g4.now, fun H5 p l g5' np tp sl ll0 => ?_⟩
        have g5 := g4.trans g5'
        have hL5 := g5'.at_ hL4 o1 o2
        have tu5 := tu4.keep g5'.kf
        have ll : true = false → l.length ≤ 1 := fun z => nomatch z
      case' false =>
        refine iteF ⟨d, la, lb, i, 1, b + 14 + 8 * (6 - (i + 1)) + 1, rfl, by omega, g.now.less (by omega), fun H5 p l g5' np tp sl ll0 => ?_⟩
        have g5 := g.trans g5'
        have hL5 := g5'.at_ hL o1 o2
        have tu5 := tu.keep g5'.kf
        have ll : false = false → l.length ≤ 1 := fun _ => ll0
      all_goals
        have vl : vs.length < sizeLine := by rw [tu5.length, List.length_map, hl]; exact small1000 (by omega)
        refine ⟨_, rfl, _, 0, rfl, rfl, _, rfl, ?_⟩
        by_cases c0 : (0 : Int) < (i : Nat)
        · rw [decide_eq_true c0]
          refine iteT ⟨_, rfl, (show 0 ≤ sizeLine by decide), fun em nem => ?_⟩
          have sE := same_new (o := HO.tup []) nem
          refine ⟨pdI l, .tuple [], (tp.same sE).dp, .tup (SqT.of upd_same) .nil, sh_pdI l, by decide +kernel, _, rfl, ?_⟩
          rw [eqv_nilT]
          have g6 := g5.same sE
          have hL6 := sE _ _ hL5
          have tu6 := tu5.keep (.of_same sE)
          have tp6 := tp.same sE
          generalize (upd H5 em (.tup [])) = H6 at g6 hL6 tu6 tp6 ⊢
          by_cases c1 : l.isEmpty = true
          · rw [c1]
            refine iteT ⟨_, rfl, d, la, lb, 2, b + 14 + 8 * (6 - (i + 1)), rfl, by decide, by decide, g6.now, fun r2 H7 _ _ D7 k7 => ⟨rfl, _, rfl, ite2 (fun _ => ?_) (fun _ => ?_)⟩⟩
            · have g7 := g6.draw D7 k7
              have gg := (Go.refl g6.now).draw D7 k7
              have hL7 := gg.at_ hL6 o1 o2
              have tu7 := tu6.keep gg.kf
              refine ⟨_, rfl, _, 1, rfl, rfl, (show 1 ≤ sizeLine by decide), fun t nt => ?_⟩
              have ek : ((i : Nat) : Int) - 1 = ((i - 1 : Nat) : Int) := by omega
              have sT := same_new (o := HO.tup [.int ((i : Nat) - 1)]) nt
              have tt : Tu (upd H7 t (.tup [.int ((i : Nat) - 1)])) (.ref t) (pdI [i - 1]) := tu_ints (l := [i - 1]) (by rw [upd_same, ek]; rfl) (by simp)
              have g8 := g7.same sT
              have hL8 := sT _ _ hL7
              have tu8 := tu7.keep (.of_same sT)
              refine ⟨_, rfl, .inl ⟨rfl, _, SqL.of hL8⟩, _, rfl, L, _, _, rfl, rfl, hL8, vl, ?_⟩
              refine ⟨_, _, es ++ [[i - 1]], vs ++ [.ref t], rfl, (g8.put nL0), upd_same, ?_, by rw [List.length_append, List.length_singleton, hl], EP.snoc (by rw [hl]; exact som_one (by omega)) (fun _ => Nat.le_refl _)⟩
              rw [List.map_append]
              exact (tu8.append (.cons tt .nil)).keep (KF.putL hL8)
            · have g7 := g6.draw D7 k7
              have gg := (Go.refl g6.now).draw D7 k7
              have hL7 := gg.at_ hL6 o1 o2
              refine ⟨_, rfl, .inl ⟨rfl, _, SqL.of hL7⟩, _, rfl, L, _, _, rfl, rfl, hL7, vl, ?_⟩
              refine ⟨_, _, es ++ [l], vs ++ [.ref p], rfl, (g7.put nL0), upd_same, ?_, by rw [List.length_append, List.length_singleton, hl], EP.snoc (by rw [hl]; exact sl) ll⟩
              rw [List.map_append]
              exact ((tu6.keep gg.kf).append (.cons (tp6.keep gg.kf) .nil)).keep (KF.putL hL7)
          · rw [Bool.not_eq_true] at c1
            rw [c1]
            obtain ⟨z1, z2, z3, z4⟩ := after H6 p l g6 hL6 tu6 tp6 sl ll
            refine iteF (iteF ⟨_, rfl, .inl ⟨rfl, _, SqL.of hL6⟩, _, rfl, L, _, _, rfl, rfl, hL6, vl, ⟨_, _, es ++ [l], vs ++ [.ref p], rfl, z1, upd_same, z2, z3, z4⟩⟩)
        · rw [decide_eq_false c0]
          obtain ⟨z1, z2, z3, z4⟩ := after H5 p l g5 hL5 tu5 tp sl ll
          refine iteF (iteF ⟨_, rfl, .inl ⟨rfl, _, SqL.of hL5⟩, _, rfl, L, _, _, rfl, rfl, hL5, vl, ⟨_, _, es ++ [l], vs ++ [.ref p], rfl, z1, upd_same, z2, z3, z4⟩⟩)
    · obtain ⟨y5, y6, es, vs, rfl, g, hL, tu, hl, EP⟩ := p
      have e2 : ((n + 1 : Nat) : Int).toNat = n + 1 := by omega
      rw [e2] at hl g
      -- closed
      refine ⟨_, rfl, ((n + 1 : Nat) : Int), rfl, by omega, by omega, fun D1 nD1 => ?_⟩
      refine lc_range (lo := 0) (n := ((n + 1 : Nat) : Int).toNat) (fun i H4 => ∃ l : List Nat, Go H3 d la lb (b + 7 + (7 - i)) H4 ∧ H4 D1 = some (.lst (l.map iV)) ∧ Som i l) ⟨[], ((Go.refl g.now).same (same_new nD1)).less (by omega), upd_same, ⟨.nil, fun x hx => nomatch hx⟩⟩ (fun i H4 hi p => ?_) (fun H4 p => ?_)
      · obtain ⟨l, g4, hD, sl⟩ := p
        rw [e2] at hi
        have ll := sl.len
        obtain ⟨o1, o2, o3⟩ := g4.off nD1
        refine ⟨rfl, _, rfl, d, la, lb, 3, b + 7 + (7 - (i + 1)), rfl, by decide, by decide, g4.now.less (by omega), fun v H5 _ _ D5 k5 => ⟨rfl, _, rfl, ?_⟩⟩
        have g5 := g4.draw D5 k5
        have hD5 := k5 _ _ hD (by rintro (z | z) <;> (rw [z] at o1 o2; contradiction))
        refine ite2 (fun _ => ?_) (fun _ => ?_)
        · refine ⟨_, rfl, _, hD5, ?_, l ++ [i], ?_, ?_, som_snoc sl⟩
          · rw [List.length_map]; exact small1000 (by omega)
          · exact g5.put nD1
          · rw [upd_same, List.map_append]
            show some (HO.lst (l.map iV ++ [V.int (0 + (i : Nat))])) = _
            rw [Int.zero_add]; rfl
        · exact ⟨l, g5, hD5, som_up sl (by omega)⟩
      · obtain ⟨cl, g4, hD, slc⟩ := p
        rw [e2] at slc g4
        have llc := slc.len
        refine ⟨D1, _, rfl, .inl ⟨SqL.of hD, fun tc ntc => ?_⟩⟩
        have g5 := g4.same (same_new (o := HO.tup (cl.map iV)) ntc)
        have tcl : Tu (upd H4 tc (.tup (cl.map iV))) (.ref tc) (pdI cl) := tu_ints upd_same (by omega)
        generalize (upd H4 tc (.tup (cl.map iV))) = H5 at g5 tcl ⊢
        -- hollow
        refine ⟨_, rfl, ((n + 1 : Nat) : Int), rfl, by omega, by omega, fun D2 nD2 => ?_⟩
        refine lc_range (lo := 0) (n := ((n + 1 : Nat) : Int).toNat) (fun i H6 => ∃ l : List Nat, Go H5 d la lb (b + (7 - i)) H6 ∧ H6 D2 = some (.lst (l.map iV)) ∧ Som i l) ⟨[], ((Go.refl g5.now).same (same_new nD2)).less (by omega), upd_same, ⟨.nil, fun x hx => nomatch hx⟩⟩ (fun i H6 hi p => ?_) (fun H6 p => ?_)
        · obtain ⟨l, g6, hD, sl⟩ := p
          rw [e2] at hi
          have ll := sl.len
          obtain ⟨o1, o2, o3⟩ := g6.off nD2
          refine ⟨rfl, _, rfl, d, la, lb, 4, b + (7 - (i + 1)), rfl, by decide, by decide, g6.now.less (by omega), fun v H7 _ _ D7 k7 => ⟨rfl, _, rfl, ?_⟩⟩
          have g7 := g6.draw D7 k7
          have hD7 := k7 _ _ hD (by rintro (z | z) <;> (rw [z] at o1 o2; contradiction))
          refine ite2 (fun _ => ?_) (fun _ => ?_)
          · refine ⟨_, rfl, _, hD7, ?_, l ++ [i], ?_, ?_, som_snoc sl⟩
            · rw [List.length_map]; exact small1000 (by omega)
            · exact g7.put nD2
            · rw [upd_same, List.map_append]
              show some (HO.lst (l.map iV ++ [V.int (0 + (i : Nat))])) = _
              rw [Int.zero_add]; rfl
          · exact ⟨l, g7, hD7, som_up sl (by omega)⟩
        · obtain ⟨ho, g6, hD, slh⟩ := p
          rw [e2] at slh g6
          have llh := slh.len
          refine ⟨D2, _, rfl, .inl ⟨SqL.of hD, fun th nth => ?_⟩⟩
          have g7 := g6.same (same_new (o := HO.tup (ho.map iV)) nth)
          have tho : Tu (upd H6 th (.tup (ho.map iV))) (.ref th) (pdI ho) := tu_ints upd_same (by omega)
          generalize (upd H6 th (.tup (ho.map iV))) = H7 at g7 tho ⊢
          -- the list
          have gA := (g5.trans g7)
          have gB := g.trans gA
          obtain ⟨o1, o2, o3⟩ := g.off nL0
          have hL7 := gA.at_ hL o1 o2
          have tu7 := tu.keep gA.kf
          refine ⟨_, rfl, L, _, rfl, .inl ⟨SqL.of hL7, fun te nte => ?_⟩⟩
          have s8 := same_new (o := HO.tup vs) nte
          have tel : Tu (upd H7 te (.tup vs)) (.ref te) (pdE es) := .tup upd_same (by rw [tu7.length, List.length_map, hl]; omega) (tu7.keep (.of_same s8))
          refine ⟨_, rfl, _, rfl, _, rfl, (show 4 ≤ sizeLine by decide), fun lf nlf => ?_⟩
          have s9 := same_new (o := HO.lst [.ref te, .ref tc, .ref th, .bl sv]) nlf
          have g9 := (gB.same s8).same s9
          refine q _ lf es cl ho sv (g9.less (by omega)) ((gB.same s8).free nlf) ⟨⟨.ref te, .ref tc, .ref th, upd_same, tel.same s9, ((tcl.keep g7.kf).same s8).same s9, (tho.same s8).same s9⟩, ⟨by omega, by omega, EP.asc, EP.low, EP.one⟩, by rw [hl]; exact slc, by rw [hl]; exact slh⟩ (by omega)
end
end Kc


set_option Elab.async false
set_option linter.all false
set_option maxRecDepth 100000
set_option maxHeartbeats 4000000
namespace Kc
open PySem PySem.Spec PyProof.Rows L2 Kg Kd Kr Kf
/-- all kinds above each kind -/
def spTab : Sp := fun vs H Q _ => ∃ (v : V) (es : List (List Nat)) (sv : Bool), vs = [v] ∧ Tu H v (pdE es) ∧ Eld es sv ∧ ∀ H' p, Same H H' → H p = none → Tu H' (.ref p) (pdE (lotsT es)) → Q (.ref p) H'
/-- what was found: the kind, and all above of some elders -/
def Fnd (es : List (List Nat)) (k : Nat) (el ns : List Nat) : Prop := ∀ x, x ∈ ns ↔ x = k ∨ ∃ e ∈ el, abv es e x = true
theorem fnd_all {es : List (List Nat)} {sv : Bool} {k : Nat} {own ns : List Nat} (E : Eld es sv) (ho : es[k]? = some own) (h : Fnd es k own ns) (x : Nat) : x ∈ ns ↔ x ∈ lot es k := by
  have hk : k < es.length := (List.getElem?_eq_some_iff.mp ho).1
  rw [h x, lot_mem hk, abv_eq]
  have eo : es.getD k [] = own := by rw [List.getD_eq_getElem?_getD, ho]; rfl
  rw [eo]
  constructor
  · rintro (h | ⟨e, he, h⟩)
    · exact .inl h
    · exact .inr ⟨e, he, E.low k own ho e he, h⟩
  · rintro (h | ⟨e, he, _, h⟩)
    · exact .inl h
    · exact .inr ⟨e, he, h⟩
section
variable {P : Program} {w : World} {K : PySem.W.Frag} {mg : Str → Option Value} {base : Heap} {f : Addr} {fd : FuncData} {k : Nat}
theorem ok_tab (F : Fun K "table_above" "table_above" sTab f fd) (B : Bl mg) (M : Bm mg) : FnOk P w K mg base CX0 (k + 1) f fd ["elders"] spTab := by
  refine F.ok scTab (fun vs H Q E h => ?_) (fun cdv A outer s H vs Q E hr h => ?_)
  · obtain ⟨v, es, sv, rfl, _⟩ := h
    rfl
  · obtain ⟨v, es, sv, rfl, hv, EL, q⟩ := h
    refine ⟨_, pss_cons (ps_set (i := 1) scTab.nd rfl (.inl rfl) (pe_lst pa_nil))
      (pss_cons (ps_for PassesOwn.never rfl (pi_enumT (by rfl) M.enum (pa_cons (pv 0) pa_nil)) (pg_tup rfl (pgs_cons (pg_name (i := 2) scTab.nd rfl (.inl rfl)) (pgs_cons (pg_name (i := 3) scTab.nd rfl (.inl rfl)) pgs_nil)))
        (pss_cons (ps_set (i := 4) scTab.nd rfl (.inl rfl) (pe_lst (pa_cons (pv 2) pa_nil)))
        (pss_cons (ps_for PassesOwn.never rfl (pi_tup (pv 3)) (pg_name (i := 5) scTab.nd rfl (.inl rfl))
          (pss_one (ps_expr (pe_bm PySem.F.plainAttrs_list PySem.F.slot_list_extend PySem.F.type_list_extend mt_extT (pv 4) (pa_cons (pe_ix ix_list (pv 1) (pv 5) (fun _ _ => rfl)) pa_nil)))))
        (pss_one (ps_expr (pe_bm PySem.F.plainAttrs_list PySem.F.slot_list_append PySem.F.type_list_append mt_append (pv 1)
          (pa_cons (pe_callTy call_tuple_of (by rfl) B.tuple PyProof.Rows.boot_tuple (pa_cons (pe_callB (cr_sortedSet rfl) (by rfl) M.sorted (by decide +kernel) (pa_cons (pe_callTy (cr_setI rfl) (by rfl) M.set (by decide +kernel) (pa_cons (pv 4) pa_nil)) pa_nil)) pa_nil)) pa_nil)))))))
      (pss_one (ps_ret (pe_callTy call_tuple_of (by rfl) B.tuple PyProof.Rows.boot_tuple (pa_cons (pv 1) pa_nil))))), ?_⟩
    unfold pdE at hv
    cases hv with
    | @tup a xs _ ha hal hA =>
    have xl : xs.length = es.length := by rw [hA.length, List.length_map]
    refine ⟨(show 0 ≤ sizeLine by decide), fun T nT => ?_⟩
    have s0 : Same H (upd H T (.lst [])) := same_new nT
    have len6 := EL.hi
    refine ⟨_, rfl, a, xs, rfl, SqT.of (s0 _ _ ha), for_it (walk_enumT (K := K) (a := a) (xs := xs)) (fun i σ H1 => ∃ (y2 y3 y4 y5 : Option V) (rows : List V), σ = [some (.ref a), some (.ref T), y2, y3, y4, y5] ∧ Same H H1 ∧ H1 T = some (.lst rows) ∧ TuAll H1 rows (((List.range i).map (lot es)).map pdI))
      ⟨none, none, none, none, [], rfl, s0, upd_same, .nil⟩ (fun i σ H1 _ p => by obtain ⟨_, _, _, _, _, _, p, _⟩ := p; exact SqT.of (p _ _ ha)) (fun i x σ H1 H2 hi p y => ?_) (fun σ H1 p => ?_)⟩
    · obtain ⟨y2, y3, y4, y5, rows, rfl, s1, hT, hR⟩ := p
      obtain ⟨Tp, v1, v2, rfl, nTp, rfl, f1, f2⟩ := y
      have f1' : v1 = .int (i : Nat) := (Option.some.inj f1).symm
      subst f1'
      obtain ⟨dx, g1, g2⟩ := hA.get f2
      obtain ⟨own, ho, rfl⟩ := map_get g1
      obtain ⟨b, rfl, hb, _⟩ := tu_inv g2
      have s12 := same_new (o := HO.tup [.int (i : Nat), .ref b]) nTp
      have s2 := s1.trans s12
      have hT2 := s12 _ _ hT
      have hR2 := hR.keep (.of_same s12)
      refine ⟨Tp, _, rfl, SqT.of upd_same, rfl, _, _, rfl, .ref b, _, rfl, rfl, ?_⟩
      generalize (upd H1 Tp (.tup [.int (i : Nat), .ref b])) = H2 at s2 hT2 hR2 ⊢
      refine ⟨_, rfl, (show 1 ≤ sizeLine by decide), fun Fo nF => ?_⟩
      have s3 := same_new (o := HO.lst [.int (i : Nat)]) nF
      have rl : rows.length = i := by rw [hR.length, List.length_map, List.length_map, List.length_range]
      -- the inner walk
      have hb3 := s3 _ _ (s2 _ _ hb)
      refine ⟨_, rfl, b, rfl, ⟨_, SqT.of hb3⟩, for_tup (K := K) (a := b) (xs := own.map iV) (fun j σ H4 => ∃ (y5 : Option V) (ns : List Nat), σ = [some (.ref a), some (.ref T), some (.int (i : Nat)), some (.ref b), some (.ref Fo), y5] ∧ Same H2 H4 ∧ H4 Fo = some (.lst (ns.map iV)) ∧ ns.length ≤ 1 + 6 * j ∧ Fnd es i (own.take j) ns)
        ⟨y5, [i], rfl, s3, upd_same, by simp, fun x => by simp⟩ (fun j σ H4 _ p => by obtain ⟨_, _, _, p, _⟩ := p; exact SqT.of (p _ _ (s2 _ _ hb))) (fun j x σ H4 hx p => ?_) (fun σ H4 p => ?_)⟩
      · obtain ⟨z5, ns, rfl, s4, hF, nl, fn⟩ := p
        obtain ⟨e, he, rfl⟩ := map_get hx
        have hel : e < i := EL.low i own ho e (List.mem_of_getElem? he)
        have hT4 := s4 _ _ hT2
        obtain ⟨rv, hrv, hru⟩ := (hR2.keep (.of_same s4)).get' (i := e) (d := pdI (lot es e)) (get_map (get_map (by rw [List.getElem?_range hel])))
        obtain ⟨rb, rfl, hrb, rbl⟩ := tu_inv hru
        have ol : own.length ≤ 6 := by have := (EL.som ho).len; omega
        have jl : j < own.length := (List.getElem?_eq_some_iff.mp he).1
        have ll := lot_len es e
        refine ⟨_, rfl, .inl ⟨rfl, _, SqL.of hF⟩, _, rfl, _, rfl, T, rows, _, .ref rb, rfl, rfl, SqL.of hT4, atI_nat (j := e) hrv, Fo, rb, _, _, rfl, rfl, hF, SqT.of hrb, ?_, ?_⟩
        · rw [List.length_map, List.length_map]
          exact Nat.le_of_lt (small1000 (by omega))
        · refine ⟨_, ns ++ lot es e, rfl, ?_, ?_, ?_, ?_⟩
          · exact fun bb o z => by rw [upd_ne (ne_of_none z nF)]; exact s4 _ _ z
          · rw [upd_same, List.map_append]
          · rw [List.length_append]; omega
          · intro x
            have hex : own.take (j + 1) = own.take j ++ [e] := by rw [List.take_add_one, he]; rfl
            rw [List.mem_append, fn x, hex, lot_mem (by have := (List.getElem?_eq_some_iff.mp ho).1; omega)]
            constructor
            · rintro ((h | ⟨e', h1, h2⟩) | h)
              · exact .inl h
              · exact .inr ⟨e', List.mem_append_left _ h1, h2⟩
              · exact .inr ⟨e, List.mem_append_right _ (List.mem_singleton.mpr rfl), h⟩
            · rintro (h | ⟨e', h1, h2⟩)
              · exact .inl (.inl h)
              · rcases List.mem_append.mp h1 with h1 | h1
                · exact .inl (.inr ⟨e', h1, h2⟩)
                · rw [List.mem_singleton.mp h1] at h2; exact .inr h2
      · obtain ⟨z5, ns, rfl, s4, hF, nl, fn⟩ := p
        have ol : own.length ≤ 6 := by have := (EL.som ho).len; omega
        rw [List.length_map] at nl fn
        rw [List.take_length] at fn
        have hT4 := s4 _ _ hT2
        have hR4 := hR2.keep (.of_same s4)
        rw [map_iV] at hF
        refine ⟨_, rfl, .inl ⟨rfl, _, SqL.of hT4⟩, _, rfl, Fo, _, rfl, .inl (SqL.of hF), (by rw [List.length_map]; omega), fun S c nS hc => ?_⟩
        have s5 := same_new (o := SetO w S (fun j => decide (j ∈ ns.map fun n => ((n : Nat) : Int))) c) nS
        refine ⟨S, _, c, rfl, upd_same, (by rw [List.length_map] at hc; omega), fun ms q5 hs hm hml nq => ?_⟩
        obtain ⟨m, rfl⟩ := to_nats (l := ms) (fun x hx => by
          have z := of_decide_eq_true ((hm x).mp hx)
          obtain ⟨n, _, e⟩ := List.mem_map.mp z
          omega)
        have em : m = lot es i := asc_uniq (asc_map hs) (lot_asc es i) fun x => by
          rw [← fnd_all EL ho fn x]
          have z := hm (x : Nat)
          constructor
          · intro h
            have y := of_decide_eq_true (z.mp (List.mem_map.mpr ⟨x, h, rfl⟩))
            obtain ⟨n, h1, e⟩ := List.mem_map.mp y
            have : n = x := by omega
            rwa [← this]
          · intro h
            have y := z.mpr (decide_eq_true (List.mem_map.mpr ⟨x, h, rfl⟩))
            obtain ⟨n, h1, e⟩ := List.mem_map.mp y
            have : n = x := by omega
            rwa [← this]
        subst em
        have s6 := same_new (o := HO.lst (((lot es i).map fun n => ((n : Nat) : Int)).map V.int)) nq
        refine ⟨q5, _, rfl, .inl ⟨SqL.of upd_same, fun tt nt => ?_⟩⟩
        have s7 := same_new (o := HO.tup (((lot es i).map fun n => ((n : Nat) : Int)).map V.int)) nt
        have s47 := s5.trans (s6.trans s7)
        refine ⟨T, _, _, rfl, rfl, s47 _ _ hT4, by rw [rl]; exact small1000 (by omega), ?_⟩
        have nTH : ∀ o, H T = some o → False := fun o z => by rw [nT] at z; cases z
        refine ⟨_, _, _, _, rows ++ [.ref tt], rfl, ?_, upd_same, ?_⟩
        · exact fun bb o z => by rw [upd_ne (ne_of_none z nT)]; exact s47 _ _ (s4 _ _ (s2 _ _ z))
        · rw [List.range_succ, List.map_append, List.map_append]
          refine (TuAll.append (hR4.keep (.of_same s47)) (.cons (tu_ints (a := tt) (l := lot es i) ?_ ?_) .nil)).keep (KF.putL (s47 _ _ hT4))
          · rw [map_iV]; exact upd_same
          · have := lot_len es i; omega
    · obtain ⟨y2, y3, y4, y5, rows, rfl, s1, hT, hR⟩ := p
      rw [xl] at hR
      refine ⟨_, rfl, T, rows, rfl, .inl ⟨SqL.of hT, fun p np => ?_⟩⟩
      have s2 := same_new (o := HO.tup rows) np
      refine q _ p (s1.trans s2) (s1.free np) (.tup upd_same ?_ (hR.keep (.of_same s2)))
      rw [hR.length, List.length_map, List.length_map, List.length_range]; omega
end
end Kc

set_option Elab.async false
set_option linter.all false
set_option maxRecDepth 100000
set_option maxHeartbeats 4000000
namespace Kc
open PySem PySem.Spec PyProof.Rows L2 Kg Kd Kr Kf
abbrev sCls : Stmt := topS 21
abbrev sIni : Stmt := inClass sCls 0
abbrev sMade : Stmt := topS 36
theorem scIni : FnScope ["self", "elders", "closed", "hollow", "several", "place"] ["self", "elders", "closed", "hollow", "several"] (defScope sIni) := ⟨rfl, rfl, rfl, by decide +kernel, rfl, by decide +kernel, by decide +kernel⟩
theorem scMade : FnScope ["_law_four_here"] ["_law_four_here"] (defScope sMade) := ⟨rfl, rfl, rfl, by decide +kernel, rfl, by decide +kernel, by decide +kernel⟩
/-- the fields of kinds -/
def kfs (e c h : V) (sv : Bool) (t : V) : List (Str × V) := [("kept_elders", e), ("kept_closed", c), ("kept_hollow", h), ("kept_several", .bl sv), ("kept_above", t)]
/-- Kinds at p -/
structure KO (C : Addr) (H : Hp) (p : Addr) (es : List (List Nat)) (cl ho : List Nat) (sv : Bool) : Prop where
  ex : ∃ dx e c h t, H p = some (.ins C dx (kfs e c h sv t)) ∧ Tu H e (pdE es) ∧ Tu H c (pdI cl) ∧ Tu H h (pdI ho) ∧ Tu H t (pdE (lotsT es))
  el : Eld es sv
  cl : Som es.length cl
  ho : Som es.length ho
theorem KO.keep {C : Addr} {H H' : Hp} {p : Addr} {es : List (List Nat)} {cl ho : List Nat} {sv : Bool} (k : KO C H p es cl ho sv) (f : KF H H') : KO C H' p es cl ho sv := by
  obtain ⟨⟨dx, e, c, h, t, h1, h2, h3, h4, h5⟩, h6, h7, h8⟩ := k
  exact ⟨⟨dx, e, c, h, t, f.ins h1, h2.keep f, h3.keep f, h4.keep f, h5.keep f⟩, h6, h7, h8⟩
/-- the class of kinds -/
structure KC (K : PySem.W.Frag) (C : Addr) : Prop where
  cl : Cls K C
  n1 : NoAttr K C "kept_elders"
  n2 : NoAttr K C "kept_closed"
  n3 : NoAttr K C "kept_hollow"
  n4 : NoAttr K C "kept_several"
  n5 : NoAttr K C "kept_above"
def spIni (C : Addr) : Sp := fun vs H Q _ => ∃ (p dx : Addr) (ve vc vh : V) (es : List (List Nat)) (cl ho : List Nat) (sv : Bool), vs = [.ref p, ve, vc, vh, .bl sv] ∧ H p = some (.ins C dx []) ∧ Tu H ve (pdE es) ∧ Tu H vc (pdI cl) ∧ Tu H vh (pdI ho) ∧
  Eld es sv ∧ Som es.length cl ∧ Som es.length ho ∧ ∀ H', (∀ b o, H b = some o → b ≠ p → H' b = some o) → KO C H' p es cl ho sv → Q .non H'
def spMade (C : Addr) : Sp := fun vs H Q _ => ∃ (l : Addr) (es : List (List Nat)) (cl ho : List Nat) (sv : Bool), vs = [.ref l] ∧ Fo H l es cl ho sv ∧ ∀ H' p, Same H H' → H p = none → KO C H' p es cl ho sv → Q (.ref p) H'
theorem own_same {H H' : Hp} {x dx C : Addr} {o : HO} (nx : H x = none) (nd : H dx = none) (ne : dx ≠ x) (k : ∀ b u, upd (upd H dx (.own x)) x o b = some u → b ≠ x → H' b = some u) : Same H H' := fun b u e => by
  have e1 := ne_of_none e nx
  have e2 := ne_of_none e nd
  exact k b u (by rw [upd_ne e1, upd_ne e2]; exact e) e1
section
variable {P : Program} {w : World} {K : PySem.W.Frag} {mg : Str → Option Value} {base : Heap} {f : Addr} {fd : FuncData} {k : Nat}
theorem ok_ini {fW fT C : Addr} {dW dT : FuncData} (F : Fun K "__init__" "Kinds.__init__" sIni f fd) (T : KC K C)
    (GW : FnOk P w K mg base CX0 6 fW dW ["elders", "closed", "hollow", "several"] spWrP) (kW : PySem.W.keepIn K (.ref fW) = true) (bW : Binds K dW ["elders", "closed", "hollow", "several"] []) (gW : mg "wrong_place" = some (.ref fW))
    (GT : FnOk P w K mg base CX0 1 fT dT ["elders"] spTab) (kT : PySem.W.keepIn K (.ref fT) = true) (bT : Binds K dT ["elders"] []) (gT : mg "table_above" = some (.ref fT)) : FnOk P w K mg base CX0 7 f fd ["self", "elders", "closed", "hollow", "several"] (spIni C) := by
  refine F.ok scIni (fun vs H Q E h => ?_) (fun cdv A outer s H vs Q E hr h => ?_)
  · obtain ⟨p, dx, ve, vc, vh, es, cl, ho, sv, rfl, _⟩ := h
    rfl
  · obtain ⟨p, dx, ve, vc, vh, es, cl, ho, sv, rfl, hp, he, hc, hh, EL, SC, SH, q⟩ := h
    refine ⟨_, pss_cons (ps_set (i := 5) scIni.nd rfl (.inl rfl) (pe_call GW (hr.mono (by decide)) (by rfl) gW kW bW .nil pass0 (pa_cons (pv 1) (pa_cons (pv 2) (pa_cons (pv 3) (pa_cons (pv 4) pa_nil))))))
      (pss_cons (ps_if (pt_cmpR op_notN (pv 5) pe_non (nomark _)) (pss_one ps_never) pss_nil)
      (pss_cons (ps_fld (pv 0) (pv 1) rfl)
      (pss_cons (ps_fld (pv 0) (pv 2) rfl)
      (pss_cons (ps_fld (pv 0) (pv 3) rfl)
      (pss_cons (ps_fld (pv 0) (pv 4) rfl)
      (pss_one (ps_fld (pv 0) (pe_call GT (hr.mono (by decide)) (by rfl) gT kT bT .nil pass0 (pa_cons (pv 1) pa_nil)) rfl))))))), ?_⟩
    refine ⟨_, rfl, _, rfl, _, rfl, _, rfl, ve, vc, vh, _, _, _, _, rfl, he.da, hc.da, hh.da, fun H1 s1 => ?_⟩
    rw [wrP_ok EL SC SH]
    refine ⟨_, rfl, rfl, _, rfl, iteF ?_⟩
    refine ⟨_, rfl, _, rfl, p, C, dx, _, rfl, s1 _ _ hp, T.cl, T.n1, (by decide), ?_⟩
    refine ⟨_, rfl, _, rfl, p, C, dx, _, rfl, upd_same, T.cl, T.n2, (by show 1 < 1000; decide), ?_⟩
    refine ⟨_, rfl, _, rfl, p, C, dx, _, rfl, upd_same, T.cl, T.n3, (by show 2 < 1000; decide), ?_⟩
    refine ⟨_, rfl, _, rfl, p, C, dx, _, rfl, upd_same, T.cl, T.n4, (by show 3 < 1000; decide), ?_⟩
    rw [upd_upd, upd_upd, upd_upd]
    -- tuples stay
    have kt : ∀ {v : V} {d : PyData} (o : HO), Tu H v d → Tu (upd H1 p o) v d := by
      have aux : ∀ (o : HO) (b : Addr) (xs : List V), H b = some (.tup xs) → upd H1 p o b = some (.tup xs) := fun o b xs z => by
        rw [upd_ne (ne_of z hp (by intro y; cases y))]; exact s1 _ _ z
      intro v d o h
      exact Tu.rec (motive_1 := fun v d _ => Tu (upd H1 p o) v d) (motive_2 := fun vs ds _ => TuAll (upd H1 p o) vs ds) .non (fun b => .bl b) (fun i => .int i) (fun x => .str x) (fun h z _ r => .tup (aux o _ _ h) z r) .nil (fun _ _ h r => .cons h r) h
    refine ⟨_, rfl, ve, es, sv, rfl, kt _ he, EL, fun H2 t s2 nt ht => ⟨_, rfl, p, C, dx, _, rfl, s2 _ _ upd_same, T.cl, T.n5, (by show 4 < 1000; decide), ?_⟩⟩
    have hp2 := s2 _ _ upd_same
    have key : ∀ {v : V} {d : PyData} (o : HO), Tu H2 v d → Tu (upd H2 p o) v d := by
      have aux : ∀ (o : HO) (b : Addr) (xs : List V), H2 b = some (.tup xs) → upd H2 p o b = some (.tup xs) := fun o b xs z => by
        rw [upd_ne (ne_of z hp2 (by intro y; cases y))]; exact z
      intro v d o h
      exact Tu.rec (motive_1 := fun v d _ => Tu (upd H2 p o) v d) (motive_2 := fun vs ds _ => TuAll (upd H2 p o) vs ds) .non (fun b => .bl b) (fun i => .int i) (fun x => .str x) (fun h z _ r => .tup (aux o _ _ h) z r) .nil (fun _ _ h r => .cons h r) h
    refine q _ (fun b o z ne => ?_) ⟨⟨dx, ve, vc, vh, .ref t, upd_same, key _ ((kt _ he).same s2), key _ ((kt _ hc).same s2), key _ ((kt _ hh).same s2), key _ ht⟩, EL, SC, SH⟩
    rw [upd_ne ne]
    exact s2 _ _ (by rw [upd_ne ne]; exact s1 _ _ z)
theorem ok_made {fI C : Addr} {dI : FuncData} (F : Fun K "_law_made" "_law_made" sMade f fd) (M : Mk K C fI) (G : FnOk P w K mg base CX0 7 fI dI ["self", "elders", "closed", "hollow", "several"] (spIni C)) (b : Binds K dI ["self", "elders", "closed", "hollow", "several"] []) (gC : mg "Kinds" = some (.ref C)) : FnOk P w K mg base CX0 9 f fd ["_law_four_here"] (spMade C) := by
  refine F.ok scMade (fun vs H Q E h => ?_) (fun cdv A outer s H vs Q E hr h => ?_)
  · obtain ⟨l, es, cl, ho, sv, rfl, _⟩ := h
    rfl
  · obtain ⟨l, es, cl, ho, sv, rfl, ⟨⟨e, c, h, hl, he, hc, hh⟩, EL, SC, SH⟩, q⟩ := h
    refine ⟨_, pss_one (ps_ret (pe_make M G hr (by rfl) gC b .nil pass0 (pa_cons (pe_ix ix_list (pv 0) pe_int (fun _ _ => rfl)) (pa_cons (pe_ix ix_list (pv 0) pe_int (fun _ _ => rfl)) (pa_cons (pe_ix ix_list (pv 0) pe_int (fun _ _ => rfl)) (pa_cons (pe_ix ix_list (pv 0) pe_int (fun _ _ => rfl)) pa_nil)))))), ?_⟩
    refine ⟨_, rfl, l, _, 0, e, rfl, rfl, SqL.of hl, atI_nat (j := 0) rfl, _, rfl, l, _, 1, c, rfl, rfl, SqL.of hl, atI_nat (j := 1) rfl, _, rfl, l, _, 2, h, rfl, rfl, SqL.of hl, atI_nat (j := 2) rfl, _, rfl, l, _, 3, .bl sv, rfl, rfl, SqL.of hl, atI_nat (j := 3) rfl, ?_⟩
    intro x dx nx nd ne
    have s1 : Same H (upd (upd H dx (.own x)) x (.ins C dx [])) := fun b o z => by rw [upd_ne (ne_of_none z nx), upd_ne (ne_of_none z nd)]; exact z
    refine ⟨x, dx, e, c, h, es, cl, ho, sv, rfl, upd_same, he.same s1, hc.same s1, hh.same s1, EL, SC, SH, fun H' k ko => ⟨rfl, q H' x (own_same (C := C) nx nd ne k) nx ko⟩⟩
end
end Kc

set_option Elab.async false
set_option linter.all false
set_option maxRecDepth 100000
set_option maxHeartbeats 4000000
namespace Kc
open PySem PySem.Spec PyProof.Rows L2 Kg Kd Kr Kf
section
variable {P : Program} {w : World} {K : PySem.W.Frag} {mg : Str → Option Value} {base : Heap} {f : Addr} {fd : FuncData} {k : Nat}
def spAbv (C : Addr) : Sp := fun vs H Q _ => ∃ (p : Addr) (k : Nat) (es : List (List Nat)) (cl ho : List Nat) (sv : Bool), vs = [.ref p, .int (k : Nat)] ∧ KO C H p es cl ho sv ∧ k < es.length ∧ ∀ v, Tu H v (pdI (lot es k)) → Q v H
def spUnd (C : Addr) : Sp := fun vs H Q _ => ∃ (p : Addr) (k j : Nat) (es : List (List Nat)) (cl ho : List Nat) (sv : Bool), vs = [.ref p, .int (k : Nat), .int (j : Nat)] ∧ KO C H p es cl ho sv ∧ k < es.length ∧ Q (.bl (abv es k j)) H
def spHei (C : Addr) : Sp := fun vs H Q _ => ∃ (p : Addr) (k : Nat) (es : List (List Nat)) (cl ho : List Nat) (sv : Bool), vs = [.ref p, .int (k : Nat)] ∧ KO C H p es cl ho sv ∧ ∀ H' q, Same H H' → H q = none → Tu H' (.ref q) (pdI (hei es k)) → Q (.ref q) H'
def spOpn (C : Addr) : Sp := fun vs H Q _ => ∃ (p : Addr) (es : List (List Nat)) (cl ho : List Nat) (sv : Bool), vs = [.ref p] ∧ KO C H p es cl ho sv ∧ ∀ H' q, Same H H' → H q = none → Tu H' (.ref q) (pdI (dif es.length cl)) → Q (.ref q) H'
def spLen (C : Addr) : Sp := fun vs H Q _ => ∃ (p : Addr) (es : List (List Nat)) (cl ho : List Nat) (sv : Bool), vs = [.ref p] ∧ KO C H p es cl ho sv ∧ Q (.int (es.length : Nat)) H
def getSp (C : Addr) (k : Str) : Sp := fun vs H Q _ => ∃ (a dx : Addr) (fs : List (Str × V)) (v : V), vs = [.ref a] ∧ H a = some (.ins C dx fs) ∧ fs.lookup k = some v ∧ Q v H
theorem abv_mem {es : List (List Nat)} {k j : Nat} (hk : k < es.length) : decide (j ∈ lot es k) = abv es k j := by
  cases c : abv es k j with
  | true => exact decide_eq_true ((lot_mem hk).mpr c)
  | false => exact decide_eq_false (fun z => by rw [(lot_mem hk).mp z] at c; cases c)
def cup (n : Nat) (cl l : List Nat) : List Nat := (List.range n).filter (fun x => decide (x ∈ cl) || decide (x ∈ l))
def sub2 (n : Nat) (cl l : List Nat) : List Nat := (List.range n).filter (fun x => decide (x ∈ cl) && !decide (x ∈ l))
def spClo (C : Addr) (cmb : Nat → List Nat → List Nat → List Nat) : Sp := fun vs H Q _ => ∃ (p : Addr) (v : V) (es : List (List Nat)) (cl ho : List Nat) (sv : Bool) (l : List Nat), vs = [.ref p, v] ∧ KO C H p es cl ho sv ∧ Tu H v (pdI l) ∧ (∀ x ∈ l, x < es.length) ∧
  ∀ H' q, Same H H' → H q = none → KO C H' q es (cmb es.length cl l) ho sv → Q (.ref q) H'
def cast (l : List Nat) : List Int := l.map fun n => ((n : Nat) : Int)
theorem cast_mem {l : List Nat} {k : Int} : k ∈ cast l ↔ ∃ x : Nat, k = (x : Nat) ∧ x ∈ l := by
  unfold cast
  rw [List.mem_map]
  constructor
  · rintro ⟨x, h, e⟩; exact ⟨x, e.symm, h⟩
  · rintro ⟨x, e, h⟩; exact ⟨x, h, e.symm⟩
theorem cast_nat {l : List Nat} {x : Nat} : ((x : Nat) : Int) ∈ cast l ↔ x ∈ l := by
  rw [cast_mem]
  constructor
  · rintro ⟨y, e, h⟩
    have : x = y := by omega
    rwa [this]
  · intro h; exact ⟨x, rfl, h⟩
theorem cast_len (l : List Nat) : (cast l).length = l.length := List.length_map ..
theorem cast_V (l : List Nat) : (cast l).map V.int = l.map iV := (map_iV l).symm
theorem sml_of {l : List Nat} {n : Nat} (hn : n ≤ 6) (h : ∀ x ∈ l, x < n) : Kw.Sml6 (fun j => decide (j ∈ cast l)) := fun k hk => by
  obtain ⟨x, e, hx⟩ := cast_mem.mp (of_decide_eq_true hk)
  have := h x hx
  omega
/-- what sorted tells of a set of small numbers -/
theorem sorted_rg {n : Nat} {P : Nat → Bool} {S : Int → Bool} {ms : List Int} (hs : ms.Pairwise (· < ·)) (hm : ∀ k : Int, k ∈ ms ↔ S k = true) (hS : ∀ k : Int, S k = true ↔ ∃ x : Nat, k = (x : Nat) ∧ x < n ∧ P x = true) : ms = cast ((List.range n).filter P) := by
  obtain ⟨m, rfl⟩ := to_nats (l := ms) (fun x hx => by
    obtain ⟨y, e, _⟩ := (hS x).mp ((hm x).mp hx)
    omega)
  unfold cast
  congr 1
  refine asc_uniq (asc_map hs) rg_filter fun x => ?_
  rw [List.mem_filter, List.mem_range]
  have z := (hm (x : Nat)).trans (hS (x : Nat))
  constructor
  · intro h
    obtain ⟨y, e, y1, y2⟩ := z.mp (List.mem_map.mpr ⟨x, h, rfl⟩)
    have : x = y := by omega
    rw [this]; exact ⟨y1, y2⟩
  · intro h
    obtain ⟨y, y1, y2⟩ := List.mem_map.mp (z.mpr ⟨x, rfl, h.1, h.2⟩)
    have : x = y := by omega
    rwa [this]
theorem cup_S {n : Nat} {cl l : List Nat} (h1 : ∀ x ∈ cl, x < n) (h2 : ∀ x ∈ l, x < n) (k : Int) : ((decide (k ∈ cast cl) || decide (k ∈ cast l)) = true) ↔ ∃ x : Nat, k = (x : Nat) ∧ x < n ∧ (decide (x ∈ cl) || decide (x ∈ l)) = true := by
  simp only [Bool.or_eq_true, decide_eq_true_eq]
  constructor
  · rintro (h | h)
    · obtain ⟨x, e, hx⟩ := cast_mem.mp h
      exact ⟨x, e, h1 x hx, .inl hx⟩
    · obtain ⟨x, e, hx⟩ := cast_mem.mp h
      exact ⟨x, e, h2 x hx, .inr hx⟩
  · rintro ⟨x, rfl, _, h | h⟩
    · exact .inl (cast_nat.mpr h)
    · exact .inr (cast_nat.mpr h)
theorem sub_S {n : Nat} {cl l : List Nat} (h1 : ∀ x ∈ cl, x < n) (k : Int) : ((decide (k ∈ cast cl) && !decide (k ∈ cast l)) = true) ↔ ∃ x : Nat, k = (x : Nat) ∧ x < n ∧ (decide (x ∈ cl) && !decide (x ∈ l)) = true := by
  simp only [Bool.and_eq_true, Bool.not_eq_true', decide_eq_true_eq, decide_eq_false_iff_not]
  constructor
  · rintro ⟨h, h2⟩
    obtain ⟨x, e, hx⟩ := cast_mem.mp h
    exact ⟨x, e, h1 x hx, hx, fun z => h2 (by rw [e]; exact cast_nat.mpr z)⟩
  · rintro ⟨x, rfl, _, h, h2⟩
    exact ⟨cast_nat.mpr h, fun z => h2 (cast_nat.mp z)⟩
theorem mk_same {H : Hp} {x dx C : Addr} {fs : List (Str × V)} (nx : H x = none) (nd : H dx = none) : Same H (upd (upd H dx (.own x)) x (.ins C dx fs)) := fun b o z => by rw [upd_ne (ne_of_none z nx), upd_ne (ne_of_none z nd)]; exact z
/-- what isinstance asks of kinds -/
structure KI (K : PySem.W.Frag) (C : Addr) : Prop where
  ha : PySem.W.findIn K (.ref C) "__class__" = some (some (.builtin "object.__class__"))
  hn : PySem.W.specialIn K (.builtin "object.__class__") "__get__" = some (some (.builtin "getset_descriptor.__get__"))
  htk : PySem.W.takesIn K (.builtin "object.__class__") = some true
  hm : PySem.W.mroIn K C (.type "object") = some true
  ki : PySem.W.kitOne K (.ref C) (.ref C) = some true
  kn : ∀ t ∈ ["tuple", "NoneType", "str", "int", "dict"], PySem.W.kitOne K (.type t) (.ref C) = some false
  nf : ∀ t ∈ ["tuple", "NoneType", "str", "int", "dict"], PySem.W.notFirst K C (.type t) = true
  ns : PySem.W.notFirst K C (.ref C) = true
theorem ko_ty {K : PySem.W.Frag} {C p : Addr} {H : Hp} {es : List (List Nat)} {cl ho : List Nat} {sv : Bool} (T : KC K C) (J : KI K C) (k : KO C H p es cl ho sv) : TyX K H (.ref p) (.ref C) := by
  obtain ⟨⟨dx, e, c, h, t, hp, _⟩, _⟩ := k
  exact .base (.ins hp T.cl J.ha J.hn J.htk J.hm)
def same4 (es : List (List Nat)) (cl ho : List Nat) (sv : Bool) (es' : List (List Nat)) (cl' ho' : List Nat) (sv' : Bool) : Bool := decide (es = es') && (decide (cl = cl') && (decide (ho = ho') && decide (sv = sv')))
/-- what y is to kinds -/
def EqTo (K : PySem.W.Frag) (C : Addr) (H : Hp) (y : V) (es : List (List Nat)) (cl ho : List Nat) (sv : Bool) (b : Bool) : Prop :=
  (∃ q es' cl' ho' sv', y = .ref q ∧ KO C H q es' cl' ho' sv' ∧ b = same4 es cl ho sv es' cl' ho' sv') ∨ (∃ t ∈ ["tuple", "NoneType", "str", "int", "dict"], TyX K H y (.type t) ∧ b = false)
def spEq (K : PySem.W.Frag) (C : Addr) : Sp := fun vs H Q _ => ∃ (p : Addr) (y : V) (es : List (List Nat)) (cl ho : List Nat) (sv b : Bool), vs = [.ref p, y] ∧ KO C H p es cl ho sv ∧ EqTo K C H y es cl ho sv b ∧ Q (.bl b) H
def words (sv : Bool) : Str := if sv then "several elders" else "one elder"
def spWds : Sp := fun vs H Q _ => ∃ sv : Bool, vs = [.bl sv] ∧ Q (.str (words sv)) H
def parts (n c h : Nat) (sv : Bool) : List Str := [(Str.empty ++ toString ((n : Nat) : Int)) ++ " kinds", (Str.empty ++ toString ((c : Nat) : Int)) ++ " closed", (Str.empty ++ toString ((h : Nat) : Int)) ++ " hollow", words sv]
def txt (n c h : Nat) (sv : Bool) : Str := Txt.join ", " (parts n c h sv)
def spStr (C : Addr) : Sp := fun vs H Q _ => ∃ (p : Addr) (es : List (List Nat)) (cl ho : List Nat) (sv : Bool), vs = [.ref p] ∧ KO C H p es cl ho sv ∧ ∀ H', Same H H' → Q (.str (txt es.length cl.length ho.length sv)) H'
theorem log_small {n : Nat} (h : n ≤ 6) : (((n : Nat) : Int)).natAbs.log2 < 1920 := by
  rw [Int.natAbs_natCast]
  have : n.log2 ≤ n := Nat.log2_le_self n
  omega
def all7 (P : Nat → Nat → Nat → Bool → Bool) : Bool := (List.range 7).all fun n => (List.range 7).all fun c => (List.range 7).all fun h => P n c h true && P n c h false
theorem all7_of {P : Nat → Nat → Nat → Bool → Bool} (h : all7 P = true) {a b c : Nat} {sv : Bool} (ha : a ≤ 6) (hb : b ≤ 6) (hc : c ≤ 6) : P a b c sv = true := by
  have h1 := List.all_eq_true.mp h a (List.mem_range.mpr (by omega))
  have h2 := List.all_eq_true.mp h1 b (List.mem_range.mpr (by omega))
  have h3 := List.all_eq_true.mp h2 c (List.mem_range.mpr (by omega))
  rw [Bool.and_eq_true] at h3
  cases sv with
  | true => exact h3.1
  | false => exact h3.2
theorem parts_sum : all7 (fun n c h sv => decide (((parts n c h sv).map (·.length)).sum + (parts n c h sv).length * (", " : Str).length ≤ 16777216)) = true := by decide +kernel
theorem parts_len : all7 (fun n c h sv => (parts n c h sv).all fun x => decide (x.length ≤ 40)) = true := by decide +kernel
theorem txt_small : ((List.range 7).all fun n => decide (((Str.empty ++ toString ((n : Nat) : Int)) : Str).length ≤ 10)) = true := by decide +kernel
end
end Kc

set_option Elab.async false
set_option linter.all false
set_option maxRecDepth 100000
set_option maxHeartbeats 8000000
/-! read_kinds, where nothing is raised -/
namespace Kc
open PySem PySem.Spec PyProof.Rows L2 Kg Kd Kr Kf Kl TL
abbrev sRdk : Stmt := topS 27
abbrev nRdk : List Str := ["value", "lines", "several", "parts", "number", "words", "kind", "closed", "part", "hollow"]
theorem scRdk : FnScope nRdk ["value"] (defScope sRdk) := ⟨rfl, rfl, rfl, by decide +kernel, rfl, by decide +kernel, by decide +kernel⟩
def kwL (es : List (List Nat)) (cl ho : List Nat) : List (List (List Nat)) := (List.range es.length).map (kindW es cl ho)
def spRdk (C : Addr) : Sp := fun vs H Q _ => ∃ (l : List Nat) (es : List (List Nat)) (cl ho : List Nat) (sv : Bool), vs = [.str (sS l)] ∧ (l.length ≤ 5000 ∧ ∀ p ∈ cutA 10 [] l, p.length ≤ 800) ∧ wlL l = [firstL sv] :: kwL es cl ho ∧ Eld es sv ∧ Som es.length cl ∧ Som es.length ho ∧
  ∀ H' p, Same H H' → H p = none → KO C H' p es cl ho sv → Q (.ref p) H'
/-- a kind's parts -/
def PtAt (es : List (List Nat)) (cl ho : List Nat) (H : Hp) (v : V) (k : Nat) : Prop := ∃ t r l, v = .ref t ∧ es[k]? = some l ∧ H t = some (.tup [.ref r, .bl (decide (k ∈ cl)), .bl (decide (k ∈ ho))]) ∧ H r = some (.tup (l.map iV))
theorem pt_upd {es : List (List Nat)} {cl ho : List Nat} {H H' : Hp} {v : V} {k : Nat} (h : PtAt es cl ho H v k) (s : ∀ b xs, H b = some (.tup xs) → H' b = some (.tup xs)) : PtAt es cl ho H' v k := by
  obtain ⟨t, r, l, h1, h2, h3, h4⟩ := h
  exact ⟨t, r, l, h1, h2, s _ _ h3, s _ _ h4⟩
theorem pd_tups {es : List (List Nat)} {cl ho : List Nat} {H : Hp} {us : List V} (h : Paired (PtAt es cl ho H) us (List.range es.length)) {H' : Hp} (s : Same H H') (low : ∀ (k : Nat) (l : List Nat), es[k]? = some l → l.length ≤ 6) : ∃ rs : List V, rs.length = us.length ∧ TuAll H' rs (es.map pdI) ∧ ∀ i v, us[i]? = some v → ∃ t r, v = .ref t ∧ rs[i]? = some (.ref r) ∧ H t = some (.tup [.ref r, .bl (decide (i ∈ cl)), .bl (decide (i ∈ ho))]) := by
  have aux : ∀ (es' : List (List Nat)) (n : Nat) (us : List V), (∀ j, es'[j]? = es[n + j]?) → Paired (PtAt es cl ho H) us ((List.range es'.length).map (n + ·)) → ∃ rs : List V, rs.length = us.length ∧ TuAll H' rs (es'.map pdI) ∧ ∀ i v, us[i]? = some v → ∃ t r, v = .ref t ∧ rs[i]? = some (.ref r) ∧ H t = some (.tup [.ref r, .bl (decide (n + i ∈ cl)), .bl (decide (n + i ∈ ho))]) := by
    intro es'
    induction es' with
    | nil =>
      intro n us _ h
      cases h
      exact ⟨[], rfl, .nil, fun i v z => by simp at z⟩
    | cons l es' ih =>
      intro n us he h
      rw [List.length_cons, List.range_succ_eq_map, List.map_cons, List.map_map] at h
      cases h with
      | @cons u _ us' _ h1 h2 =>
        obtain ⟨t, r, l', rfl, e1, e2, e3⟩ := h1
        have e0 := he 0
        rw [Nat.add_zero] at e0 e1 e2
        rw [← e0] at e1
        cases e1
        have em : ((List.range es'.length).map ((n + ·) ∘ Nat.succ)) = (List.range es'.length).map ((n + 1) + ·) := List.map_congr_left fun j _ => by
          show n + (j + 1) = n + 1 + j
          omega
        rw [em] at h2
        obtain ⟨rs, a1, a2, a3⟩ := ih (n + 1) us' (fun j => by have := he (j + 1); rw [List.getElem?_cons_succ] at this; rw [this]; congr 1; omega) h2
        refine ⟨.ref r :: rs, by simp [a1], .cons ?_ a2, fun i v z => ?_⟩
        · exact tu_ints (s _ _ e3) (by have := low n l (by rw [← e0]; rfl); omega)
        · cases i with
          | zero =>
            simp only [List.getElem?_cons_zero, Option.some.injEq] at z
            subst z
            exact ⟨t, r, rfl, rfl, by rw [Nat.add_zero]; exact e2⟩
          | succ i =>
            rw [List.getElem?_cons_succ] at z
            obtain ⟨t', r', b1, b2, b3⟩ := a3 i v z
            refine ⟨t', r', b1, by rw [List.getElem?_cons_succ]; exact b2, ?_⟩
            rw [show n + (i + 1) = n + 1 + i by omega]; exact b3
  have z := aux es 0 us (fun j => by rw [Nat.zero_add]) (by
    have : (List.range es.length).map (0 + ·) = List.range es.length := by
      rw [List.map_congr_left (g := id) fun j _ => Nat.zero_add j]; simp
    rw [this]; exact h)
  obtain ⟨rs, a1, a2, a3⟩ := z
  exact ⟨rs, a1, a2, fun i v y => by have := a3 i v y; rwa [Nat.zero_add] at this⟩
section
variable {P : Program} {w : World} {K : PySem.W.Frag} {mg : Str → Option Value} {base : Heap} {f : Addr} {fd : FuncData}
theorem ok_rdk {fI C : Addr} {dI : FuncData} (F : Fun K "read_kinds" "read_kinds" sRdk f fd) (B : Bl mg) (M : Bm mg) (Mk' : Mk K C fI) (G : FnOk P w K mg base CX0 7 fI dI ["self", "elders", "closed", "hollow", "several"] (spIni C)) (b : Binds K dI ["self", "elders", "closed", "hollow", "several"] []) (gC : mg "Kinds" = some (.ref C))
    (GL : Cal P w K mg base "lines_with_words" 2 ["text"] spLww) (GS : Cal P w K mg base "several_of" 1 ["number", "words"] spSvo) (GK : Cal P w K mg base "kind_of_line" 5 psKol spKol) : FnOk P w K mg base CX0 9 f fd ["value"] (spRdk C) := by
  refine F.ok scRdk (fun vs H Q E h => ?_) (fun cdv A outer s H vs Q E hr h => ?_)
  · obtain ⟨l, es, cl, ho, sv, rfl, _⟩ := h
    rfl
  · obtain ⟨l, es, cl, ho, sv, rfl, hl, hw, EL, SC, SH, q⟩ := h
    have hr1 := hr.mono (show 1 ≤ 8 by decide)
    have hr2 := hr.mono (show 2 ≤ 8 by decide)
    have hr5 := hr.mono (show 5 ≤ 8 by decide)
    refine ⟨_, (pss_cons (ps_if (pt_not (pt_val (pe_callB call_isi (by rfl) B.isi boot_isinstance (pa_cons (pv 0) (pa_cons (pe_bltn (v := .ty "str") (by rfl) B.str PyProof.Rows.boot_str rfl) pa_nil))))) (pss_one ps_never) pss_nil)
      (pss_cons (ps_set (i := 1) scRdk.nd rfl (.inl rfl) (pe_cal GL hr2 (by rfl) (pa_cons (pv 0) pa_nil)))
      (pss_cons (ps_if (pt_cmpR op_eq (pe_callB call_len_seq (by rfl) B.len PySem.boot_len (pa_cons (pv 1) pa_nil)) pe_int (nomark _)) (pss_one ps_never) pss_nil)
      (pss_cons (ps_set (i := 2) scRdk.nd rfl (.inr rfl) (pe_cal GS hr1 (by rfl) (pa_cons (pe_ix ix_tup (pe_ix ix_list (pv 1) pe_int (fun _ _ => rfl)) pe_int (fun _ _ => rfl)) (pa_cons (pe_ix ix_tup (pe_ix ix_list (pv 1) pe_int (fun _ _ => rfl)) pe_int (fun _ _ => rfl)) pa_nil))))
      (pss_cons (ps_setLc (i := 3) (own := [("kind", 6), ("number", 4), ("words", 5)]) (g := (gTup K 2 (gCons (gName 6) (gCons (gTup K 2 (gCons (gName 4) (gCons (gName 5) gNil))) gNil)))) rfl scRdk.nd rfl rfl (sw_true rfl rfl rfl (by decide +kernel)) (pi_enum (by rfl) M.enum (pa_cons (pe_slice sl_list (pv 1) (po_some pe_int) po_none) pa_nil))
        (blkOk_by (N := nRdk) (sc := defScope sRdk) (by decide +kernel)) (fun _ _ _ _ _ => (pg_tup rfl (pgs_cons (pg_name (i := 6) scRdk.nd rfl (.inl rfl)) (pgs_cons (pg_tup rfl (pgs_cons (pg_name (i := 4) scRdk.nd rfl (.inl rfl)) (pgs_cons (pg_name (i := 5) scRdk.nd rfl (.inl rfl)) pgs_nil))) pgs_nil)))) (fun _ _ _ _ _ => pts_nil)
        (fun _ _ _ _ _ => (pe_cal GK hr5 (by rfl) (pa_cons (pv 4) (pa_cons (pv 5) (pa_cons (pv 6) (pa_cons (pv 2) pa_nil)))))))
      (pss_cons (ps_if (pt_cmpR op_eq (pe_callB call_len_seq (by rfl) B.len PySem.boot_len (pa_cons (pv 3) pa_nil)) pe_int (nomark _)) (pss_one ps_never) pss_nil)
      (pss_cons (ps_set (i := 7) scRdk.nd rfl (.inl rfl) (pe_callTy call_tupN (by rfl) B.tuple PyProof.Rows.boot_tuple (pa_cons (pe_lc (own := [("kind", 6), ("part", 8)]) (g := (gTup K 2 (gCons (gName 6) (gCons (gName 8) gNil)))) rfl scRdk.nd (pi_enum (by rfl) M.enum (pa_cons (pv 3) pa_nil))
        (blkOk_by (N := nRdk) (sc := defScope sRdk) (by decide +kernel)) (fun _ _ _ _ _ => (pg_tup rfl (pgs_cons (pg_name (i := 6) scRdk.nd rfl (.inl rfl)) (pgs_cons (pg_name (i := 8) scRdk.nd rfl (.inl rfl)) pgs_nil)))) (fun _ _ _ _ _ => pts_one (pt_val (pe_ix (ix_tupK (K := K) rfl) (pv 8) pe_int (fun _ _ => rfl))))
        (fun _ _ _ _ _ => (pv 6))) pa_nil)))
      (pss_cons (ps_set (i := 9) scRdk.nd rfl (.inl rfl) (pe_callTy call_tupN (by rfl) B.tuple PyProof.Rows.boot_tuple (pa_cons (pe_lc (own := [("kind", 6), ("part", 8)]) (g := (gTup K 2 (gCons (gName 6) (gCons (gName 8) gNil)))) rfl scRdk.nd (pi_enum (by rfl) M.enum (pa_cons (pv 3) pa_nil))
        (blkOk_by (N := nRdk) (sc := defScope sRdk) (by decide +kernel)) (fun _ _ _ _ _ => (pg_tup rfl (pgs_cons (pg_name (i := 6) scRdk.nd rfl (.inl rfl)) (pgs_cons (pg_name (i := 8) scRdk.nd rfl (.inl rfl)) pgs_nil)))) (fun _ _ _ _ _ => pts_one (pt_val (pe_ix (ix_tupK (K := K) rfl) (pv 8) pe_int (fun _ _ => rfl))))
        (fun _ _ _ _ _ => (pv 6))) pa_nil)))
      (pss_one (ps_ret (pe_make Mk' G hr (by rfl) gC b .nil pass0 (pa_cons (pe_callTy call_tupN (by rfl) B.tuple PyProof.Rows.boot_tuple (pa_cons (pe_lc (own := [("part", 8)]) (g := (gName 8)) rfl scRdk.nd (pi_list (pv 3))
        (blkOk_by (N := nRdk) (sc := defScope sRdk) (by decide +kernel)) (fun _ _ _ _ _ => (pg_name (i := 8) scRdk.nd rfl (.inl rfl))) (fun _ _ _ _ _ => pts_nil)
        (fun _ _ _ _ _ => (pe_ix (ix_tupK (K := K) rfl) (pv 8) pe_int (fun _ _ => rfl)))) pa_nil)) (pa_cons (pv 7) (pa_cons (pv 9) (pa_cons (pv 2) pa_nil))))))))))))))), ?_⟩
    have n6 := EL.hi
    have n1 := EL.lo
    have dstr : Da Kd.nil H (.str (sS l)) (.str (sS l)) := .str _
    refine ⟨_, rfl, _, _, _, _, _, rfl, .ty _, dstr.ty, kit_ty rfl, _, rfl, ?_⟩
    refine iteE (by rfl) ⟨_, rfl, l, rfl, hl, fun H1 a xs s1 ha pr => ?_⟩
    have ll : (lwL l).map (·.2) = [firstL sv] :: kwL es cl ho := by rw [lw_wl, hw]
    have kl : (kwL es cl ho).length = es.length := by unfold kwL; rw [List.length_map, List.length_range]
    obtain ⟨p0, ps, e0⟩ : ∃ p0 ps, lwL l = p0 :: ps := by
      cases h : lwL l with
      | nil => rw [h] at ll; cases ll
      | cons p ps => exact ⟨p, ps, rfl⟩
    rw [e0] at pr ll
    have ll0 : p0.2 = [firstL sv] := (List.cons.inj ll).1
    have ll1 : ps.map (·.2) = kwL es cl ho := (List.cons.inj ll).2
    have pl : ps.length = es.length := by rw [← kl, ← ll1, List.length_map]
    obtain ⟨v0, vs, rfl⟩ : ∃ v0 vs, xs = v0 :: vs := by cases pr with | cons _ _ => exact ⟨_, _, rfl⟩
    have pr0 : LnP H1 v0 p0 := by cases pr with | cons h _ => exact h
    have prs : Paired (LnP H1) vs ps := by cases pr with | cons _ h => exact h
    have vl : vs.length = es.length := by rw [prs.length, pl]
    obtain ⟨t0, w0, rfl, ht0, hw0⟩ := pr0
    rw [ll0] at hw0
    refine ⟨_, rfl, a, _, rfl, .inl (SqL.of ha), rfl, _, rfl, iteE (decide_eq_false fun z => by have := V.int.inj z; rw [List.length_cons] at this; omega) ?_⟩
    refine ⟨_, rfl, a, _, 0, .ref t0, rfl, rfl, SqL.of ha, atI_nat (j := 0) rfl, t0, _, 0, iV p0.1, rfl, rfl, SqT.of ht0, atI_nat (j := 0) rfl, _, rfl, a, _, 0, .ref t0, rfl, rfl, SqL.of ha, atI_nat (j := 0) rfl, t0, _, 1, .ref w0, rfl, rfl, SqT.of ht0, atI_nat (j := 1) rfl, _, w0, sv, rfl, hw0, fun H2 s2 => ?_⟩
    -- the parts
    refine ⟨_, rfl, _, rfl, a, _, rfl, SqL.of (s2 _ _ ha), fun a2 na2 => ?_⟩
    rw [cut_tail]
    have s3 := same_new (o := HO.lst ((V.ref t0 :: vs).drop 1)) na2
    have ha2 : upd H2 a2 (HO.lst ((V.ref t0 :: vs).drop 1)) a2 = some (.lst vs) := by rw [upd_same]; rfl
    generalize upd H2 a2 (HO.lst ((V.ref t0 :: vs).drop 1)) = H3 at ha2 s3
    have s13 := s2.trans s3
    have prs3 : Paired (LnP H3) vs ps := Paired.mapP prs fun v p h => by
      obtain ⟨t, w', e1, e2, e3⟩ := h
      exact ⟨t, w', e1, s13 _ _ e2, s13 _ _ e3⟩
    refine ⟨a2, _, rfl, SqL.of ha2, fun D nD => ?_⟩
    refine lc_it (walk_enum (K := K) (a := a2) (xs := vs)) (fun i H4 => ∃ us : List V, Same H3 H4 ∧ H4 D = some (.lst us) ∧ Paired (PtAt es cl ho H4) us (List.range i) ∧ us.length ≤ i) ⟨[], same_new nD, upd_same, .nil, Nat.le_refl _⟩ (fun i H4 _ pp => by obtain ⟨_, pp, _⟩ := pp; exact SqL.of (pp _ _ ha2)) (fun i x H4 H5 hi pp yy => ?_) (fun H4 pp => ?_)
    · obtain ⟨us, s4, hD, pu, ul⟩ := pp
      obtain ⟨T, v1, v2, rfl, nT, rfl, f1, f2⟩ := yy
      have f1' : v1 = .int ((i : Nat) : Int) := (Option.some.inj f1).symm
      subst f1'
      have s5 := same_new (o := HO.tup [.int ((i : Nat) : Int), v2]) nT
      obtain ⟨pi, hpi⟩ : ∃ pi, ps[i]? = some pi := ⟨ps[i]'(by omega), by simp [show i < ps.length by omega]⟩
      obtain ⟨ti, wi, rfl, hti, hwi⟩ := prd_at prs3 f2 hpi
      have hkw : pi.2 = kindW es cl ho i := by
        have z : (ps.map (·.2))[i]? = some pi.2 := by rw [List.getElem?_map, hpi]; rfl
        rw [ll1] at z
        unfold kwL at z
        rw [List.getElem?_map, List.getElem?_range (by omega)] at z
        exact (Option.some.inj z).symm
      rw [hkw] at hwi
      obtain ⟨li, hli⟩ : ∃ li, es[i]? = some li := ⟨es[i]'(by omega), by simp [show i < es.length by omega]⟩
      have s45 := s4.trans s5
      refine ⟨T, _, rfl, SqT.of upd_same, rfl, _, _, rfl, _, _, rfl, ti, _, rfl, SqT.of (s45 _ _ hti), rfl, _, _, rfl, _, _, rfl, rfl, rfl, rfl, ?_⟩
      dsimp only [tYes]
      rw [if_pos rfl]
      refine ⟨_, rfl, _, rfl, _, rfl, _, rfl, _, wi, i, es, cl, ho, li, sv, rfl, s45 _ _ hwi, hli, EL, fun H6 t r s6 hr6 ht6 => ?_⟩
      have hD6 := s6 _ _ (s5 _ _ hD)
      refine ⟨us, hD6, small1000 (by omega), us ++ [.ref t], fun bb o z => ?_, upd_same, ?_, by simp; omega⟩
      · rw [upd_ne (ne_of_none z nD)]; exact s6 _ _ (s45 _ _ z)
      · rw [List.range_succ]
        have tk : ∀ bb xs, H6 bb = some (.tup xs) → upd H6 D (.lst (us ++ [.ref t])) bb = some (.tup xs) := fun bb xs z => by
          rw [upd_ne (ne_of z hD6 (by intro y; cases y))]; exact z
        refine paired_app (Paired.mapP pu fun v k h => pt_upd h fun bb xs z => tk bb xs (s6 _ _ (s5 _ _ z))) (.cons ?_ .nil)
        exact ⟨t, r, li, rfl, hli, tk _ _ ht6, tk _ _ hr6⟩
    · obtain ⟨us, s4, hD, pu, ul⟩ := pp
      rw [vl] at pu ul
      have usl : us.length = es.length := by rw [pu.length, List.length_range]
      obtain ⟨rs, rl, rt, ra⟩ := pd_tups pu (Same.refl H4) (fun k l' h => eld_len EL k l' h)
      refine ⟨_, rfl, D, _, rfl, .inl (SqL.of hD), rfl, _, rfl, iteE (decide_eq_false fun z => by have := V.int.inj z; omega) ?_⟩
      -- closed
      refine ⟨_, rfl, D, _, rfl, SqL.of hD, fun D2 nD2 => ?_⟩
      refine lc_enF (K := K) (a := D) (xs := us) (fun i => decide (i ∈ cl)) iV nD2 (by omega) hD (fun i x hx H5 t s5 ht R R0 hR => ?_) (fun H5 s5 hD2 => ?_)
      · obtain ⟨tt, r, rfl, hrs, htt⟩ := ra i x hx
        refine ⟨t, _, rfl, SqT.of ht, rfl, _, _, rfl, _, _, rfl, rfl, rfl, _, rfl, tt, _, 1, _, rfl, rfl, SqT.of (s5 _ _ htt), atI_nat (j := 1) rfl, _, rfl, ?_⟩
        by_cases c : i ∈ cl
        · exact iteD (decide_eq_true c) ⟨_, rfl, (hR H5 (Same.refl _)).1 (decide_eq_true c)⟩
        · exact iteE (decide_eq_false c) ((hR H5 (Same.refl _)).2 (decide_eq_false c))
      rw [usl, som_filt SC] at hD2
      refine ⟨D2, _, rfl, .inl hD2, fun rc H6 s6 hrc => ?_⟩
      have s46 := s5.trans s6
      have hD6 := s46 _ _ hD
      -- hollow
      refine ⟨_, rfl, D, _, rfl, SqL.of hD6, fun D3 nD3 => ?_⟩
      refine lc_enF (K := K) (a := D) (xs := us) (fun i => decide (i ∈ ho)) iV nD3 (by omega) hD6 (fun i x hx H7 t s7 ht R R0 hR => ?_) (fun H7 s7 hD3 => ?_)
      · obtain ⟨tt, r, rfl, hrs, htt⟩ := ra i x hx
        refine ⟨t, _, rfl, SqT.of ht, rfl, _, _, rfl, _, _, rfl, rfl, rfl, _, rfl, tt, _, 2, _, rfl, rfl, SqT.of (s7 _ _ (s46 _ _ htt)), atI_nat (j := 2) rfl, _, rfl, ?_⟩
        by_cases c : i ∈ ho
        · exact iteD (decide_eq_true c) ⟨_, rfl, (hR H7 (Same.refl _)).1 (decide_eq_true c)⟩
        · exact iteE (decide_eq_false c) ((hR H7 (Same.refl _)).2 (decide_eq_false c))
      rw [usl, som_filt SH] at hD3
      refine ⟨D3, _, rfl, .inl hD3, fun rh H8 s8 hrh => ?_⟩
      have s68 := s7.trans s8
      have hD8 := s68 _ _ hD6
      -- elders
      refine ⟨_, rfl, D, rfl, ⟨_, SqL.of hD8⟩, fun D4 nD4 => ?_⟩
      refine lc_lI (K := K) (a := D) (xs := us) (ls := rs) (fun _ => true) (fun v => v) nD4 (by omega) hD8 rl.symm (fun i x e hx he => fmt_one gName_mono' fun H9 s9 R hR => ?_) (fun H9 s9 hD4 => ?_)
      · obtain ⟨tt, r, rfl, hrs, htt⟩ := ra i x hx
        rw [he] at hrs
        cases hrs
        exact ⟨rfl, _, rfl, tt, _, 0, .ref r, rfl, rfl, SqT.of (s9 _ _ (s68 _ _ (s46 _ _ htt))), atI_nat (j := 0) rfl, hR H9 (Same.refl _)⟩
      rw [filt_all, List.map_id'] at hD4
      refine ⟨D4, _, rfl, .inl hD4, fun re H10 s10 hre => ?_⟩
      have s810 := s9.trans s10
      have te : Tu H10 (.ref re) (pdE es) := .tup hre (by omega) (rt.keep (.of_same (s46.trans (s68.trans s810))))
      have tc : Tu H10 (.ref rc) (pdI cl) := tu_ints (s810 _ _ (s68 _ _ hrc)) (by have := SC.len; omega)
      have th : Tu H10 (.ref rh) (pdI ho) := tu_ints (s810 _ _ hrh) (by have := SH.len; omega)
      have sAll : Same H H10 := s1.trans (s13.trans (s4.trans (s46.trans (s68.trans s810))))
      refine ⟨_, rfl, _, rfl, _, rfl, ?_⟩
      intro x dx2 nx nd ne
      refine ⟨x, dx2, .ref re, .ref rc, .ref rh, es, cl, ho, sv, rfl, upd_same, te.same (mk_same nx nd), tc.same (mk_same nx nd), th.same (mk_same nx nd), EL, SC, SH, fun H' k ko => ⟨rfl, q H' x (sAll.trans (own_same (C := C) nx nd ne k)) (sAll.free nx) ko⟩⟩
end
end Kc

set_option Elab.async false
set_option linter.all false
set_option maxRecDepth 100000
set_option maxHeartbeats 8000000
/-! several_of, kind_of_line, also where they raise -/
namespace Kc
open PySem PySem.Spec PyProof.Rows L2 Kg Kd Kr Kf Kl Kx TL
theorem kpW_len {ws : List (List Nat)} {ns : List Nat} {c h : Bool} (e : kpW ws = some (ns, c, h)) : ns.length ≤ ws.length := by
  unfold kpW at e
  split at e
  · have drop : ∀ (b : Bool) (r : List (List Nat)), (if b = true then r.dropLast else r).length ≤ r.length := fun b r => by cases b <;> simp
    have e : (numsW (if decide ((if decide ((ws.drop 1).getLast? = some hollowL) = true then (ws.drop 1).dropLast else ws.drop 1).getLast? = some closedL) = true then (if decide ((ws.drop 1).getLast? = some hollowL) = true then (ws.drop 1).dropLast else ws.drop 1).dropLast else (if decide ((ws.drop 1).getLast? = some hollowL) = true then (ws.drop 1).dropLast else ws.drop 1))).map (fun n => (n, decide ((if decide ((ws.drop 1).getLast? = some hollowL) = true then (ws.drop 1).dropLast else ws.drop 1).getLast? = some closedL), decide ((ws.drop 1).getLast? = some hollowL))) = some (ns, c, h) := e
    generalize hr1 : (if decide ((ws.drop 1).getLast? = some hollowL) = true then (ws.drop 1).dropLast else ws.drop 1) = r1 at e
    have l1 : r1.length ≤ ws.length := by
      rw [← hr1]
      have := drop (decide ((ws.drop 1).getLast? = some hollowL)) (ws.drop 1)
      rw [List.length_drop] at this
      omega
    generalize hr2 : (if decide (r1.getLast? = some closedL) = true then r1.dropLast else r1) = r2 at e
    have l2 : r2.length ≤ r1.length := by rw [← hr2]; exact drop _ _
    unfold numsW at e
    split at e
    · have e2 : (r2.map fun w => (numW w).getD 0) = ns := by
        have z := Option.some.inj e
        exact (Prod.mk.inj z).1
      rw [← e2, List.length_map]
      omega
    · cases e
  · cases e
/-- BadText(line, code) -/
def BtE (bt : Addr) (H : Hp) (nv : V) (code : Nat) (E : XK) : Prop := ∀ H' d, Same H H' → H' d = some (.xd [("code", .int ((code : Nat) : Int)), ("line", nv)]) → E (.ref bt) (some d) H'
def spSvX (bt : Addr) : Sp := fun vs H Q E => ∃ (nv : V) (a : Addr) (ws : List (List Nat)), vs = [nv, .ref a] ∧ H a = some (.lst (ws.map wV)) ∧ (∀ w ∈ ws, chOk w) ∧
  (ws = [severalL] → ∀ H', Same H H' → Q (.bl true) H') ∧ (ws = [singleL] → ∀ H', Same H H' → Q (.bl false) H') ∧ (ws ≠ [severalL] → ws ≠ [singleL] → BtE bt H nv 2 E)
def spKlX (bt : Addr) : Sp := fun vs H Q E => ∃ (nv : V) (a : Addr) (k : Nat) (ws : List (List Nat)) (sv : Bool), vs = [nv, .ref a, iV k, .bl sv] ∧ H a = some (.lst (ws.map wV)) ∧ ws ≠ [] ∧ ws.length ≤ 900 ∧ (∀ w ∈ ws, chOk w ∧ w.length ≤ 800) ∧
  (kpW ws = none → BtE bt H nv 2 E) ∧
  (∀ ns c h, kpW ws = some (ns, c, h) → (6 ≤ k ∨ eldB (pdI ns) ((k : Nat) : Int) sv = false) → BtE bt H nv 3 E) ∧
  (∀ ns c h, kpW ws = some (ns, c, h) → k < 6 → eldB (pdI ns) ((k : Nat) : Int) sv = true → ∀ H' t r, Same H H' → H' r = some (.tup (ns.map iV)) → H' t = some (.tup [.ref r, .bl c, .bl h]) → Q (.ref t) H')
section
variable {P : Program} {w : World} {K : PySem.W.Frag} {mg : Str → Option Value} {base : Heap} {f : Addr} {fd : FuncData} {k : Nat}
theorem ok_svX {bt : Addr} (F : Fun K "several_of" "several_of" sSvo f fd) (R : RaC P w K mg base "BadText" bt 2 (fun vs => [("code", vs.tail.headD .non), ("line", vs.headD .non)])) : FnOk P w K mg base (L2N.CX P w) 3 f fd ["number", "words"] (spSvX bt) := by
  refine F.okN scSvo (fun vs H Q E h => ?_) (fun cdv A outer s H vs Q E hr h => ?_)
  · obtain ⟨nv, a, ws, rfl, _⟩ := h
    rfl
  · obtain ⟨nv, a, ws, rfl, ha, ch, qt, qf, qe⟩ := h
    have hr2 := hr.mono (show 2 ≤ 2 by decide)
    refine ⟨_, (pss_cons (ps_if (PW.pt (pw_and (pt_cmpR (op_neD hr.units) (pv 1) (pe_lst (pa_cons pe_str pa_nil)) (nomark _)) (pw_and1 (pt_cmpR (op_neD hr.units) (pv 1) (pe_lst (pa_cons pe_str pa_nil)) (nomark _))))) (pss_one (L2N.ps_raise rfl (L2N.takes_of rfl rfl rfl rfl) (pmk_raN R hr2 (by rfl) (pa_cons (pv 0) (pa_cons pe_int pa_nil))))) pss_nil)
      (pss_one (ps_ret (pe_cmpR (op_eqD hr.units) (pv 1) (pe_lst (pa_cons pe_str pa_nil)) (nomark _))))), ?_⟩
    have c1 : Str.ofString "several" = sS severalL := eq_sS (by decide +kernel)
    have c2 : Str.ofString "single" = sS singleL := eq_sS (by decide +kernel)
    have z1 : 1 ≤ sizeLine := by rw [sizeLine_eq]; decide
    -- the last statement
    have fin : ∀ H2 b, decide (ws = [severalL]) = b → (∀ H', Same H2 H' → Q (.bl b) H') → Same H H2 → 1 ≤ sizeLine ∧ ∀ a2 : Addr, H2 a2 = none → ∃ d e, Dp K (upd H2 a2 (HO.lst [V.str (Str.ofString "several")])) (.ref a) d ∧ Dp K (upd H2 a2 (HO.lst [V.str (Str.ofString "several")])) (.ref a2) e ∧ SeqAt.shaped d = true ∧ SeqAt.shaped e = true ∧ Q (.bl (PyData.eqv d e)) (upd H2 a2 (HO.lst [V.str (Str.ofString "several")])) := fun H2 b hb q s2 => ⟨z1, fun a2 n2 => by
      have s3 := same_new (o := HO.lst [V.str (Str.ofString "several")]) n2
      refine ⟨wsD ws, wsD [severalL], dp_ws (s3 _ _ (s2 _ _ ha)), dp_ws (by rw [upd_same, c1]; rfl), sh_ws ch, sh_ws (ch_one lit_ok.1), ?_⟩
      rw [eqv_ws, hb]
      exact q _ s3⟩
    refine ⟨_, rfl, z1, fun a1 n1 => ?_⟩
    have s1 := same_new (o := HO.lst [V.str (Str.ofString "several")]) n1
    refine ⟨wsD ws, wsD [severalL], dp_ws (s1 _ _ ha), dp_ws (by rw [upd_same, c1]; rfl), sh_ws ch, sh_ws (ch_one lit_ok.1), _, rfl, ?_⟩
    rw [eqv_ws]
    by_cases h1 : ws = [severalL]
    · refine iteE (by rw [decide_eq_true h1]; rfl) (iteF ⟨_, rfl, fin _ true (decide_eq_true h1) (fun H' z => qt h1 H' (s1.trans z)) s1⟩)
    · refine iteD (by rw [decide_eq_false h1]; rfl) ⟨_, rfl, z1, fun a2 n2 => ?_⟩
      have s2 := same_new (o := HO.lst [V.str (Str.ofString "single")]) n2
      refine ⟨wsD ws, wsD [singleL], dp_ws (s2 _ _ (s1 _ _ ha)), dp_ws (by rw [upd_same, c2]; rfl), sh_ws ch, sh_ws (ch_one lit_ok.2.1), _, rfl, ?_⟩
      rw [eqv_ws]
      by_cases h2 : ws = [singleL]
      · exact iteE (by rw [decide_eq_true h2]; rfl) ⟨_, rfl, fin _ false (decide_eq_false h1) (fun H' z => qf h2 H' ((s1.trans s2).trans z)) (s1.trans s2)⟩
      · refine iteD (by rw [decide_eq_false h2]; rfl) ?_
        exact ⟨_, rfl, rfl, fun H' d s _ y => qe h1 h2 H' d ((s1.trans s2).trans s) y⟩
theorem ok_klX {bt : Addr} {tk : Tok} (F : Fun K "kind_of_line" "kind_of_line" sKol f fd) (R : RaC P w K mg base "BadText" bt 2 (fun vs => [("code", vs.tail.headD .non), ("line", vs.headD .non)])) (GP : Cal P w K mg base "kind_parts" 3 ["words"] spKpr) (GE : Cal P w K mg base "are_elders" 4 ["value", "kind", "several"] spEld) (mk : mg "MAX_KINDS" = some (.int 6 tk)) : FnOk P w K mg base (L2N.CX P w) 5 f fd psKol (spKlX bt) := by
  refine F.okN scKol (fun vs H Q E h => ?_) (fun cdv A outer s H vs Q E hr h => ?_)
  · obtain ⟨nv, a, k, ws, sv, rfl, _⟩ := h
    rfl
  · obtain ⟨nv, a, k, ws, sv, rfl, ha, ne, wl, wk, q2, q3, q⟩ := h
    have hr2 := hr.mono (show 2 ≤ 4 by decide)
    have hr3 := hr.mono (show 3 ≤ 4 by decide)
    refine ⟨_, (pss_cons (ps_set (i := 4) scKol.nd rfl (.inl rfl) (pe_cal GP hr3 (by rfl) (pa_cons (pv 1) pa_nil)))
      (pss_cons (ps_if (pt_cmpR op_isN (pv 4) pe_non (nomark _)) (pss_one (L2N.ps_raise rfl (L2N.takes_of rfl rfl rfl rfl) (pmk_raN R hr2 (by rfl) (pa_cons (pv 0) (pa_cons pe_int pa_nil))))) pss_nil)
      (pss_cons (ps_if (PW.pt (pw_or (pt_cmpR op_ge (pv 2) (pe_glob (v := .int 6) (by rfl) mk ⟨_, rfl⟩) (nomark _)) (pw_or1 (pt_not (pt_val (pe_cal GE hr (by rfl) (pa_cons (pe_ix ix_tup (pv 4) pe_int (fun _ _ => rfl)) (pa_cons (pv 2) (pa_cons (pv 3) pa_nil))))))))) (pss_one (L2N.ps_raise rfl (L2N.takes_of rfl rfl rfl rfl) (pmk_raN R hr2 (by rfl) (pa_cons (pv 0) (pa_cons pe_int pa_nil))))) pss_nil)
      (pss_one (ps_ret (pv 4)))))), ?_⟩
    refine ⟨_, rfl, a, ws, rfl, ha, ne, wl, wk, fun en H1 s1 => ?_, fun ns c h en H1 t r s1 hr1 ht => ?_⟩
    · exact ⟨_, rfl, rfl, _, rfl, iteT ⟨_, rfl, rfl, fun H' d s _ y => q2 en H' d (s1.trans s) y⟩⟩
    · refine ⟨_, rfl, rfl, _, rfl, iteF ⟨_, rfl, _, _, rfl, rfl, _, rfl, ?_⟩⟩
      by_cases k6 : 6 ≤ k
      · exact iteD (decide_eq_true (by omega)) (iteT ⟨_, rfl, rfl, fun H' d s _ y => q3 ns c h en (.inl k6) H' d (s1.trans s) y⟩)
      · refine iteE (decide_eq_false (by omega)) ?_
        have nl : ns.length ≤ 900 := by
          have z := kpW_len en
          omega
        have tl' : Tu H1 (.ref r) (pdI ns) := tu_ints hr1 (by omega)
        refine ⟨_, rfl, t, _, 0, .ref r, rfl, rfl, SqT.of ht, atI_nat (j := 0) rfl, _, rfl, _, rfl, .ref r, pdI ns, ((k : Nat) : Int), .bl sv, rfl, tl'.da, _, rfl, ?_⟩
        have es : (!decide (V.bl sv = V.bl false)) = sv := by cases sv <;> rfl
        rw [es]
        cases ee : eldB (pdI ns) ((k : Nat) : Int) sv with
        | true => exact iteF ⟨_, rfl, q ns c h en (by omega) ee H1 t r s1 hr1 ht⟩
        | false => exact iteT ⟨_, rfl, rfl, fun H' d s _ y => q3 ns c h en (.inr ee) H' d (s1.trans s) y⟩
end
end Kc

set_option Elab.async false
set_option linter.all false
set_option maxRecDepth 100000
set_option maxHeartbeats 4000000
/-! An exception out of a comprehension's block (begun): a frame is all that is asked of an env; the block's end with its frame known. -/
namespace Kx
open PySem PySem.Spec PyProof.Rows L2
/-- an exception's way is noted by the frame alone -/
theorem note_frame {x : Value} {e1 e2 : Env} (h : e1.frame = e2.frame) : noteFrame x e1 = noteFrame x e2 := by
  unfold noteFrame PySem.frameOf
  rw [h]
theorem pass_frame {what : String} {x : Value} {e1 e2 : Env} (h : e1.frame = e2.frame) : (PySem.passOn what x e1 : Sem Value) = PySem.passOn what x e2 := by
  unfold PySem.passOn
  rw [h]
section
variable {M : Model} {A : Around} {E : Value → Shared → Prop} {s : Shared} {env : Env}
/-- what is wished where the block ends, by an exception too -/
def EndF (M : Model) (A : Around) (E : Value → Shared → Prop) (env : Env) (use : Option (Value → Sem Unit)) (Q : Value → Shared → Prop) (acc : Value) (C : Addr) (r : Result) (t : Shared) : Prop :=
  match r, use with
  | .ok _, none => ∃ m, t.heap.Ns C m ∧ ∀ g, Heap.SameBut C t.heap g → Q acc { t with heap := g }
  | .ok _, some u => wpAny M A (u acc) (fun _ t2 => ∃ m, t2.heap.Ns C m ∧ ∀ g, Heap.SameBut C t2.heap g → Q .none { t2 with heap := g }) E t
  | .error x, _ => ∃ m, t.heap.Ns C m ∧ ∀ g, Heap.SameBut C t.heap g → wpAny M A (PySem.passOn "comprehension.variables-let-go" x env : Sem Value) (fun _ _ => False) E { t with heap := g }
theorem compF {e : Expr} {scope : Scope} {pos : Pos} {newAcc first : Sem Value} {g : Comprehension} {gs : List Comprehension} {cl : List (Str × Addr)} {use : Option (Value → Sem Unit)} {Q : Value → Shared → Prop}
    (hcl : clausesOf e = g :: gs) (hs : ∀ x, foldedSetIterable g.iter env x = pure x) (hclos : closureFor scope env = pure cl) (hkind : scope.kind = .function) (hnames : ∀ x ∈ scope.names, x.2 = .local → scope.names.lookup x.1 = some .local)
    (h : wpAny M A first (fun x s1 => wpAny M A (pyIter x) (fun it s2 => wpAny M A newAcc (fun acc s3 => wpAny M A (newFunctionEnv scope env.globals cl [] env.qual none .none (some env)) (fun ce s4 =>
        ce.frame = env.frame ∧ codeAny M A (.compStart e 0 it acc { ce with scope := relabel scope env }) (EndF M A E env use Q acc ce.locals) s4) E s3) E s2) E s1) E s) :
    wpAny M A (comprehension e scope env pos newAcc false first use) Q E s := by
  unfold comprehension
  rw [hclos, hcl]
  have same : ∀ {x : Value} {t : Shared}, E x t → E x t := fun h => h
  refine wpAny_bind (wpAny_mono h (fun x s1 h1 => ?_) fun _ _ => same)
  refine wpAny_bind (wpAny_standAt (wpAny_bind (wpAny_of_eq (hs x) (wpAny_bind (wpAny_holding (wpAny_mono h1 (fun it s2 h2 => ?_) fun _ _ => same))))))
  refine wpAny_standIf (wpAny_bind (wpAny_mono h2 (fun acc s3 h3 => wpAny_bind (wpAny_pure (wpAny_bind (wpAny_mono h3 (fun ce s4 h4 => ?_) fun _ _ => same)))) fun _ _ => same))
  dsimp only
  obtain ⟨hf, h4⟩ := h4
  let ns := (scope.names.filter fun x => (x.2 == .local || x.2 == .cell) && x.1 != (".0" : Str)).reverse
  have hv : ∀ x ∈ ns, x.2 = .local → Env.kindOf { ce with scope := relabel scope env } x.1 = some .local := fun x hx hl => lookup_relabel_local (hnames x (List.mem_filter.mp (List.mem_reverse.mp hx)).1 hl)
  have hv' : ∀ x ∈ ns.drop 1 ++ ns.take 1, x.2 = .local → Env.kindOf { ce with scope := relabel scope env } x.1 = some .local := fun x hx hl => (List.mem_append.mp hx).elim (fun z => hv x (List.mem_of_mem_drop z) hl) (fun z => hv x (List.mem_of_mem_take z) hl)
  refine wpAny_holding (wpAny_bind (wpAny_attempt (wpAny_holding (wpAny_run (codeAny_mono h4 fun r t hr => ?_)))))
  cases r with
  | ok fl =>
    cases use with
    | none =>
      obtain ⟨m, hn, hr⟩ := hr
      exact wpAny_bind (wpAny_holding (wpAny_comp_letGo (cenv := { ce with scope := relabel scope env }) hkind _ t m hv hn fun g' m' _ hg => wpAny_pure (hr g' hg)))
    | some u =>
      refine wpAny_bind (wpAny_rule (wpAny_bind (wpAny_holding (wpAny_mono hr (fun _ t2 hr2 => ?_) fun _ _ => same))))
      obtain ⟨m, hn, hr2⟩ := hr2
      exact wpAny_bind (wpAny_comp_letGo (cenv := { ce with scope := relabel scope env }) hkind _ t2 m hv' hn fun g' m' _ hg => wpAny_pure (hr2 g' hg))
  | error x =>
    have hr : ∃ m, t.heap.Ns ce.locals m ∧ ∀ g', Heap.SameBut ce.locals t.heap g' → wpAny M A (PySem.passOn "comprehension.variables-let-go" x env : Sem Value) (fun _ _ => False) E { t with heap := g' } := by cases use <;> exact hr
    obtain ⟨m, hn, hr⟩ := hr
    have hp : (PySem.passOn "comprehension.variables-let-go" x { ce with scope := relabel scope env } : Sem Value) = PySem.passOn "comprehension.variables-let-go" x env := pass_frame hf
    exact wpAny_bind (wpAny_holding (wpAny_comp_letGo (cenv := { ce with scope := relabel scope env }) hkind _ t m hv hn fun g' m' _ hg => by
      have z := hr g' hg
      rw [← hp] at z
      exact wpAny_mono z (fun _ _ y => y.elim) fun _ _ => same))
end
end Kx

set_option Elab.async false
set_option linter.all false
set_option maxRecDepth 100000
set_option maxHeartbeats 4000000
/-! An exception out of a comprehension's block: noted there, the block's dict let go, passed on. -/
namespace Kx
open PySem PySem.Spec PyProof.Rows L2 PySem.HandSPX
/-- the frames, where all else may have changed -/
theorem funFrames_but {base B h h' : Heap} : ∀ {l : List Env}, h.FunFrames base l → (∀ L ∈ frs l, B.get? L = none ∧ ∀ o, h.get? L = some o → h'.get? L = some o) → h'.FunFrames B l
  | [], _, _ => trivial
  | env :: l, h, hn => by
    obtain ⟨hk, ⟨L, o, hf, _, ho, hd⟩, hr⟩ := h
    have q := hn L (List.mem_filterMap.mpr ⟨env, List.mem_cons_self, hf⟩)
    exact ⟨hk, ⟨L, o, hf, q.1, q.2 o ho, hd⟩, funFrames_but hr fun b hb => by
      obtain ⟨e, he, q⟩ := List.mem_filterMap.mp hb
      exact hn b (List.mem_filterMap.mpr ⟨e, List.mem_cons_of_mem _ he, q⟩)⟩
theorem frs_none {base h : Heap} : ∀ {l : List Env}, h.FunFrames base l → ∀ L ∈ frs l, base.get? L = none
  | [], _, _, hm => by cases hm
  | env :: l, h, L, hm => by
    obtain ⟨hk, ⟨L', o, hf, hb, ho, hd⟩, hr⟩ := h
    obtain ⟨e, he, q⟩ := List.mem_filterMap.mp hm
    rcases List.mem_cons.mp he with z | z
    · subst z
      rw [hf] at q; cases q
      exact hb
    · exact frs_none hr L (List.mem_filterMap.mpr ⟨e, z, q⟩)
theorem hide_get {h : Heap} {C b : Addr} {o : Obj} (e : h.get? b = some o) (n : b ≠ C) : (PySem.W.hideAll h [C]).get? b = some o := PySem.W.hideAll_get _ e fun hm => n (List.mem_singleton.mp hm)
theorem hide_of {h : Heap} {C b : Addr} {o : Obj} (e : (PySem.W.hideAll h [C]).get? b = some o) : h.get? b = some o ∧ b ≠ C := ⟨PySem.W.of_hideAll _ e, fun q => by
  rw [q, PySem.W.hideAll_none _ (List.mem_singleton.mpr rfl)] at e; cases e⟩
theorem hide_none {h : Heap} {C b : Addr} (e : h.get? b = none) : (PySem.W.hideAll h [C]).get? b = none := by
  cases q : (PySem.W.hideAll h [C]).get? b with
  | none => rfl
  | some o => rw [(hide_of q).1] at e; cases e
/-- in the air without C -/
theorem fly_hide {B h : Heap} {l : List Env} {a C : Addr} {Z : Obj → Prop} {o : Obj} (fl : FlyingZ B l a Z h) (hC : B.get? C = some o) (hCl : C ∉ frs l) : FlyingZ (PySem.W.hideAll B [C]) l a Z (PySem.W.hideAll h [C]) := by
  obtain ⟨st, ha, ff, oe, vs, T, oT, ts, he, hz, hd, h1, hnT, hTe, hT, hdT, h3⟩ := fl
  have nC : ∀ b, B.get? b = none → b ≠ C := fun b e q => by rw [q, hC] at e; cases e
  have fn := frs_none ff
  refine ⟨fun b u e => hide_get (st b u (hide_of e).1) (hide_of e).2, hide_none ha, funFrames_but ff fun L hL => ⟨hide_none (fn L hL), fun u e => hide_get e (nC L (fn L hL))⟩, oe, vs, T, oT, ts, hide_get he (nC a ha), hz, hd, h1, hide_none hnT, hTe, hide_get hT (nC T hnT), hdT, h3⟩
/-- the same with objects more -/
theorem sky_up {B h h' : Heap} {l : List Env} {a L : Addr} {Z : Obj → Prop} (x : Sky B l a Z L h) (k : ∀ b o, h.get? b = some o → h'.get? b = some o) : Sky B l a Z L h' := by
  rcases x with ⟨hB, hn, hl, oe, vs, he, hz, hd, h1⟩ | ⟨st, ha, ff, oe, vs, T, oT, ts, he, r1, r2, r3, r4, r5, hT, r6, r7⟩ | ⟨st, ha, ff, oe, vs, T, oT, ts, he, r1, r2, r3, r4, r5, hT, r6, r7⟩
  · exact .inl ⟨fun b o e => k b o (hB b o e), hn, Heap.FunFrames.of_keeps (fun b o e _ => ⟨o, k b o e, rfl⟩) hl, oe, vs, k _ _ he, hz, hd, h1⟩
  · exact .inr (.inl ⟨fun b o e => k b o (st b o e), ha, Heap.FunFrames.of_keeps (fun b o e _ => ⟨o, k b o e, rfl⟩) ff, oe, vs, T, oT, ts, k _ _ he, r1, r2, r3, r4, r5, k _ _ hT, r6, r7⟩)
  · exact .inr (.inr ⟨fun b o e => k b o (st b o e), ha, Heap.FunFrames.of_keeps (fun b o e _ => ⟨o, k b o e, rfl⟩) ff, oe, vs, T, oT, ts, k _ _ he, r1, r2, r3, r4, r5, k _ _ hT, r6, r7⟩)
/-- noted where it stands -/
theorem sky_note {M : Model} {A : Around} {E₁ : Value → Shared → Prop} {env : Env} {outer : List Env} {L a : Addr} {cls : Value} {d : Option Addr} {s : Shared} {B : Heap} {Q : Unit → Shared → Prop} (hfr : A.frames = some (env :: outer)) (hf : env.frame = some L)
    (x : Sky B (env :: outer) a (L2N.Zn cls d) L s.heap) (hQ : ∀ h', HeldZ B (env :: outer) a (L2N.Zn cls d) L h' → s.heap.UpToSlots h' → Q () { s with heap := h' }) :
    wpAny M A (noteFrame (.ref a) env) Q E₁ s := by
  rcases x with ⟨hB, hn, hl, oe, vs, he, hz, hd, h1⟩ | fl | hh
  · exact PXN.look_newZ L2N.Zn.steady hfr hl hf he hB hn hd h1 hz hQ
  · exact PXN.looks_onZ L2N.Zn.steady hfr hf fl hQ
  · exact HandSPX.againZ hf hh.2.2.2 (hQ s.heap hh (Heap.UpToSlots.refl _))
section
variable {X : Cx} {W : WX} {pins : List (Addr × Obj)} {σ : L2.St} {H : Hp} {s s' : Shared} {ce : Env} {C : Addr} {m : Str → Option Value} {u : Value} {E : XK} {use : Option (Value → Sem Unit)} {Q : Value → Shared → Prop} {acc : Value}
/-- without C -/
theorem cx_hide {t : Nat} {o : Obj} (c : L2N.CX X.prog X.w X.stack H s E u s') (hC : s.heap.get? C = some o) (hn : H C = none) (hCf : C ∉ frs X.stack) :
    L2N.CX X.prog X.w X.stack H { s with heap := PySem.W.hideAll s.heap [C], toks := t } E u { s' with heap := PySem.W.hideAll s'.heap [C] } ∧ s'.heap.get? C = some o := by
  obtain ⟨a, B, H', cls, d, rfl, fl, hok, ub, na, os, ag, hE⟩ := c
  have bC := ub.keep C o hC hn hCf
  have nC := ub.free C o hC hn
  refine ⟨⟨a, PySem.W.hideAll B [C], H', cls, d, rfl, fly_hide fl bC hCf, fun b v e => ?_, ⟨fun b v e n hb => ?_, fun b v e hb => ?_, fun b v e n => ub.free b v (hide_of e).1 n, fun b v e hb => ?_, ub.tups, ub.frzs, ub.tbls⟩, na, os, ag, hE⟩, fl.1 C o bC⟩
  · refine (hok b v e).stay (fun c w hc r => hide_get r fun q => ?_) (fun _ r => r) fun _ _ r => r
    subst q
    rcases hc with z | z
    · subst z; rw [nC] at e; cases e
    · rw [nC] at z; cases z
  · exact hide_get (ub.keep b v (hide_of e).1 n hb) (hide_of e).2
  · obtain ⟨sl, q⟩ := ub.slot b v (hide_of e).1 hb
    exact ⟨sl, hide_get q (hide_of e).2⟩
  · obtain ⟨o', q⟩ := ub.there b v (hide_of e).1 hb
    exact ⟨o', hide_get q (hide_of e).2⟩
/-- out of the block: noted, the block's dict cleared, passed on, taken -/
theorem thrown (I : Inv X pins σ H s) (c : L2N.CX X.prog X.w X.stack H s E u s') (hW : ∀ cls d H', E cls d H' → W cls d σ H') (tk : L2N.Takes X W) (hs : X.stack = X.env :: X.outer) (hf : X.env.frame = some X.env.locals) (hcf : ce.frame = X.env.frame)
    (hns : s.heap.Ns C m) (f : FpOk X pins H C) (hCf : C ∉ frs X.stack) :
    notedBy (model X.prog X.w) X.A ce (fun e s'' => EndF (model X.prog X.w) X.A X.xe X.env use Q acc C (.error e) s'') u s' := by
  obtain ⟨f0, f1, f2, f3, f4, f5⟩ := f
  obtain ⟨oC, es, ep, hC, hdC, rC⟩ := hns
  have hfr : X.A.frames = some (X.env :: X.outer) := by rw [I.ok.frames, hs]
  have I0 : Inv X pins σ H { s with heap := PySem.W.hideAll s.heap [C], toks := s.toks } := I.turned (fun b o n e => hide_get e n) f0 f1 f3 f4 f5
  obtain ⟨c0, hC'⟩ := cx_hide (t := s.toks) c hC f0 hCf
  obtain ⟨a, B, sI, pins', σ', H', cls, d, rfl, I', nb, up, sky, na, os, ag, w⟩ := L2N.XE.of_call I0 hW c0
  have sky' : Sky B (X.env :: X.outer) a (L2N.Zn cls d) X.env.locals s'.heap := by
    rw [← hs]
    exact sky_up sky fun b o e => (hide_of e).1
  have BC : B.get? C = none := by
    have st : B.StaysIn (PySem.W.hideAll s'.heap [C]) := by
      rcases sky with z | z | z
      · exact z.1
      · exact z.1
      · exact z.1
    cases q : B.get? C with
    | none => rfl
    | some o => exact absurd rfl (hide_of (st _ _ q)).2
  unfold notedBy
  rw [note_frame hcf]
  refine sky_note hfr hf sky' fun h1 hh up1 => ?_
  have hns1 : h1.Ns C m := Heap.UpToSlots.ns up1 ⟨oC, es, ep, hC', hdC, rC⟩
  refine ⟨m, hns1, fun g sb => ?_⟩
  obtain ⟨o1, es1, ep1, hC1, hd1, r1⟩ := hns1
  obtain ⟨st, ha, ff, oe, vs, T, oT, ts, he, hz, hd, hv, hnT, hTe, hT, hdT, h3⟩ := hh
  have rcd : ∀ b o (vs : Array Value), h1.get? b = some o → o.data = .fields vs → b ≠ C := fun b o vs e q z => by
    rw [z, hC1] at e; cases e
    rw [hd1] at q; cases q
  have hCf' : ∀ L ∈ frs (X.env :: X.outer), L ≠ C := fun L hL q => hCf (by rw [hs, ← q]; exact hL)
  have fn := frs_none ff
  have aC := rcd a oe vs he hd
  have TC := rcd T oT ts hT hdT
  have he' : g.get? a = some oe := (sb.2 a aC).trans he
  have hT' : g.get? T = some oT := (sb.2 T TC).trans hT
  unfold PySem.passOn
  refine wpAny_bind (wpAny_field he' hd hv ?_)
  rw [if_neg (show ¬ ((Value.ref T == Value.none) = true) from by simp)]
  refine wpAny_bind ?_
  rw [hf]
  refine HandSPX.setFlight_anyZ (Z := L2N.Zn cls d) (base := B) (l := X.env :: X.outer) (fun b o e => (sb.2 b fun q => by rw [q, BC] at e; cases e).trans (st b o e)) (funFrames_but ff fun L hL => ⟨fn L hL, fun o e => (sb.2 L (hCf' L hL)).trans e⟩)
    ⟨oe, vs, T, oT, ts, he', hz, hd, hv, hnT, hTe, hT', hdT, h3⟩ fun h2 k1 k2 k3 k4 => ?_
  refine wpAny_throw (tk _ _ ⟨a, B, sI, pins', σ', H', cls, d, rfl, I', nb, fun b o e n => ?_, ?_, na, os, ag, w⟩)
  · obtain ⟨sl, q⟩ := up b o e n
    obtain ⟨q1, q2⟩ := hide_of q
    obtain ⟨sl1, q3⟩ := up1 b _ q1 n
    obtain ⟨sl2, q4⟩ := k4 b _ ((sb.2 b q2).trans q3) n
    exact ⟨sl2, q4⟩
  · rw [hs]
    exact .inr (.inr ⟨k1, ha, k2, k3⟩)
end
end Kx

set_option Elab.async false
set_option linter.all false
set_option maxRecDepth 100000
set_option maxHeartbeats 4000000
/-! [f(..) for ..] where f may raise. -/
namespace Kx
open PySem PySem.Spec PyProof.Rows L2 PySem.HandSPX
/-- what a block wishes of an exception: it came from a call made there -/
def gx (Y : Cx) (X : Cx) (E : XK) : Value → Shared → Prop := fun u s' => ∃ pins' σ' H1 s1, Inv Y pins' σ' H1 s1 ∧ L2N.CX X.prog X.w X.stack H1 s1 E u s'
abbrev blkE (X : Cx) (s : Shared) (H : Hp) (scope : Scope) (ce : Env) (fp : List Addr) (E : XK) : Cx := (X.blk s H scope ce fp).wish (gx (X.blk s H scope ce fp) X E)
section
variable {X : Cx} {s : Shared} {H : Hp} {scope : Scope} {ce : Env} {fp : List Addr} {E : XK}
theorem blk_passes (σ : L2.St) : PassesAt (L2N.CX X.prog X.w) (blkE X s H scope ce fp E) σ E := fun pins H1 s1 e s' I c => ⟨pins, σ, H1, s1, I.unwish, c⟩
/-- the block's exception, seen from the def -/
theorem blk_thrown {pins : List (Addr × Obj)} {σ : L2.St} {W : WX} {use : Option (Value → Sem Unit)} {Q : Value → Shared → Prop} {acc u : Value} {s' : Shared} (I3 : Inv X pins σ H s) (hs : X.stack = X.env :: X.outer) (hf : X.env.frame = some X.env.locals)
    (hcf : ce.frame = X.env.frame) (cL : ce.locals = s.heap.objs.size) (hfp : ∀ b ∈ fp, FpOk X pins H b) (hW : ∀ cls d H', E cls d H' → W cls d σ H') (tk : L2N.Takes X W) (g : gx (X.blk s H scope ce fp) X E u s') :
    notedBy (model X.prog X.w) X.A ce (fun e s'' => EndF (model X.prog X.w) X.A X.xe X.env use Q acc s.heap.objs.size (.error e) s'') u s' := by
  obtain ⟨pins', σ', H1, s1, I1, c⟩ := g
  have I7 : Inv X pins σ H1 s1 := I3.call' (ch := fp) I1.os I1.base I1.hok I1.bare fun b hb => ⟨(hfp b hb).2.2.2.1, (hfp b hb).2.1, (hfp b hb).2.2.2.2.1, (hfp b hb).2.2.2.2.2⟩
  have nC : H1 s.heap.objs.size = none := by
    have z : H1 ce.locals = none := I1.free
    rw [cL] at z
    exact z
  obtain ⟨m, hn, _⟩ := I1.loc
  have hn : s1.heap.Ns ce.locals m := hn
  rw [cL] at hn
  refine thrown I7 c hW tk hs hf hcf hn (I3.fpOk (Nat.le_refl _) nC) fun hm => ?_
  obtain ⟨_, o, ho, _⟩ := I3.stack.mem hm
  exact absurd (Heap.lt_size ho) (Nat.lt_irrefl _)
end
section
variable {X : Cx}
/-- the comprehension with a raising element (statement and proof after HandS.Comp's lc_core) -/
theorem lcX {pins : List (Addr × Obj)} {s : Shared} {σ : L2.St} {H : Hp} {Q : VK} {E : XK} {W0 : WX} {elt tg iter : Expr} {ifs : List Expr} {scope : Scope} {own : List (Str × Nat)} {pos pos' : Pos} {wi : TI} {g : TG} {tt : TT} {te : TE} {use : Option (Value → Sem Unit)} {Qf : Value → Shared → Prop}
    (hc : X.calm = true) (hst : X.stack = X.env :: X.outer) (hf : X.env.frame = some X.env.locals) (hW : ∀ cls d H', E cls d H' → W0 cls d σ H') (tk : L2N.Takes X W0) (hN : X.N.Nodup) (I : Inv X pins σ H s) (hi : PI X tg iter wi) (ok : BlkOk X.N X.env.scope scope own)
    (hg : ∀ (s : Shared) (H : Hp) (C : Addr) (cl : List (Str × Addr)) (fp : List Addr), PG (X.blk s H scope (compEnvC scope cl C X.env) fp) tg g) (ht : ∀ (s : Shared) (H : Hp) (C : Addr) (cl : List (Str × Addr)) (fp : List Addr), PTs (X.blk s H scope (compEnvC scope cl C X.env) fp) ifs tt)
    (he : ∀ (s : Shared) (H : Hp) (C : Addr) (cl : List (Str × Addr)) (fp : List Addr), PE (blkE X s H scope (compEnvC scope cl C X.env) fp E) elt te) (hs : ∀ x, foldedSetIterable iter X.env x = pure x)
    (h : tLc wi g tt te (own.map (·.2)) σ H Q)
    (hRR : ∀ D C s' m H', Inv X pins σ H' s' → Q (.ref D) H' → s'.heap.Ns C m → FpOk X pins H' C → EndF (model X.prog X.w) X.A X.xe X.env use Qf (.ref D) C (.ok .next) s') :
    wpAny (model X.prog X.w) X.A (comprehension (.ListComp elt [⟨tg, iter, ifs, 0⟩] scope pos) scope X.env pos' (newList []) false (eval iter X.env) use) Qf X.xe s := by
  have hfree : ∀ y ∈ scope.names, y.2 = .free → ∃ c, X.env.cells.lookup y.1 = some c := fun y hy e => (ok.free y hy e).elim (fun k => I.ok.has _ (.inl k)) fun k => I.ok.has _ (.inr k)
  refine compF (use := use) rfl hs (closure_ok hfree) ok.kind (fun y hy e => by rw [ok.uniq y hy, e])
    (thn (hi.run pins s σ H _ I h) fun xv s1 hx => thn hx fun itv s2 h2 => ?_)
  obtain ⟨it, fp, tn, J, H2, e, I2, T, st2, f2, q⟩ := h2
  subst e
  refine wpAny_newObj_type (newEnv_comp ?_) (by show 0 ≤ sizeLine; decide)
  refine ⟨rfl, ?_⟩
  generalize hD : s2.heap.objs.size = D
  obtain ⟨W, ⟨m0, w0⟩, turn⟩ := q D (I2.hok.fresh (Nat.le_of_eq hD))
  generalize hs3 : ({ s2 with heap := s2.heap.push { cls := .type "list", data := .seq ([] : List Value).toArray } } : Shared) = s3
  have I3 : Inv X pins σ (upd H2 D (.lst [])) s3 := by
    rw [← hs3]
    refine I2.laid (t' := s2.toks) (fun b o e => Heap.get?_push_of_some _ e) (Nat.le_of_eq hD) ⟨Nat.zero_le _, [], 0, .nil, ?_⟩
    rw [← hD]
    exact Heap.get?_push_size _ rfl
  have h3 : s3.heap = s2.heap.push { cls := .type "list", data := .seq ([] : List Value).toArray } := by rw [← hs3]
  have f3 : ∀ b ∈ fp, FpOk X pins (upd H2 D (.lst [])) b ∧ b < s3.heap.objs.size := fun b hb => by
    obtain ⟨o, e, _⟩ := T.obj _ _ st2 b hb
    have hlt := Heap.lt_size e
    refine ⟨⟨?_, (f2 b hb).2⟩, by rw [h3, Heap.size_push]; exact Nat.lt_succ_of_lt hlt⟩
    rw [upd_ne (by rw [← hD]; exact Nat.ne_of_lt hlt)]
    exact (f2 b hb).1
  have I4 := block_start I3 ok hN f3
  have pg := hg s3 (upd H2 D (.lst [])) s3.heap.objs.size (cellsFrom (s3.heap.objs.size + 1) scope.names (cloFrom X.env.cells scope.names [])) fp
  have pt := ht s3 (upd H2 D (.lst [])) s3.heap.objs.size (cellsFrom (s3.heap.objs.size + 1) scope.names (cloFrom X.env.cells scope.names [])) fp
  have pe := he s3 (upd H2 D (.lst [])) s3.heap.objs.size (cellsFrom (s3.heap.objs.size + 1) scope.names (cloFrom X.env.cells scope.names [])) fp
  show codeAny _ _ (.compStart (.ListComp elt [⟨tg, iter, ifs, 0⟩] scope pos) 0 (.ref it) (.ref D) (compEnvC scope (cellsFrom (s3.heap.objs.size + 1) scope.names (cloFrom X.env.cells scope.names [])) s3.heap.objs.size X.env)) (EndF (model X.prog X.w) X.A X.xe X.env use Qf (.ref D) s3.heap.objs.size) { s3 with heap := pushCells (s3.heap.push { cls := .type "dict", data := .dict #[] }) scope.names }
  have nfp : ∀ b ∈ fp, (upd H2 D (.lst [])) b = none := fun b hb => (f3 b hb).1.1
  generalize hce : compEnvC scope (cellsFrom (s3.heap.objs.size + 1) scope.names (cloFrom X.env.cells scope.names [])) s3.heap.objs.size X.env = ce at I4 pg pt pe ⊢
  have cL : ce.locals = s3.heap.objs.size := by subst hce; rfl
  have cF : ce.frame = X.env.frame := by subst hce; rfl
  generalize hH3 : upd H2 D (.lst []) = H3 at I3 I4 pg pt pe w0 nfp f3
  generalize hs4 : ({ s3 with heap := pushCells (s3.heap.push { cls := .type "dict", data := .dict #[] }) scope.names } : Shared) = s4 at I4 ⊢
  have st3 : tn 0 s3.heap := T.keep _ _ _ st2 fun b _ o e => by rw [h3]; exact Heap.get?_push_of_some _ e
  have st4 : tn 0 s4.heap := T.keep _ _ _ st3 fun b _ o e => by rw [← hs4]; exact pushCells_keeps _ _ _ _ (Heap.get?_push_of_some _ e)
  have stat : ∀ {σ' : L2.St} {H' : Hp} {s' : Shared}, Inv (X.blk s3 H3 scope ce fp) [] σ' H' s' → (∀ b ∈ fp, H' b = none) → ∀ b ∈ fp, FpOk (X.blk s3 H3 scope ce fp) [] H' b := fun {σ' H' s'} I' hn b hb =>
    ⟨hn b hb, (I'.ok.exf b hb).1, I'.ok.exfs b hb, .inl hb, fun x c e => (I'.ok.exf b hb).2 x c e, fun p hp => absurd (show p ∈ ([] : List (Addr × Obj)) ++ [] from hp) (by simp)⟩
  have loop : codeAny (model X.prog X.w) X.A (.compLoop (.ListComp elt [⟨tg, iter, ifs, 0⟩] scope pos) 0 (.ref it) (.ref D) ce) (EndF (model X.prog X.w) X.A X.xe X.env use Qf (.ref D) s3.heap.objs.size) s4 := by
    refine compLoop_any (fun n s' => ∃ i H', Inv (X.blk s3 H3 scope ce fp) [] (wipe σ (own.map (·.2))) H' s' ∧ tn i s'.heap ∧ (∀ b ∈ fp, H' b = none) ∧ W i n H') ?_ m0 ⟨0, H3, I4, st4, nfp, w0⟩
    rintro n s5 ⟨i, H5, I5, st5, n5, w5⟩
    rcases turn i n H5 w5 with ⟨stop, qq⟩ | ⟨go, Nx, hNx, step⟩
    · refine thnF (T.done (X.blk s3 H3 scope ce fp) rfl rfl rfl hc i [] s5 _ H5 (fun _ _ => False) I5 (stat I5 n5) st5 stop) fun r s6 ⟨hr, I6⟩ => ?_
      subst hr
      have I7 : Inv X pins σ H5 s6 := I3.call' (ch := fp) I6.os I6.base I6.hok I6.bare fun b hb => ⟨(f3 b hb).1.2.2.2.1, (f3 b hb).1.2.1, (f3 b hb).1.2.2.2.2.1, (f3 b hb).1.2.2.2.2.2⟩
      have nC : H5 ce.locals = none := I6.free
      obtain ⟨m, hn, _⟩ := I6.loc
      have hn : s6.heap.Ns ce.locals m := hn
      rw [cL] at hn nC
      exact hRR D s3.heap.objs.size s6 m H5 I7 qq hn (I3.fpOk (Nat.le_refl _) nC)
    · refine thnF (T.item (X.blk s3 H3 scope ce fp) rfl rfl rfl hc i [] s5 _ H5 (fun _ _ => False) I5 (stat I5 n5) st5 go) fun r s6 ⟨u, hr, h6⟩ => ?_
      subst hr
      refine thnF h6 fun _ s7 ⟨x, H7, I7, r7, y7, st7, n7⟩ => ?_
      have I7' := I7.pinned (stat I7 n7) (T.obj _ _ st7)
      refine thnF (pg.run _ s7 _ H7 x u _ I7' r7 (step x H7 y7)) fun _ s8 ⟨σ8, H8, I8, hw8, q8⟩ => ?_
      refine thnF (pt.run _ s8 σ8 H8 _ I8 q8) fun b s9 ⟨H9, I9, q9⟩ => ?_
      have fin : ∀ {s' : Shared} {H' : Hp}, Inv (X.blk s3 H3 scope ce fp) ([] ++ pinsAt fp s7.heap) σ8 H' s' → Nx H' → ∃ m, m < n ∧ ∃ i H', Inv (X.blk s3 H3 scope ce fp) [] (wipe σ (own.map (·.2))) H' s' ∧ tn i s'.heap ∧ (∀ b ∈ fp, H' b = none) ∧ W i m H' := fun {s' H'} I' nx => by
        obtain ⟨m', hm, w'⟩ := hNx H' nx
        have pin' : ∀ b ∈ fp, ∀ o, s7.heap.get? b = some o → s'.heap.get? b = some o ∧ H' b = none := fun b hb o e =>
          let z := I'.pin (b, o) (List.mem_append_right _ (List.mem_append_right _ (mem_pinsAt hb e)))
          ⟨z.1, z.2.1⟩
        have hl : (wipe σ (own.map (·.2))).length = σ8.length := by rw [← hw8, wipe_length]
        refine ⟨m', hm, i + 1, H', (I'.unpinned (pins := [])).weak hl (fun j v e => ?_), T.keep _ _ _ st7 fun b hb o e => (pin' b hb o e).1, fun b hb => ?_, w'⟩
        · rw [← hw8] at e
          exact (wipe_some e).1
        · obtain ⟨o, e, _⟩ := T.obj _ _ st7 b hb
          exact (pin' b hb o e).2
      cases b with
      | false =>
        simp only [Bool.false_eq_true, if_false] at q9 ⊢
        exact fin I9 q9
      | true =>
        simp only [if_true] at q9 ⊢
        refine wpAny_mono (pe.run _ s9 σ8 H9 _ (I9.wish _) q9) (fun z s10 ⟨yv, H10, I10, r10, acc, hD10, hz10, nx⟩ => ?_) fun x s10 gg => blk_thrown I3 hst hf cF cL (fun b hb => (f3 b hb).1) hW tk gg
        exact app_ok (X := X.blk s3 H3 scope ce fp) I10.unwish hD10 hz10 r10 fun s11 I11 => fin I11 nx
  exact codeAny_compStart_list loop (T.self X.A 0 _ _ _ st4 loop)
/-- as a value -/
theorem pe_lcX {W0 : WX} {E : XK} {elt tg iter : Expr} {ifs : List Expr} {scope : Scope} {own : List (Str × Nat)} {pos : Pos} {wi : TI} {g : TG} {tt : TT} {te : TE} (hc : X.calm = true) (hst : X.stack = X.env :: X.outer) (hf : X.env.frame = some X.env.locals) (hW : ∀ cls d σ H', E cls d H' → W0 cls d σ H') (tk : L2N.Takes X W0)
    (hN : X.N.Nodup) (hi : PI X tg iter wi) (ok : BlkOk X.N X.env.scope scope own)
    (hg : ∀ (s : Shared) (H : Hp) (C : Addr) (cl : List (Str × Addr)) (fp : List Addr), PG (X.blk s H scope (compEnvC scope cl C X.env) fp) tg g) (ht : ∀ (s : Shared) (H : Hp) (C : Addr) (cl : List (Str × Addr)) (fp : List Addr), PTs (X.blk s H scope (compEnvC scope cl C X.env) fp) ifs tt)
    (he : ∀ (s : Shared) (H : Hp) (C : Addr) (cl : List (Str × Addr)) (fp : List Addr), PE (blkE X s H scope (compEnvC scope cl C X.env) fp E) elt te) (hs : ∀ x, foldedSetIterable iter X.env x = pure x := by intro _; rfl) :
    PE X (.ListComp elt [⟨tg, iter, ifs, 0⟩] scope pos) (tLc wi g tt te (own.map (·.2))) := by
  refine ⟨fun pins s σ H Q I h => ?_⟩
  rw [eval_ListComp]
  refine lcX hc hst hf (fun cls d H' e => hW cls d σ H' e) tk hN I hi ok hg ht he hs h fun D C s' m H' I' q hn f => ⟨m, hn, fun h'' sb => ?_⟩
  obtain ⟨f0, f1, f2, f3, f4, f5⟩ := f
  exact ⟨.ref D, H', I'.turned (t' := s'.toks) (fun b o hb e => (sb.2 b hb).trans e) f0 f1 f3 f4 f5, rfl, q⟩
/-- name = [..] on one line, the name a local -/
theorem ps_setLcX {i : Nat} {y : Str} {py : Pos} {W0 : WX} {E : XK} {elt tg iter : Expr} {ifs : List Expr} {scope : Scope} {own : List (Str × Nat)} {pos spos : Pos} {wi : TI} {g : TG} {tt : TT} {te : TE} (hc : X.calm = true) (hst : X.stack = X.env :: X.outer) (hf : X.env.frame = some X.env.locals) (hW : ∀ cls d σ H', E cls d H' → W0 cls d σ H') (tk : L2N.Takes X W0)
    (hN : X.N.Nodup) (hy : X.N[i]? = some y) (hyl : X.env.scope.names.lookup y = some .local) (hsw : swapsWith (.ListComp elt [⟨tg, iter, ifs, 0⟩] scope pos) (some (.Name y py)) spos.line X.env = pure true) (hi : PI X tg iter wi) (ok : BlkOk X.N X.env.scope scope own)
    (hg : ∀ (s : Shared) (H : Hp) (C : Addr) (cl : List (Str × Addr)) (fp : List Addr), PG (X.blk s H scope (compEnvC scope cl C X.env) fp) tg g) (ht : ∀ (s : Shared) (H : Hp) (C : Addr) (cl : List (Str × Addr)) (fp : List Addr), PTs (X.blk s H scope (compEnvC scope cl C X.env) fp) ifs tt)
    (he : ∀ (s : Shared) (H : Hp) (C : Addr) (cl : List (Str × Addr)) (fp : List Addr), PE (blkE X s H scope (compEnvC scope cl C X.env) fp E) elt te) (hs : ∀ x, foldedSetIterable iter X.env x = pure x := by intro _; rfl) :
    PS X (.Assign [.Name y py] (.ListComp elt [⟨tg, iter, ifs, 0⟩] scope pos) spos) (tAsg (tLc wi g tt te (own.map (·.2))) (gName i)) := by
  refine ⟨fun pins s σ H D I h => ?_⟩
  rw [exec_Assign_Name_used _ _ _ _ hsw]
  refine wpAny_bind (wpAny_standAt (wpAny_bind ?_))
  show wpAny _ X.A (do let _ ← comprehension (.ListComp elt [⟨tg, iter, ifs, 0⟩] scope pos) scope X.env (firstIterPos [⟨tg, iter, ifs, 0⟩] pos) (newList []) false (eval iter X.env) (some (assign (.Name y py) X.env))) _ _ s
  have h : tLc wi g tt te (own.map (·.2)) σ H (fun x H1 => gName i x σ H1 D.nx) := h
  refine wpAny_bind (thn (lcX (Qf := fun _ s' => SP X pins D .next s') hc hst hf (fun cls d H' e => hW cls d σ H' e) tk hN I hi ok hg ht he hs h fun L C s' m H' I' q hn f => ?_) fun _ s' hq => wpAny_pure (wpAny_pure hq))
  show wpAny _ _ (assign (.Name y py) X.env (.ref L)) _ _ _
  obtain ⟨f0, f1, f2, f3, f4, f5⟩ := f
  refine wpAny_assign_Name (store_ok2 (v := V.ref L) I' hN hy (.inl hyl) rfl (fun s2 I2 ⟨a, sb, ha⟩ => ?_) (.inr hyl))
  have haC : C ≠ a := ha.elim (fun z => by rw [z]; exact f1) fun z e => f4 y a z e.symm
  exact ⟨m, hn.sameBut sb haC, fun h3 sb3 => ⟨_, H', I2.turned (t' := s2.toks) (fun b o hb e => (sb3.2 b hb).trans e) f0 f1 f3 f4 f5, q⟩⟩
end
end Kx

set_option Elab.async false
set_option linter.all false
set_option maxRecDepth 100000
set_option maxHeartbeats 8000000
/-! read_kinds, also where it raises -/
namespace Kc
open PySem PySem.Spec PyProof.Rows L2 Kg Kd Kr Kf Kl Kx TL
/-- a line of a kind: 0, or its fault's code -/
def klC (ws : List (List Nat)) (k : Nat) (sv : Bool) : Nat := match kpW ws with
  | none => 2
  | some r => if k < 6 ∧ eldB (pdI r.1) ((k : Nat) : Int) sv = true then 0 else 3
def klV (ws : List (List Nat)) : List Nat × Bool × Bool := (kpW ws).getD ([], false, false)
abbrev Lns := List (Nat × List (List Nat))
def esR (ps : Lns) : List (List Nat) := ps.map fun p => (klV p.2).1
def clR (ps : Lns) : List Nat := (List.range ps.length).filter fun i => (ps[i]?.map fun p => (klV p.2).2.1).getD false
def hoR (ps : Lns) : List Nat := (List.range ps.length).filter fun i => (ps[i]?.map fun p => (klV p.2).2.2).getD false
theorem som_fl {n : Nat} (p : Nat → Bool) : Som n ((List.range n).filter p) := ⟨List.pairwise_lt_range.filter _, fun x hx => List.mem_range.mp (List.mem_filter.mp hx).1⟩
theorem mem_fl {n i : Nat} {p : Nat → Bool} (h : i < n) : decide (i ∈ (List.range n).filter p) = p i := by
  cases e : p i with
  | true => exact decide_eq_true (List.mem_filter.mpr ⟨List.mem_range.mpr h, e⟩)
  | false => exact decide_eq_false fun z => by rw [(List.mem_filter.mp z).2] at e; cases e
theorem klC_ok {ws : List (List Nat)} {k : Nat} {sv : Bool} (h : klC ws k sv = 0) : ∃ r, kpW ws = some r ∧ klV ws = r ∧ k < 6 ∧ eldB (pdI r.1) ((k : Nat) : Int) sv = true := by
  unfold klC at h
  unfold klV
  cases e : kpW ws with
  | none => rw [e] at h; cases h
  | some r =>
    rw [e] at h
    dsimp only at h
    split at h
    · rename_i c
      exact ⟨r, rfl, rfl, c.1, c.2⟩
    · cases h
theorem pdI_inj {a b : List Nat} (h : pdI a = pdI b) : a = b := by
  have h : a.map iD = b.map iD := by
    unfold pdI at h
    injection h
  exact (List.map_inj_right fun x y e => by
    unfold iD at e
    injection e with e
    omega).mp h
theorem eld_of {ps : Lns} {sv : Bool} (ne : ps ≠ []) (h : ∀ (i : Nat) (p : Nat × List (List Nat)), ps[i]? = some p → klC p.2 i sv = 0) : Eld (esR ps) sv := by
  have one : ∀ (k : Nat) (l : List Nat), (esR ps)[k]? = some l → k < 6 ∧ Som k l ∧ (sv = false → l.length ≤ 1) := fun k l e => by
    unfold esR at e
    rw [List.getElem?_map] at e
    cases q : ps[k]? with
    | none => rw [q] at e; cases e
    | some p =>
      rw [q] at e
      have e : (klV p.2).1 = l := Option.some.inj e
      obtain ⟨r, _, r2, r3, r4⟩ := klC_ok (h k p q)
      rw [r2] at e
      subst e
      unfold eldB at r4
      rw [Bool.and_eq_true] at r4
      obtain ⟨l', e', sl⟩ := som_inv r4.1
      have e' := pdI_inj e'
      rw [← e'] at sl
      refine ⟨r3, sl, fun z => ?_⟩
      have z2 := r4.2
      rw [z, Bool.false_or] at z2
      have z3 : (r.1.map iD).length ≤ 1 := of_decide_eq_true z2
      rw [List.length_map] at z3
      exact z3
  have ln : (esR ps).length = ps.length := List.length_map ..
  have l1 : 1 ≤ ps.length := List.length_pos_iff.mpr ne
  refine ⟨by omega, ?_, fun k l e => (one k l e).2.1.asc, fun k l e => (one k l e).2.1.low, fun k l e => (one k l e).2.2⟩
  have := (one (ps.length - 1) ((esR ps)[ps.length - 1]'(by omega)) (List.getElem?_eq_getElem _)).1
  omega
def spRdkX (C bt : Addr) : Sp := fun vs H Q E => (∃ (v : V) (d : PyData), vs = [v] ∧ Da Kd.nil H v d ∧ isStr d = false ∧ BtE bt H (.int 0) 0 E) ∨ ∃ (l : List Nat), vs = [.str (sS l)] ∧ (l.length ≤ 5000 ∧ ∀ p ∈ cutA 10 [] l, p.length ≤ 800) ∧ (∀ p ∈ lwL l, p.2 ≠ [] ∧ p.2.length ≤ 900 ∧ ∀ w ∈ p.2, chOk w ∧ w.length ≤ 800) ∧ (lwL l).length ≤ 900 ∧
  (lwL l = [] → BtE bt H (.int 0) 1 E) ∧ ∀ n0 w0 ps, lwL l = (n0, w0) :: ps → (w0 ≠ [severalL] → w0 ≠ [singleL] → BtE bt H (iV n0) 2 E) ∧ ∀ sv, w0 = [firstL sv] →
    (∀ (i : Nat) (p : Nat × List (List Nat)), ps[i]? = some p → (∀ (j : Nat) (q : Nat × List (List Nat)), j < i → ps[j]? = some q → klC q.2 j sv = 0) → klC p.2 i sv ≠ 0 → BtE bt H (iV p.1) (klC p.2 i sv) E) ∧
    (ps = [] → BtE bt H (.int 0) 4 E) ∧ (ps ≠ [] → (∀ (i : Nat) (p : Nat × List (List Nat)), ps[i]? = some p → klC p.2 i sv = 0) → ∀ H' k, Same H H' → H k = none → KO C H' k (esR ps) (clR ps) (hoR ps) sv → Q (.ref k) H')
theorem spSv_of {bt a : Addr} {nv : V} {H : Hp} {Q : VK} {E : XK} {ws : List (List Nat)} (ha : H a = some (.lst (ws.map wV))) (ch : ∀ w ∈ ws, chOk w) (q : ∀ sv, ws = [firstL sv] → ∀ H', Same H H' → Q (.bl sv) H') (e : ws ≠ [severalL] → ws ≠ [singleL] → BtE bt H nv 2 E) : spSvX bt [nv, .ref a] H Q E :=
  ⟨nv, a, ws, rfl, ha, ch, fun z => q true z, fun z => q false z, e⟩
section
variable {P : Program} {w : World} {K : PySem.W.Frag} {mg : Str → Option Value} {base : Heap} {f : Addr} {fd : FuncData}
theorem ok_rdkX {fI C bt : Addr} {dI : FuncData} (F : Fun K "read_kinds" "read_kinds" sRdk f fd) (B : Bl mg) (M : Bm mg) (Mk' : Mk K C fI) (G : FnOk P w K mg base CX0 7 fI dI ["self", "elders", "closed", "hollow", "several"] (spIni C)) (b : Binds K dI ["self", "elders", "closed", "hollow", "several"] []) (gC : mg "Kinds" = some (.ref C))
    (GL : Cal P w K mg base "lines_with_words" 2 ["text"] spLww) (R : RaC P w K mg base "BadText" bt 2 (fun vs => [("code", vs.tail.headD .non), ("line", vs.headD .non)])) (GS : CalX P w K mg base "several_of" 3 ["number", "words"] (spSvX bt)) (GK : CalX P w K mg base "kind_of_line" 5 psKol (spKlX bt)) : FnOk P w K mg base (L2N.CX P w) 9 f fd ["value"] (spRdkX C bt) := by
  refine F.okN scRdk (fun vs H Q E h => ?_) (fun cdv A outer s H vs Q E hr h => ?_)
  · rcases h with ⟨v, d, rfl, _⟩ | ⟨l, rfl, _⟩ <;> rfl
  · have hr3 := hr.mono (show 3 ≤ 8 by decide)
    have pq : Passes (L2N.CX P w) (cxOf (L2N.CX P w) P w K mg base nRdk "read_kinds" (defScope sRdk) f cdv A outer s H E) E := L2N.passes_call (L2N.takes_of rfl rfl rfl rfl) fun _ _ _ _ h => h
    have hr2 := hr.mono (show 2 ≤ 8 by decide)
    have hr5 := hr.mono (show 5 ≤ 8 by decide)
    refine ⟨_, (pss_cons (ps_if (pt_not (pt_val (pe_callB call_isi (by rfl) B.isi boot_isinstance (pa_cons (pv 0) (pa_cons (pe_bltn (v := .ty "str") (by rfl) B.str PyProof.Rows.boot_str rfl) pa_nil))))) (pss_one (L2N.ps_raise rfl (L2N.takes_of rfl rfl rfl rfl) (pmk_raN R hr2 (by rfl) (pa_cons pe_int (pa_cons pe_int pa_nil))))) pss_nil)
      (pss_cons (ps_set (i := 1) scRdk.nd rfl (.inl rfl) (pe_cal GL hr2 (by rfl) (pa_cons (pv 0) pa_nil)))
      (pss_cons (ps_if (pt_cmpR op_eq (pe_callB call_len_seq (by rfl) B.len PySem.boot_len (pa_cons (pv 1) pa_nil)) pe_int (nomark _)) (pss_one (L2N.ps_raise rfl (L2N.takes_of rfl rfl rfl rfl) (pmk_raN R hr2 (by rfl) (pa_cons pe_int (pa_cons pe_int pa_nil))))) pss_nil)
      (pss_cons (ps_set (i := 2) scRdk.nd rfl (.inr rfl) (pe_calX GS hr3 pq (by rfl) (pa_cons (pe_ix ix_tup (pe_ix ix_list (pv 1) pe_int (fun _ _ => rfl)) pe_int (fun _ _ => rfl)) (pa_cons (pe_ix ix_tup (pe_ix ix_list (pv 1) pe_int (fun _ _ => rfl)) pe_int (fun _ _ => rfl)) pa_nil))))
      (pss_cons (ps_setLcX (i := 3) (E := E) (own := [("kind", 6), ("number", 4), ("words", 5)]) (g := (gTup K 2 (gCons (gName 6) (gCons (gTup K 2 (gCons (gName 4) (gCons (gName 5) gNil))) gNil)))) rfl rfl rfl (fun _ _ _ _ h => h) (L2N.takes_of rfl rfl rfl rfl) scRdk.nd rfl rfl (sw_true rfl rfl rfl (by decide +kernel)) (pi_enum (by rfl) M.enum (pa_cons (pe_slice sl_list (pv 1) (po_some pe_int) po_none) pa_nil))
        (blkOk_by (N := nRdk) (sc := defScope sRdk) (by decide +kernel)) (fun _ _ _ _ _ => (pg_tup rfl (pgs_cons (pg_name (i := 6) scRdk.nd rfl (.inl rfl)) (pgs_cons (pg_tup rfl (pgs_cons (pg_name (i := 4) scRdk.nd rfl (.inl rfl)) (pgs_cons (pg_name (i := 5) scRdk.nd rfl (.inl rfl)) pgs_nil))) pgs_nil)))) (fun _ _ _ _ _ => pts_nil)
        (fun _ _ _ _ _ => (pe_calX GK hr5 (fun pins σ H1 s1 e s' I c => ⟨pins, σ, H1, s1, I.unwish, c⟩) (by rfl) (pa_cons (pv 4) (pa_cons (pv 5) (pa_cons (pv 6) (pa_cons (pv 2) pa_nil)))))))
      (pss_cons (ps_if (pt_cmpR op_eq (pe_callB call_len_seq (by rfl) B.len PySem.boot_len (pa_cons (pv 3) pa_nil)) pe_int (nomark _)) (pss_one (L2N.ps_raise rfl (L2N.takes_of rfl rfl rfl rfl) (pmk_raN R hr2 (by rfl) (pa_cons pe_int (pa_cons pe_int pa_nil))))) pss_nil)
      (pss_cons (ps_set (i := 7) scRdk.nd rfl (.inl rfl) (pe_callTy call_tupN (by rfl) B.tuple PyProof.Rows.boot_tuple (pa_cons (pe_lc (own := [("kind", 6), ("part", 8)]) (g := (gTup K 2 (gCons (gName 6) (gCons (gName 8) gNil)))) rfl scRdk.nd (pi_enum (by rfl) M.enum (pa_cons (pv 3) pa_nil))
        (blkOk_by (N := nRdk) (sc := defScope sRdk) (by decide +kernel)) (fun _ _ _ _ _ => (pg_tup rfl (pgs_cons (pg_name (i := 6) scRdk.nd rfl (.inl rfl)) (pgs_cons (pg_name (i := 8) scRdk.nd rfl (.inl rfl)) pgs_nil)))) (fun _ _ _ _ _ => pts_one (pt_val (pe_ix (ix_tupK (K := K) rfl) (pv 8) pe_int (fun _ _ => rfl))))
        (fun _ _ _ _ _ => (pv 6))) pa_nil)))
      (pss_cons (ps_set (i := 9) scRdk.nd rfl (.inl rfl) (pe_callTy call_tupN (by rfl) B.tuple PyProof.Rows.boot_tuple (pa_cons (pe_lc (own := [("kind", 6), ("part", 8)]) (g := (gTup K 2 (gCons (gName 6) (gCons (gName 8) gNil)))) rfl scRdk.nd (pi_enum (by rfl) M.enum (pa_cons (pv 3) pa_nil))
        (blkOk_by (N := nRdk) (sc := defScope sRdk) (by decide +kernel)) (fun _ _ _ _ _ => (pg_tup rfl (pgs_cons (pg_name (i := 6) scRdk.nd rfl (.inl rfl)) (pgs_cons (pg_name (i := 8) scRdk.nd rfl (.inl rfl)) pgs_nil)))) (fun _ _ _ _ _ => pts_one (pt_val (pe_ix (ix_tupK (K := K) rfl) (pv 8) pe_int (fun _ _ => rfl))))
        (fun _ _ _ _ _ => (pv 6))) pa_nil)))
      (pss_one (ps_ret (pe_make Mk' G hr (by rfl) gC b .nil pass0 (pa_cons (pe_callTy call_tupN (by rfl) B.tuple PyProof.Rows.boot_tuple (pa_cons (pe_lc (own := [("part", 8)]) (g := (gName 8)) rfl scRdk.nd (pi_list (pv 3))
        (blkOk_by (N := nRdk) (sc := defScope sRdk) (by decide +kernel)) (fun _ _ _ _ _ => (pg_name (i := 8) scRdk.nd rfl (.inl rfl))) (fun _ _ _ _ _ => pts_nil)
        (fun _ _ _ _ _ => (pe_ix (ix_tupK (K := K) rfl) (pv 8) pe_int (fun _ _ => rfl)))) pa_nil)) (pa_cons (pv 7) (pa_cons (pv 9) (pa_cons (pv 2) pa_nil))))))))))))))), ?_⟩
    rcases h with ⟨v, d, rfl, dd, hs, q⟩ | ⟨l, rfl, hl, hwd, hln, q0, q⟩
    · refine ⟨_, rfl, _, _, _, _, isStr d, rfl, .ty _, dd.ty, kit_ty (kt_str d), _, rfl, ?_⟩
      rw [hs]
      exact iteT ⟨rfl, fun H' d' s _ y => q H' d' s y⟩
    have dstr : Da Kd.nil H (.str (sS l)) (.str (sS l)) := .str _
    refine ⟨_, rfl, _, _, _, _, _, rfl, .ty _, dstr.ty, kit_ty rfl, _, rfl, ?_⟩
    refine iteE (by rfl) ⟨_, rfl, l, rfl, hl, fun H1 a xs s1 ha pr => ?_⟩
    have xl := pr.length
    refine ⟨_, rfl, a, _, rfl, .inl (SqL.of ha), rfl, _, rfl, ?_⟩
    cases e0 : lwL l with
    | nil =>
      rw [e0] at xl
      exact iteD (decide_eq_true (by rw [xl]; rfl)) ⟨rfl, fun H' d s _ y => q0 e0 H' d (s1.trans s) y⟩
    | cons p0 ps =>
    obtain ⟨n0, w0w⟩ := p0
    obtain ⟨q1, q2⟩ := q n0 w0w ps e0
    have hw0' := hwd (n0, w0w) (by rw [e0]; exact List.mem_cons_self)
    have hwp : ∀ p ∈ ps, p.2 ≠ [] ∧ p.2.length ≤ 900 ∧ ∀ w ∈ p.2, chOk w ∧ w.length ≤ 800 := fun p hp => hwd p (by rw [e0]; exact List.mem_cons_of_mem _ hp)
    rw [e0] at pr hln
    obtain ⟨v0, vs, rfl⟩ : ∃ v0 vs, xs = v0 :: vs := by cases pr with | cons _ _ => exact ⟨_, _, rfl⟩
    have pr0 : LnP H1 v0 (n0, w0w) := by cases pr with | cons h _ => exact h
    have prs : Paired (LnP H1) vs ps := by cases pr with | cons _ h => exact h
    have vl : vs.length = ps.length := prs.length
    rw [List.length_cons] at hln
    obtain ⟨t0, w0, rfl, ht0, hw0⟩ := pr0
    refine iteE (decide_eq_false fun z => by have := V.int.inj z; rw [List.length_cons] at this; omega) ?_
    refine ⟨_, rfl, a, _, 0, .ref t0, rfl, rfl, SqL.of ha, atI_nat (j := 0) rfl, t0, _, 0, iV n0, rfl, rfl, SqT.of ht0, atI_nat (j := 0) rfl, _, rfl, a, _, 0, .ref t0, rfl, rfl, SqL.of ha, atI_nat (j := 0) rfl, t0, _, 1, .ref w0, rfl, rfl, SqT.of ht0, atI_nat (j := 1) rfl, ?_⟩
    dsimp only [tNil, List.cons_append, List.nil_append]
    refine spSv_of hw0 (fun w hw => (hw0'.2.2 w hw).1) (fun sv hsv H2 s2 => ?_) fun z1 z2 H' d s y => q1 z1 z2 H' d (s1.trans s) y
    obtain ⟨q3, q4, q5⟩ := q2 sv hsv
    -- the parts
    refine ⟨_, rfl, _, rfl, a, _, rfl, SqL.of (s2 _ _ ha), fun a2 na2 => ?_⟩
    rw [cut_tail]
    have s3 := same_new (o := HO.lst ((V.ref t0 :: vs).drop 1)) na2
    have ha2 : upd H2 a2 (HO.lst ((V.ref t0 :: vs).drop 1)) a2 = some (.lst vs) := by rw [upd_same]; rfl
    generalize upd H2 a2 (HO.lst ((V.ref t0 :: vs).drop 1)) = H3 at ha2 s3
    have s13 := s2.trans s3
    have prs3 : Paired (LnP H3) vs ps := Paired.mapP prs fun v p h => by
      obtain ⟨t, w', e1, e2, e3⟩ := h
      exact ⟨t, w', e1, s13 _ _ e2, s13 _ _ e3⟩
    have el : (esR ps).length = ps.length := List.length_map ..
    refine ⟨a2, _, rfl, SqL.of ha2, fun D nD => ?_⟩
    refine lc_it (walk_enum (K := K) (a := a2) (xs := vs)) (fun i H4 => ∃ us : List V, Same H3 H4 ∧ H4 D = some (.lst us) ∧ Paired (PtAt (esR ps) (clR ps) (hoR ps) H4) us (List.range i) ∧ us.length ≤ i ∧ ∀ (j : Nat) (q : Nat × List (List Nat)), j < i → ps[j]? = some q → klC q.2 j sv = 0) ⟨[], same_new nD, upd_same, .nil, Nat.le_refl _, fun j _ z => absurd z (Nat.not_lt_zero j)⟩ (fun i H4 _ pp => by obtain ⟨_, pp, _⟩ := pp; exact SqL.of (pp _ _ ha2)) (fun i x H4 H5 hi pp yy => ?_) (fun H4 pp => ?_)
    · obtain ⟨us, s4, hD, pu, ul, oks⟩ := pp
      obtain ⟨T, v1, v2, rfl, nT, rfl, f1, f2⟩ := yy
      have f1' : v1 = .int ((i : Nat) : Int) := (Option.some.inj f1).symm
      subst f1'
      have s5 := same_new (o := HO.tup [.int ((i : Nat) : Int), v2]) nT
      obtain ⟨pi, hpi⟩ : ∃ pi, ps[i]? = some pi := ⟨ps[i]'(by omega), by simp [show i < ps.length by omega]⟩
      obtain ⟨ti, wi, rfl, hti, hwi⟩ := prd_at prs3 f2 hpi
      have hwpi := hwp pi (List.mem_of_getElem? hpi)
      have s45 := s4.trans s5
      have s15 := s1.trans (s13.trans s45)
      refine ⟨T, _, rfl, SqT.of upd_same, rfl, _, _, rfl, _, _, rfl, ti, _, rfl, SqT.of (s45 _ _ hti), rfl, _, _, rfl, _, _, rfl, rfl, rfl, rfl, ?_⟩
      dsimp only [tYes]
      rw [if_pos rfl]
      have bad : ∀ c, klC pi.2 i sv = c → c ≠ 0 → BtE bt _ (iV pi.1) c E := fun c hc cn H' d s y => by
        subst hc
        exact q3 i pi hpi oks cn H' d (s15.trans s) y
      refine ⟨_, rfl, _, rfl, _, rfl, _, rfl, _, wi, i, pi.2, sv, rfl, s45 _ _ hwi, hwpi.1, hwpi.2.1, hwpi.2.2, fun e => bad 2 (by unfold klC; rw [e]) (by decide), fun ns c h e z => bad 3 (by
        unfold klC; rw [e]
        exact if_neg fun y => z.elim (fun z => by have := y.1; omega) fun z => by have := y.2; rw [z] at this; cases this) (by decide), fun ns c h e k6 ee H6 t r s6 hr6 ht6 => ?_⟩
      have c0 : klC pi.2 i sv = 0 := by
        unfold klC; rw [e]
        exact if_pos ⟨k6, ee⟩
      have kv : klV pi.2 = (ns, c, h) := by unfold klV; rw [e]; rfl
      have hD6 := s6 _ _ (s5 _ _ hD)
      refine ⟨us, hD6, small1000 (by omega), us ++ [.ref t], fun bb o z => ?_, upd_same, ?_, by simp; omega, fun j q hj hq => ?_⟩
      · rw [upd_ne (ne_of_none z nD)]; exact s6 _ _ (s45 _ _ z)
      · rw [List.range_succ]
        have tk : ∀ bb xs, H6 bb = some (.tup xs) → upd H6 D (.lst (us ++ [.ref t])) bb = some (.tup xs) := fun bb xs z => by
          rw [upd_ne (ne_of z hD6 (by intro y; cases y))]; exact z
        refine paired_app (Paired.mapP pu fun v k h => pt_upd h fun bb xs z => tk bb xs (s6 _ _ (s5 _ _ z))) (.cons ?_ .nil)
        have hil : i < ps.length := by omega
        refine ⟨t, r, ns, rfl, ?_, ?_, tk _ _ hr6⟩
        · unfold esR
          rw [List.getElem?_map, hpi]
          show some (klV pi.2).1 = some ns
          rw [kv]
        · have e1 : decide (i ∈ clR ps) = c := by
            unfold clR
            rw [mem_fl hil, hpi]
            show (klV pi.2).2.1 = c
            rw [kv]
          have e2 : decide (i ∈ hoR ps) = h := by
            unfold hoR
            rw [mem_fl hil, hpi]
            show (klV pi.2).2.2 = h
            rw [kv]
          rw [e1, e2]
          exact tk _ _ ht6
      · rcases Nat.lt_succ_iff_lt_or_eq.mp hj with z | z
        · exact oks j q z hq
        · subst z
          rw [hpi] at hq
          cases hq
          exact c0
    · obtain ⟨us, s4, hD, pu, ul, oks⟩ := pp
      rw [vl] at pu ul oks
      have usl : us.length = ps.length := by rw [pu.length, List.length_range]
      refine ⟨_, rfl, D, _, rfl, .inl (SqL.of hD), rfl, _, rfl, ?_⟩
      by_cases p0 : ps = []
      · refine iteD (decide_eq_true (by rw [usl, p0]; rfl)) ⟨rfl, fun H' d s _ y => q4 p0 H' d (s1.trans (s13.trans (s4.trans s))) y⟩
      have okA : ∀ (i : Nat) (p : Nat × List (List Nat)), ps[i]? = some p → klC p.2 i sv = 0 := fun i p hp => oks i p (List.getElem?_eq_some_iff.mp hp).1 hp
      have EL := eld_of p0 okA
      have q := q5 p0 okA
      have SC : Som (esR ps).length (clR ps) := by rw [el]; exact som_fl _
      have SH : Som (esR ps).length (hoR ps) := by rw [el]; exact som_fl _
      have n6 := EL.hi
      have n1 := EL.lo
      rw [← el] at pu ul usl
      generalize hes : esR ps = es at EL q SC SH n6 n1 pu ul usl
      generalize clR ps = cl at q SC pu
      generalize hoR ps = ho at q SH pu
      obtain ⟨rs, rl, rt, ra⟩ := pd_tups pu (Same.refl H4) (fun k l' h => eld_len EL k l' h)
      refine iteE (decide_eq_false fun z => by have := V.int.inj z; omega) ?_
      -- closed
      refine ⟨_, rfl, D, _, rfl, SqL.of hD, fun D2 nD2 => ?_⟩
      refine lc_enF (K := K) (a := D) (xs := us) (fun i => decide (i ∈ cl)) iV nD2 (by omega) hD (fun i x hx H5 t s5 ht R R0 hR => ?_) (fun H5 s5 hD2 => ?_)
      · obtain ⟨tt, r, rfl, hrs, htt⟩ := ra i x hx
        refine ⟨t, _, rfl, SqT.of ht, rfl, _, _, rfl, _, _, rfl, rfl, rfl, _, rfl, tt, _, 1, _, rfl, rfl, SqT.of (s5 _ _ htt), atI_nat (j := 1) rfl, _, rfl, ?_⟩
        by_cases c : i ∈ cl
        · exact iteD (decide_eq_true c) ⟨_, rfl, (hR H5 (Same.refl _)).1 (decide_eq_true c)⟩
        · exact iteE (decide_eq_false c) ((hR H5 (Same.refl _)).2 (decide_eq_false c))
      rw [usl, som_filt SC] at hD2
      refine ⟨D2, _, rfl, .inl hD2, fun rc H6 s6 hrc => ?_⟩
      have s46 := s5.trans s6
      have hD6 := s46 _ _ hD
      -- hollow
      refine ⟨_, rfl, D, _, rfl, SqL.of hD6, fun D3 nD3 => ?_⟩
      refine lc_enF (K := K) (a := D) (xs := us) (fun i => decide (i ∈ ho)) iV nD3 (by omega) hD6 (fun i x hx H7 t s7 ht R R0 hR => ?_) (fun H7 s7 hD3 => ?_)
      · obtain ⟨tt, r, rfl, hrs, htt⟩ := ra i x hx
        refine ⟨t, _, rfl, SqT.of ht, rfl, _, _, rfl, _, _, rfl, rfl, rfl, _, rfl, tt, _, 2, _, rfl, rfl, SqT.of (s7 _ _ (s46 _ _ htt)), atI_nat (j := 2) rfl, _, rfl, ?_⟩
        by_cases c : i ∈ ho
        · exact iteD (decide_eq_true c) ⟨_, rfl, (hR H7 (Same.refl _)).1 (decide_eq_true c)⟩
        · exact iteE (decide_eq_false c) ((hR H7 (Same.refl _)).2 (decide_eq_false c))
      rw [usl, som_filt SH] at hD3
      refine ⟨D3, _, rfl, .inl hD3, fun rh H8 s8 hrh => ?_⟩
      have s68 := s7.trans s8
      have hD8 := s68 _ _ hD6
      -- elders
      refine ⟨_, rfl, D, rfl, ⟨_, SqL.of hD8⟩, fun D4 nD4 => ?_⟩
      refine lc_lI (K := K) (a := D) (xs := us) (ls := rs) (fun _ => true) (fun v => v) nD4 (by omega) hD8 rl.symm (fun i x e hx he => fmt_one gName_mono' fun H9 s9 R hR => ?_) (fun H9 s9 hD4 => ?_)
      · obtain ⟨tt, r, rfl, hrs, htt⟩ := ra i x hx
        rw [he] at hrs
        cases hrs
        exact ⟨rfl, _, rfl, tt, _, 0, .ref r, rfl, rfl, SqT.of (s9 _ _ (s68 _ _ (s46 _ _ htt))), atI_nat (j := 0) rfl, hR H9 (Same.refl _)⟩
      rw [filt_all, List.map_id'] at hD4
      refine ⟨D4, _, rfl, .inl hD4, fun re H10 s10 hre => ?_⟩
      have s810 := s9.trans s10
      have te : Tu H10 (.ref re) (pdE es) := .tup hre (by omega) (rt.keep (.of_same (s46.trans (s68.trans s810))))
      have tc : Tu H10 (.ref rc) (pdI cl) := tu_ints (s810 _ _ (s68 _ _ hrc)) (by have := SC.len; omega)
      have th : Tu H10 (.ref rh) (pdI ho) := tu_ints (s810 _ _ hrh) (by have := SH.len; omega)
      have sAll : Same H H10 := s1.trans (s13.trans (s4.trans (s46.trans (s68.trans s810))))
      refine ⟨_, rfl, _, rfl, _, rfl, ?_⟩
      intro x dx2 nx nd ne
      refine ⟨x, dx2, .ref re, .ref rc, .ref rh, es, cl, ho, sv, rfl, upd_same, te.same (mk_same nx nd), tc.same (mk_same nx nd), th.same (mk_same nx nd), EL, SC, SH, fun H' k ko => ⟨rfl, q H' x (sAll.trans (own_same (C := C) nx nd ne k)) (sAll.free nx) ko⟩⟩
end
end Kc

set_option Elab.async false
set_option linter.all false
set_option maxRecDepth 100000
set_option maxHeartbeats 4000000
/-! a tuple once or not at all: t * int(b); sorted(tuple of ints) -/
namespace Kx
open PySem PySem.Spec PyProof.Rows L2
open AutoSeq1 (wpAny_loadPart')
theorem tuple_mul1 (l : Addr) (items : Array Value) (n : Nat) (dd : Option Addr) (sl : Array (Option Value)) (u : Tok) :
    Meets (Builtin.«tuple.__mul__» ⟨[.ref l, .int 1 u], []⟩) (fun _ R s => s.heap.get? l = some { cls := .type "tuple", dict := dd, data := .seq items n, slots := sl } ∧ R (.ok (.ret (Value.ref l))) s) :=
  .of_wp fun prog w A R s h => by
    obtain ⟨hp, g, d, tk, os⟩ := s
    obtain ⟨hl, h⟩ := h
    have f1 := AutoSeq1.idx_int
    wp_walk using wpAny_loadPart' hl
    repeat (first
      | (refine wpAny_ite_false (by decide) ?_; wp_walk using wpAny_loadPart' hl)
      | (refine wpAny_ite_true (by simp) ?_; wp_walk using wpAny_loadPart' hl))
    exact ⟨_, rfl, h⟩
theorem tuple_mul0 (l : Addr) (items : Array Value) (n : Nat) (dd : Option Addr) (sl : Array (Option Value)) (u : Tok) (ne : items.isEmpty = false) :
    Meets (Builtin.«tuple.__mul__» ⟨[.ref l, .int 0 u], []⟩) (fun _ R s => s.heap.get? l = some { cls := .type "tuple", dict := dd, data := .seq items n, slots := sl } ∧
      R (.ok (.ret (Value.ref s.heap.objs.size))) { s with heap := s.heap.push { cls := Value.type "tuple", data := Data.seq #[] }, toks := s.toks }) :=
  .of_wp fun prog w A R s h => by
    obtain ⟨hp, g, d, tk, os⟩ := s
    obtain ⟨hl, h⟩ := h
    have f1 := AutoSeq1.idx_int
    wp_walk using wpAny_loadPart' hl
    repeat (first
      | (refine wpAny_ite_false (by decide) ?_; wp_walk using wpAny_loadPart' hl)
      | (refine wpAny_ite_false (by rw [ne]; decide) ?_; wp_walk using wpAny_loadPart' hl)
      | (refine wpAny_ite_true (by simp) ?_; wp_walk using wpAny_loadPart' hl))
    exact ⟨_, rfl, h⟩
/-- t * 1, t * 0 -/
def rRep1 (K : PySem.W.Frag) : R2 := fun x y H Q => ∃ (l : Addr) (b : Bool) (xs : List V), x = .ref l ∧ y = .int (if b then 1 else 0) ∧ SqT K H l xs ∧ xs ≠ [] ∧ (b = true → Q (.ref l) H) ∧ (b = false → ∀ p, H p = none → Q (.ref p) (upd H p (.tup [])))
section
variable {X : Cx}
theorem op_rep1 : OpR X (binaryOp .Mult) (rRep1 X.K) := by
  intro pins s σ H x y v u Q I rx ry h
  obtain ⟨l, b, xs, rfl, rfl, hT, hne, h1, h0⟩ := h
  cases rx
  obtain ⟨t, rfl⟩ := ry
  obtain ⟨its, r, ⟨⟨cls, dd, data, sl⟩, ho, hc, n, hd⟩, hs⟩ := I.tuple hT
  simp only at hc hd
  subst hc hd
  have hle : its.length = xs.length := r.length.symm
  have hi : its.toArray.isEmpty = false := by
    cases its with
    | nil => exact absurd (List.eq_nil_of_length_eq_zero hle.symm) hne
    | cons a b => rfl
  have core : ∀ (k : Int), wpAny (model X.prog X.w) X.A (call (.builtin "tuple.__mul__") [.ref l, .int k t]) (EP X pins σ Q) X.xe s → wpAny (model X.prog X.w) X.A (binaryOp .Mult (.ref l) (.int k t)) (EP X pins σ Q) X.xe s := fun k z =>
    wpAny_binaryOp_repeat_ref (T := "tuple") (U := "int") (by decide) ⟨_, ho, rfl⟩ (fun s' => typeIs_int s' k t) noFill_tuple_mul F.fills_int_mul F.slot_int_rmul repeat_tuple F.slot_int_index.lookup
      (call_meets F.slot_int_rmul (typeIs_int s k t) F.entry_int_rmul (F.args_int_rmul_2 _ _) (int_rmul_tuple k t l its.toArray n dd sl) ⟨ho, rfl, ⟨_, ho, rfl⟩, z⟩)
  cases b with
  | true => exact core 1 (call_meets F.slot_tuple_mul ⟨_, ho, rfl⟩ F.entry_tuple_mul (F.args_tuple_mul_2 _ _) (tuple_mul1 l its.toArray n dd sl t) ⟨ho, ⟨.ref l, H, I, rfl, h1 rfl⟩⟩)
  | false =>
    refine core 0 (call_meets F.slot_tuple_mul ⟨_, ho, rfl⟩ F.entry_tuple_mul (F.args_tuple_mul_2 _ _) (tuple_mul0 l its.toArray n dd sl t hi) ⟨ho, ?_⟩)
    exact ⟨.ref s.heap.objs.size, _, I.laid (t' := s.toks) (o := .tup []) (fun b ob q => Heap.get?_push_of_some _ q) (Nat.le_refl _) ⟨by show 0 ≤ _; omega, [], .nil, IsTup.new _ _⟩, rfl, h0 rfl _ (I.hok.fresh (Nat.le_refl _))⟩
/-- sorted(t), a tuple of ints -/
def rSortT (K : PySem.W.Frag) : List V → Hp → VK → Prop := fun vs H Q => ∃ (a : Addr) (ns : List Int), vs = [V.ref a] ∧ SqT K H a (ns.map V.int) ∧ ns.length ≤ 1000 ∧
  ∀ (ns' : List Int) (p : Addr), ns'.Perm ns → ns'.Pairwise (· ≤ ·) → H p = none → Q (.ref p) (upd H p (.lst (ns'.map V.int)))
theorem cr_sortT1 : CallR X (.builtin "sorted") (rSortT X.K) := by
  intro pins s σ H vs us Q I r h
  obtain ⟨a, ns, rfl, hs, hz, q⟩ := h
  obtain ⟨its, rv, ⟨o, ho, hc, n, hd⟩, _⟩ := I.tuple hs
  rw [Vals.ref1 r]
  have hi := rv.ints
  have hl : its.length = ns.length := by rw [← rv.length, List.length_map]
  have hz' : its.length ≤ sizeLine := by rw [hl, sizeLine_eq]; omega
  refine Calls.call_function_entry kind_sorted plain_sorted entry_sorted (args_sorted1 _) ?_
  unfold Builtin.«sorted»
  refine wpAny_bind (m := PySem.checkCount "sorted" 1 1 _) (wpAny_pure ?_)
  refine wpAny_bind (wpAny_collect_seq a (.inr rfl) ho hc hd (fun h' hk => ?_) (by rw [List.size_toArray]; exact hz'))
  have e : its.toArray.toList = its := by simp
  rw [e]
  refine wpAny_bind (wpAny_newList ?_ hz')
  have I1 : Inv X pins σ H { s with heap := h' } := I.kept (t' := s.toks) hk
  have hoL : (h'.push (seqObj "list" its.toArray 0)).get? h'.objs.size = some (seqObj "list" its.toArray 0) := Heap.get?_push_size _ rfl
  show wpAny _ _ _ _ _ { s with heap := h'.push (seqObj "list" its.toArray 0) }
  refine wpAny_bind (wpAny_holding (wpAny_call_entry slot_list_sort ⟨_, hoL, rfl⟩ entry_list_sort (SrtO.list_sort_ord SrtO.swo_int hoL hz' (fun h2 => SrtO.ints_sortable hi h2) fun out h1 h2 => ⟨_, rfl, ?_⟩) (args_list_sort _)))
  obtain ⟨k1, k2, k3⟩ := SrtO.ints_out hi h1 h2
  refine wpAny_pure ⟨_, rfl, ?_⟩
  obtain ⟨ep, he'⟩ := sortedHeap_at (out := out.toArray) hoL
  have old : ∀ b o, h'.get? b = some o → (sortedHeap (h'.push (seqObj "list" its.toArray 0)) h'.objs.size its out.toArray).get? b = some o := fun b o e => by
    have hlt := Heap.lt_size e
    rw [sortedHeap_old (Nat.ne_of_lt hlt) (by rw [Heap.size_push]; exact Nat.lt_succ_of_lt hlt)]
    exact Heap.get?_push_of_some _ e
  have hlen : ((out.map SrtO.iv).map V.int).length ≤ sizeLine := by rw [List.length_map, k2.length_eq]; exact Nat.le_of_lt (Nat.lt_of_le_of_lt hz (by rw [sizeLine_eq]; decide))
  exact ⟨.ref h'.objs.size, upd H h'.objs.size (.lst ((out.map SrtO.iv).map V.int)), I1.laid (t' := s.toks) old (Nat.le_refl _) ⟨hlen, out, ep, vals_of_ints k1, he'⟩, rfl, q _ _ k2 k3 (I1.hok.fresh (Nat.le_refl _))⟩
end
end Kx

set_option Elab.async false
set_option linter.all false
set_option maxRecDepth 100000
set_option maxHeartbeats 4000000
namespace Kri
open PySem PySem.Spec PyProof.Rows L2 Kg Kd Kr Kf Kc
/-! ### ascending ints -/
theorem asc_iff : ∀ {l : List Int} {n lo : Int}, asc n lo (l.map PyData.int) = true ↔ l.Pairwise (· < ·) ∧ ∀ x ∈ l, lo ≤ x ∧ x < n
  | [], _, _ => ⟨fun _ => ⟨.nil, fun x hx => nomatch hx⟩, fun _ => rfl⟩
  | a :: l, n, lo => by
    have ih := asc_iff (l := l) (n := n) (lo := a + 1)
    show (if a < lo ∨ n ≤ a then false else asc n (a + 1) (l.map PyData.int)) = true ↔ _
    by_cases c : a < lo ∨ n ≤ a
    · rw [if_pos c]
      exact ⟨fun z => (nomatch z), fun z => by have := z.2 a (List.mem_cons_self ..); omega⟩
    · rw [if_neg c, ih, List.pairwise_cons]
      constructor
      · rintro ⟨h1, h2⟩
        refine ⟨⟨fun x hx => by have := h2 x hx; omega, h1⟩, fun x hx => ?_⟩
        rcases List.mem_cons.mp hx with z | z
        · omega
        · have := h2 x z; omega
      · rintro ⟨⟨h0, h1⟩, h2⟩
        exact ⟨h1, fun x hx => by have := h0 x hx; have := h2 x (List.mem_cons_of_mem _ hx); omega⟩
theorem asc_nums : ∀ {ds : List PyData} {n lo : Int}, asc n lo ds = true → ds.all isNum = true
  | [], _, _, _ => rfl
  | .int i :: ds, n, lo, h => by
    have h' : (if i < lo ∨ n ≤ i then false else asc n (i + 1) ds) = true := h
    by_cases c : i < lo ∨ n ≤ i
    · rw [if_pos c] at h'; exact nomatch h'
    · rw [if_neg c] at h'
      rw [List.all_cons, asc_nums h']; rfl
  | .none :: _, _, _, h => nomatch h
  | .bool _ :: _, _, _, h => nomatch h
  | .str _ :: _, _, _, h => nomatch h
  | .list _ :: _, _, _, h => nomatch h
  | .tuple _ :: _, _, _, h => nomatch h
  | .dict _ :: _, _, _, h => nomatch h
theorem nums_ints : ∀ {ds : List PyData}, ds.all isNum = true → ∃ l : List Int, ds = l.map PyData.int
  | [], _ => ⟨[], rfl⟩
  | d :: ds, h => by
    rw [List.all_cons, Bool.and_eq_true] at h
    obtain ⟨l, e⟩ := nums_ints h.2
    have h1 := h.1
    cases d with
    | int i => exact ⟨i :: l, by rw [e]; rfl⟩
    | _ => exact nomatch h1
theorem das_int {av : Addr → Prop} {H : Hp} : ∀ {l : List Int} {vs : List V}, DaAll av H vs (l.map PyData.int) → vs = l.map V.int
  | [], _, .nil => rfl
  | n :: l, _, .cons h r => by
    cases h
    rw [das_int r]; rfl
theorem iasc_uniq : ∀ {l m : List Int}, l.Pairwise (· < ·) → m.Pairwise (· < ·) → (∀ x, x ∈ l ↔ x ∈ m) → l = m
  | [], [], _, _, _ => rfl
  | [], b :: m, _, _, h => absurd ((h b).mpr (List.mem_cons_self ..)) (by simp)
  | a :: l, [], _, _, h => absurd ((h a).mp (List.mem_cons_self ..)) (by simp)
  | a :: l, b :: m, hl, hm, h => by
    rw [List.pairwise_cons] at hl hm
    have e : a = b := by
      rcases List.mem_cons.mp ((h a).mp (List.mem_cons_self ..)) with z | z
      · exact z
      · rcases List.mem_cons.mp ((h b).mpr (List.mem_cons_self ..)) with y | y
        · exact y.symm
        · have := hm.1 a z; have := hl.1 b y; omega
    subst e
    congr 1
    refine iasc_uniq hl.2 hm.2 fun x => ⟨fun z => ?_, fun z => ?_⟩
    · rcases List.mem_cons.mp ((h x).mp (List.mem_cons_of_mem _ z)) with y | y
      · have := hl.1 x z; omega
      · exact y
    · rcases List.mem_cons.mp ((h x).mpr (List.mem_cons_of_mem _ z)) with y | y
      · have := hm.1 x z; omega
      · exact y
theorem eqv_ints : ∀ l m : List Int, PyData.eqvAll (l.map PyData.int) (m.map PyData.int) = decide (l = m)
  | [], [] => by simp [PyData.eqvAll]
  | [], _ :: _ => by simp [PyData.eqvAll]
  | _ :: _, [] => by simp [PyData.eqvAll]
  | a :: l, b :: m => by
    have z := eqv_ints l m
    simp only [List.map_cons, PyData.eqvAll, z, PyData.eqv]
    by_cases h : a = b
    · subst h; simp
    · simp [h]
/-- the first and the last of an ascending list -/
theorem ends_iff {a : Int} {l : List Int} {n : Int} (h : (a :: l).Pairwise (· < ·)) : (∀ x ∈ a :: l, 0 ≤ x ∧ x < n) ↔ 0 ≤ a ∧ (a :: l).getLast (by simp) < n := by
  have key : ∀ {a : Int} {l : List Int}, (a :: l).Pairwise (· < ·) → ∀ x ∈ a :: l, a ≤ x ∧ x ≤ (a :: l).getLast (by simp) := by
    intro a l
    induction l generalizing a with
    | nil => intro _ x hx; simp at hx; subst hx; simp
    | cons b l ih =>
      intro h x hx
      rw [List.pairwise_cons] at h
      have z := ih h.2
      rw [List.getLast_cons (by simp)]
      rcases List.mem_cons.mp hx with y | y
      · subst y
        have := h.1 b (List.mem_cons_self ..)
        have := (z b (List.mem_cons_self ..)).2
        omega
      · have := h.1 b (List.mem_cons_self ..)
        have := z x y
        omega
  constructor
  · intro z
    exact ⟨(z a (List.mem_cons_self ..)).1, (z _ (List.getLast_mem (by simp))).2⟩
  · rintro ⟨z1, z2⟩ x hx
    have := key h x hx
    omega
theorem lay_intsT (l : List Int) : SeqAt.shaped (.tuple (l.map PyData.int)) = true := shaped_of (Ku.lay_ints l) (by show PyData.depthAll (l.map PyData.int) + 1 ≤ 64; rw [Ku.dep_ints]; decide)
theorem last_at {a0 : Int} {l0 : List Int} : atI ((a0 :: l0).map V.int) (-1) = some (V.int ((a0 :: l0).getLast (by simp))) := by
  have e9 : ((a0 :: l0).dropLast ++ [(a0 :: l0).getLast (by simp)]) = a0 :: l0 := List.dropLast_concat_getLast (by simp)
  have z := atI_last (((a0 :: l0).dropLast).map V.int) (V.int ((a0 :: l0).getLast (by simp)))
  have e11 : ((a0 :: l0).dropLast).map V.int ++ [V.int ((a0 :: l0).getLast (by simp))] = (a0 :: l0).map V.int := by
    have y := congrArg (List.map V.int) e9
    rwa [List.map_append] at y
  rwa [e11] at z
end Kri

set_option Elab.async false
set_option linter.all false
set_option maxRecDepth 100000
set_option maxHeartbeats 4000000
/-! repr of data, at any depth. -/
namespace Kd
open PySem PySem.Spec PyProof.Rows L2 Kg
section
variable {X : Cx} {pins : List (Addr × Obj)} {σ : L2.St} {H : Hp} {s : Shared}
theorem reads0 {P : Program} {w : World} {a : Addr} (ok : HOk P w H s.heap) (e : H a = some (.dK [])) : Reads s.heap (.ref a) (.dict []) [a] := by
  obtain ⟨_, hsys, vs, kv, o, es, ep, ho, hex, hdt, _, prs, _⟩ := (show ObjOk P w H s.heap a (.dK []) from ok a _ e)
  cases kv
  have el : es.toList = [] := by cases hh : es.toList with
    | nil => rfl
    | cons _ _ => rw [hh] at prs; cases prs
  exact Reads.dict (as := []) (bs := []) ho hex.1 hdt (by rw [el]; exact .nil) (by rw [el]; exact .nil)
theorem reads1 {P : Program} {w : World} {a : Addr} (ok : HOk P w H s.heap) (e : H a = some (.dK [(Sum.inl 0, V.int 1)])) : Reads s.heap (.ref a) (.dict [(.int 0, .int 1)]) [a] := by
  obtain ⟨_, hsys, vs, kv, o, es, ep, ho, hex, hdt, _, prs, _⟩ := (show ObjOk P w H s.heap a (.dK [(Sum.inl 0, V.int 1)]) from ok a _ e)
  cases kv with
  | @cons p qv l1 l2 hh tt =>
    cases tt
    obtain ⟨e1, t1, e2⟩ := hh
    obtain ⟨qk, qw⟩ := qv
    have e1' : qk = Sum.inl 0 := e1.symm
    have e2' : qw = Value.int 1 t1 := e2
    subst e1' e2'
    cases hl : es.toList with
    | nil => rw [hl] at prs; cases prs
    | cons en er =>
      rw [hl] at prs
      cases prs with
      | cons z1 z2 z3 =>
        cases z3
        obtain ⟨tk, z1'⟩ := Value.isInt_shape (k := 0) (v := en.key) z1
        refine Reads.dict (as := []) (bs := []) ho hex.1 hdt ?_ ?_
        · rw [hl]
          show ReadsAll s.heap [en.key] [.int 0] ([] ++ [])
          rw [z1']
          exact .cons (.int 0 tk) .nil
        · rw [hl]
          show ReadsAll s.heap [en.val] [.int 1] ([] ++ [])
          rw [z2]
          exact .cons (.int 1 t1) .nil
mutual
theorem Da.reads {P : Program} {w : World} (ok : HOk P w H s.heap) {av : Addr → Prop} : ∀ {v : V} {d : PyData}, Da av H v d → ∀ u, RelV v u → ∃ as, Reads s.heap u d as ∧ ∀ a ∈ as, H a ≠ none
  | _, _, .non, u, r => by cases (show u = Value.none from r); exact ⟨[], .none, fun a z => nomatch z⟩
  | _, _, .bl b, u, r => by cases (show u = Value.bool b from r); exact ⟨[], .bool b, fun a z => nomatch z⟩
  | _, _, .int i, u, r => by obtain ⟨t, rfl⟩ := r; exact ⟨[], .int i t, fun a z => nomatch z⟩
  | _, _, .str x, u, r => by obtain ⟨t, rfl⟩ := r; exact ⟨[], .str x t, fun a z => nomatch z⟩
  | _, _, .lst (a := a) (xs := xs) n h z q, u, r => by
    cases (show u = Value.ref a from r)
    obtain ⟨_, its, m, rv, hg⟩ := (show ObjOk P w H s.heap a (.lst xs) from ok a _ h)
    obtain ⟨as, h1, h2⟩ := DaAll.reads ok q its rv
    refine ⟨a :: as, .list hg rfl rfl (by simpa using h1), fun b hb => ?_⟩
    rcases List.mem_cons.mp hb with y | y
    · rw [y, h]; simp
    · exact h2 b y
  | _, _, .tup (a := a) (xs := xs) n h z q, u, r => by
    cases (show u = Value.ref a from r)
    obtain ⟨_, its, rv, o, ho, hc, m, hd⟩ := (show ObjOk P w H s.heap a (.tup xs) from ok a _ h)
    obtain ⟨as, h1, h2⟩ := DaAll.reads ok q its rv
    exact ⟨as, .tuple ho hc hd (by simpa using h1), h2⟩
  | _, _, .dc0 (a := a) n h, u, r => by
    cases (show u = Value.ref a from r)
    exact ⟨[a], reads0 ok h, fun b hb => by rw [List.mem_singleton.mp hb, h]; simp⟩
  | _, _, .dc1 (a := a) n h, u, r => by
    cases (show u = Value.ref a from r)
    exact ⟨[a], reads1 ok h, fun b hb => by rw [List.mem_singleton.mp hb, h]; simp⟩
theorem DaAll.reads {P : Program} {w : World} (ok : HOk P w H s.heap) {av : Addr → Prop} : ∀ {vs : List V} {ds : List PyData}, DaAll av H vs ds → ∀ us, Vals vs us → ∃ as, ReadsAll s.heap us ds as ∧ ∀ a ∈ as, H a ≠ none
  | _, _, .nil, us, r => by cases r; exact ⟨[], .nil, fun a z => nomatch z⟩
  | _, _, .cons h q, us, r => by
    cases r with
    | cons r1 r2 =>
      obtain ⟨as, h1, h2⟩ := Da.reads ok h _ r1
      obtain ⟨bs, h3, h4⟩ := DaAll.reads ok q _ r2
      refine ⟨as ++ bs, .cons h1 h3, fun a ha => ?_⟩
      rcases List.mem_append.mp ha with y | y
      · exact h2 a y
      · exact h4 a y
end
def rReprA : List V → Hp → VK → Prop := fun xs H Q => ∃ (av : Addr → Prop) (a : Addr) (d : PyData), xs = [.ref a] ∧ Da av H (.ref a) d ∧ d.showable = true ∧ d.depth ≤ 60 ∧ d.shown.length ≤ sizeLine ∧ Q (.str d.shown) H
theorem call_reprA (hg : X.A.guards = some []) (hu : X.A.units + 64 < cLine) (hs : ∃ o, X.base.get? sysModules = some o) : CallR X (.builtin "repr") rReprA := by
  intro pins s σ H xs us Q I r h
  obtain ⟨av, a, d, rfl, hd, sh, dp, ln, q⟩ := h
  obtain ⟨u, rfl, rx⟩ := vals1 r
  cases rx
  obtain ⟨as, h1, h2⟩ := Da.reads I.hok hd (.ref a) rfl
  obtain ⟨o, ho⟩ := hs
  have hn := (I.bs _ _ ho).2
  exact repr_of_reads' h1 sh (fun _ z => h2 _ z hn) hg (by omega) (fun _ _ z => z) (fun h' u tk k => ⟨.str d.shown, H, I.kept (t' := tk) k, ⟨u, rfl⟩, q⟩) ln
end
end Kd

set_option Elab.async false
set_option linter.all false
set_option maxRecDepth 100000
set_option maxHeartbeats 4000000
namespace Kd
open PySem PySem.Spec PyProof.Rows L2 Kg
/-! ### how long data are when shown -/
theorem shownAll_map : ∀ ds : List PyData, PyData.shownAll ds = ds.map PyData.shown
  | [] => rfl
  | d :: ds => by show PyData.shown d :: PyData.shownAll ds = _; rw [shownAll_map ds]; rfl
structure Bd (d : PyData) (n D : Nat) : Prop where
  dep : d.depth ≤ D
  sho : d.showable = true
  len : d.shown.length ≤ n
theorem Bd.mono {d : PyData} {n D m E : Nat} (h : Bd d n D) (h1 : n ≤ m) (h2 : D ≤ E) : Bd d m E := ⟨Nat.le_trans h.dep h2, h.sho, Nat.le_trans h.len h1⟩
theorem bd_depA : ∀ {ds : List PyData} {D : Nat}, (∀ x ∈ ds, x.depth ≤ D) → PyData.depthAll ds ≤ D
  | [], _, _ => Nat.zero_le _
  | d :: ds, D, h => by
    show max d.depth (PyData.depthAll ds) ≤ D
    have := h d (List.mem_cons_self ..)
    have := bd_depA (ds := ds) (D := D) (fun x hx => h x (List.mem_cons_of_mem _ hx))
    omega
theorem bd_shoA : ∀ {ds : List PyData}, (∀ x ∈ ds, x.showable = true) → PyData.showableAll ds = true
  | [], _ => rfl
  | d :: ds, h => by
    show (PyData.showable d && PyData.showableAll ds) = true
    rw [h d (List.mem_cons_self ..), bd_shoA (ds := ds) (fun x hx => h x (List.mem_cons_of_mem _ hx))]; rfl
theorem piled_le : ∀ {ts : List Str} {B k : Nat}, (∀ t ∈ ts, t.length ≤ B) → ts.length ≤ k → piled ts ≤ k * (B + 2)
  | [], _, _, _, _ => by simp [piled]
  | t :: ts, B, k, h, hk => by
    have h1 := h t (List.mem_cons_self ..)
    obtain ⟨k', rfl⟩ : ∃ k', k = k' + 1 := ⟨k - 1, by rw [List.length_cons] at hk; omega⟩
    have h2 := piled_le (ts := ts) (B := B) (k := k') (fun x hx => h x (List.mem_cons_of_mem _ hx)) (by rw [List.length_cons] at hk; omega)
    have e : piled (t :: ts) = t.length + 2 + piled ts := by simp [piled]
    rw [e, Nat.add_mul]; omega
theorem tup_len {ts : List Str} {B k : Nat} (h : ∀ t ∈ ts, t.length ≤ B) (hk : ts.length ≤ k) : (tupleText ts).length ≤ 3 + k * (B + 2) := by
  have hp := piled_le h hk
  have e : (tupleText ts).length = 1 + (Str.join ", " ts).length + ((if ts.length == 1 then ",)" else ")" : String) : Str).length := by
    unfold tupleText
    rw [strLen_append, strLen_append]; rfl
  have e2 : ((if ts.length == 1 then ",)" else ")" : String) : Str).length ≤ 2 := by split <;> decide
  by_cases hn : ts = []
  · subst hn
    have e3 : (Str.join ", " ([] : List Str)).length = 0 := rfl
    omega
  · have h2 := join_length_add ts hn
    omega
theorem textFrom_le : ∀ (ts : List Str) (k : Nat) (acc : Str) (B : Nat), (∀ t ∈ ts, t.length ≤ B) → (textFrom k acc ts).length ≤ acc.length + ts.length * (B + 2)
  | [], k, acc, B, _ => by show acc.length ≤ _; omega
  | t :: r, k, acc, B, h => by
    have ih := textFrom_le r (k + 1) (acc ++ (if k > 0 then ", " else "" : String) ++ t) B (fun x hx => h x (List.mem_cons_of_mem _ hx))
    have e : (acc ++ (if k > 0 then ", " else "" : String) ++ t).length ≤ acc.length + 2 + t.length := by
      rw [strLen_append, strLen_append]
      have : ((if k > 0 then ", " else "" : String) : Str).length ≤ 2 := by split <;> decide
      omega
    have h1 := h t (List.mem_cons_self ..)
    show (textFrom (k + 1) (acc ++ (if k > 0 then ", " else "" : String) ++ t) r).length ≤ _
    rw [List.length_cons, Nat.add_mul]; omega
theorem lst_len {ts : List Str} {B k : Nat} (h : ∀ t ∈ ts, t.length ≤ B) (hk : ts.length ≤ k) : (listText ts).length ≤ 3 + k * (B + 2) := by
  have z := textFrom_le ts 0 "[" B h
  have e : (listText ts).length = (textFrom 0 "[" ts).length + 1 := by
    show (textFrom 0 "[" ts ++ "]").length = _
    rw [strLen_append]; rfl
  have e2 : (("[" : String) : Str).length = 1 := rfl
  have e3 : ts.length * (B + 2) ≤ k * (B + 2) := Nat.mul_le_mul_right _ hk
  omega
theorem bd_tup {ds : List PyData} {n D k : Nat} (h : ∀ x ∈ ds, Bd x n D) (hk : ds.length ≤ k) : Bd (.tuple ds) (3 + k * (n + 2)) (D + 1) := by
  refine ⟨?_, bd_shoA fun x hx => (h x hx).sho, ?_⟩
  · show PyData.depthAll ds + 1 ≤ D + 1
    have := bd_depA (D := D) fun x hx => (h x hx).dep
    omega
  · show (tupleText (PyData.shownAll ds)).length ≤ _
    rw [shownAll_map]
    refine tup_len (fun t ht => ?_) (by rw [List.length_map]; exact hk)
    obtain ⟨x, hx, rfl⟩ := List.mem_map.mp ht
    exact (h x hx).len
theorem bd_lst {ds : List PyData} {n D k : Nat} (h : ∀ x ∈ ds, Bd x n D) (hk : ds.length ≤ k) : Bd (.list ds) (3 + k * (n + 2)) (D + 1) := by
  refine ⟨?_, bd_shoA fun x hx => (h x hx).sho, ?_⟩
  · show PyData.depthAll ds + 1 ≤ D + 1
    have := bd_depA (D := D) fun x hx => (h x hx).dep
    omega
  · show (listText (PyData.shownAll ds)).length ≤ _
    rw [shownAll_map]
    refine lst_len (fun t ht => ?_) (by rw [List.length_map]; exact hk)
    obtain ⟨x, hx, rfl⟩ := List.mem_map.mp ht
    exact (h x hx).len
theorem bd_int {i : Int} (h1 : -1 ≤ i) (h2 : i ≤ 6) : Bd (.int i) 2 0 := by
  have : i = -1 ∨ i = 0 ∨ i = 1 ∨ i = 2 ∨ i = 3 ∨ i = 4 ∨ i = 5 ∨ i = 6 := by omega
  rcases this with h | h | h | h | h | h | h | h <;> subst h <;> exact ⟨by decide +kernel, by decide +kernel, by decide +kernel⟩
/-- an item of elders -/
def Sml (d : PyData) : Prop := Bd d 200 4
/-- one of the four parts -/
structure Prt (d : PyData) : Prop where
  bd : Bd d 4000 5
  its : ∀ ds, d = .tuple ds → ds.length ≤ 6 ∧ ∀ x ∈ ds, Sml x
theorem prt_of {d : PyData} (h : Bd d 4000 5) (n : isTup d = false) : Prt d := ⟨h, fun ds e => by rw [e] at n; exact nomatch n⟩
theorem prt_tup {ds : List PyData} (h : ∀ x ∈ ds, Sml x) (hl : ds.length ≤ 6) : Prt (.tuple ds) :=
  ⟨(bd_tup (k := 6) h hl).mono (by decide) (by decide), fun es e => by cases e; exact ⟨hl, h⟩⟩
theorem sml_tup {ds : List PyData} (h : ∀ x ∈ ds, Bd x 2 0) (hl : ds.length ≤ 6) : Sml (.tuple ds) := (bd_tup (k := 6) h hl).mono (by decide) (by decide)
theorem sml_int {i : Int} (h1 : -1 ≤ i) (h2 : i ≤ 6) : Sml (.int i) := (bd_int h1 h2).mono (by decide) (by decide)
/-! ### places -/
mutual
theorem Da.more {av bv : Addr → Prop} {H : Hp} (k : ∀ a, bv a → H a = none) : ∀ {v : V} {d : PyData}, Da av H v d → Da (fun a => av a ∨ bv a) H v d
  | _, _, .non => .non
  | _, _, .bl b => .bl b
  | _, _, .int i => .int i
  | _, _, .str x => .str x
  | _, _, .lst n h l r => .lst (fun z => z.elim n fun y => by rw [k _ y] at h; cases h) h l (DaAll.more k r)
  | _, _, .tup n h l r => .tup (fun z => z.elim n fun y => by rw [k _ y] at h; cases h) h l (DaAll.more k r)
  | _, _, .dc0 n h => .dc0 (fun z => z.elim n fun y => by rw [k _ y] at h; cases h) h
  | _, _, .dc1 n h => .dc1 (fun z => z.elim n fun y => by rw [k _ y] at h; cases h) h
theorem DaAll.more {av bv : Addr → Prop} {H : Hp} (k : ∀ a, bv a → H a = none) : ∀ {vs : List V} {ds : List PyData}, DaAll av H vs ds → DaAll (fun a => av a ∨ bv a) H vs ds
  | _, _, .nil => .nil
  | _, _, .cons h r => .cons (Da.more k h) (DaAll.more k r)
end
theorem DaAll.take {av : Addr → Prop} {H : Hp} : ∀ {vs : List V} {ds : List PyData} (n : Nat), DaAll av H vs ds → DaAll av H (vs.take n) (ds.take n)
  | _, _, 0, _ => by rw [List.take_zero, List.take_zero]; exact .nil
  | _, _, n + 1, .nil => by rw [List.take_nil, List.take_nil]; exact .nil
  | _, _, n + 1, .cons h r => by rw [List.take_succ_cons, List.take_succ_cons]; exact .cons h (DaAll.take n r)
theorem DaAll.drop {av : Addr → Prop} {H : Hp} : ∀ {vs : List V} {ds : List PyData} (n : Nat), DaAll av H vs ds → DaAll av H (vs.drop n) (ds.drop n)
  | _, _, 0, h => by rw [List.drop_zero, List.drop_zero]; exact h
  | _, _, n + 1, .nil => by rw [List.drop_nil, List.drop_nil]; exact .nil
  | _, _, n + 1, .cons h r => by rw [List.drop_succ_cons, List.drop_succ_cons]; exact DaAll.drop n r
theorem DaAll.set {av : Addr → Prop} {H : Hp} {v : V} {d : PyData} (hv : Da av H v d) : ∀ {vs : List V} {ds : List PyData} (n : Nat), DaAll av H vs ds → DaAll av H (vs.set n v) (ds.set n d)
  | _, _, _, .nil => .nil
  | _, _, 0, .cons h r => .cons hv r
  | _, _, n + 1, .cons h r => .cons h (DaAll.set hv n r)
/-! ### displays over what stands there -/
def tDatA (pre : L2.St → Hp → Prop) (av : Addr → Prop) (d : PyData) : TE := fun σ H Q => pre σ H ∧ ∀ v H', Same H H' → Da av H' v d → Q v H'
def tDatsA (pre : L2.St → Hp → Prop) (av : Addr → Prop) (ds : List PyData) : TA := fun σ H Q => pre σ H ∧ ∀ vs H', Same H H' → DaAll av H' vs ds → Q vs H'
section
variable {X : Cx} {pre : L2.St → Hp → Prop} {av : Addr → Prop}
theorem pda_of {e : Expr} {te : TE} {d : PyData} (h : PE X e te) (i : ∀ σ H Q, pre σ H → (∀ v H', Same H H' → Da av H' v d → Q v H') → te σ H Q) : PE X e (tDatA pre av d) := pe_imp h fun σ H Q z => i σ H Q z.1 z.2
theorem pda_con {e : Expr} {d : PyData} (ht : ∀ σ H, pre σ H → ∀ a, av a → H a ≠ none) (h : PE X e (tDat d)) : PE X e (tDatA pre av d) := pda_of h fun σ H Q p z v H' s hd => z v H' s (hd.sub (ht σ H p))
theorem pdas_nil : PA X [] (tDatsA pre av []) := pa_imp pa_nil fun _ H _ z => z.2 _ H (Same.refl H) .nil
theorem pdas_cons {e : Expr} {es : List Expr} {d : PyData} {ds : List PyData} (st : Stays pre) (h : PE X e (tDatA pre av d)) (r : PA X es (tDatsA pre av ds)) (hs : starEach (e :: es) X.env = (false, eval e X.env) :: starEach es X.env := by rfl) : PA X (e :: es) (tDatsA pre av (d :: ds)) :=
  pa_imp (pa_cons h r hs) fun σ H Q z => ⟨z.1, fun v H1 s1 h1 => ⟨st σ H H1 s1 z.1, fun vs H2 s2 h2 => z.2 _ H2 (s1.trans s2) (.cons (h1.same s2) h2)⟩⟩
theorem pda_tup {es : List Expr} {ds : List PyData} {x1} {pos : Pos} (ht : ∀ σ H, pre σ H → ∀ a, av a → H a ≠ none) (h : PA X es (tDatsA pre av ds)) (hl : ds.length ≤ 1000 := by first | decide | simp) : PE X (.Tuple es x1 pos) (tDatA pre av (.tuple ds)) :=
  pe_imp (pe_tup h) fun σ H Q z => ⟨z.1, fun vs H1 s1 h1 => ⟨by rw [h1.length]; exact Nat.le_of_lt (small1000 hl), fun t nt => z.2 _ _ (s1.trans (same_new nt)) (.tup (fun c => ht σ H z.1 t c (s1.free nt)) upd_same (by rw [h1.length]; exact hl) (h1.keep (.of_same (same_new nt))))⟩⟩
theorem pda_lst {es : List Expr} {ds : List PyData} {pos : Pos} (ht : ∀ σ H, pre σ H → ∀ a, av a → H a ≠ none) (h : PA X es (tDatsA pre av ds)) (hl : ds.length ≤ 1000 := by first | decide | simp) : PE X (.List es pos) (tDatA pre av (.list ds)) :=
  pe_imp (pe_lst h) fun σ H Q z => ⟨z.1, fun vs H1 s1 h1 => ⟨by rw [h1.length]; exact Nat.le_of_lt (small1000 hl), fun t nt => z.2 _ _ (s1.trans (same_new nt)) (.lst (fun c => ht σ H z.1 t c (s1.free nt)) upd_same (by rw [h1.length]; exact hl) (h1.keep (.of_same (same_new nt))))⟩⟩
/-- t != () -/
theorem op_neT0 (hu : X.A.units + 64 < cLine) : OpR X (compareOp .NotEq) (fun x y H Q => ∃ a b xs, x = .ref a ∧ y = .ref b ∧ SqT X.K H a xs ∧ SqT X.K H b [] ∧ Q (.bl (!xs.isEmpty)) H) := by
  intro pins s σ H x y v u Q I rx ry h
  obtain ⟨a, b, xs, rfl, rfl, ha, hb, q⟩ := h
  cases rx
  cases ry
  obtain ⟨its, r1, p1, _⟩ := I.tuple ha
  obtain ⟨its2, r2, p2, _⟩ := I.tuple hb
  cases r2
  have R := SeqAt.RcNeAt.tuples (A := X.A) (s := s) (l := a) (b := b) (items := its.toArray) (items2 := ([] : List Value).toArray) (e := fun _ => true) p1 p2 (by omega) (fun j h1 h2 => absurd h2 (by simp))
  have e : (!((List.range (min its.toArray.size ([] : List Value).toArray.size)).all (fun _ => true) && its.toArray.size == ([] : List Value).toArray.size)) = !xs.isEmpty := by
    cases r1 with
    | nil => rfl
    | cons _ _ => simp
  rw [e] at R
  exact R X.prog X.w _ _ ⟨.bl (!xs.isEmpty), H, I, rfl, q⟩
end
end Kd

set_option Elab.async false
set_option linter.all false
set_option maxRecDepth 100000
set_option maxHeartbeats 4000000
/-! Values of any form: repr of each, t == (), one change within. -/
namespace Kd
open PySem PySem.Spec PyProof.Rows L2 Kg
theorem pt_imp {X : Cx} {e : Expr} {t t' : TT} (h : PT X e t) (i : ∀ σ H Q, t' σ H Q → t σ H Q) : PT X e t' := ⟨fun pins s σ H Q I z => h.run pins s σ H Q I (i σ H Q z)⟩
section
variable {X : Cx}
def rReprV : List V → Hp → VK → Prop := fun xs H Q => ∃ (av : Addr → Prop) (v : V) (d : PyData), xs = [v] ∧ Da av H v d ∧ d.showable = true ∧ d.depth ≤ 60 ∧ d.shown.length ≤ sizeLine ∧ Q (.str d.shown) H
theorem call_reprV (hg : X.A.guards = some []) (hu : X.A.units + 64 < cLine) (hs : ∃ o, X.base.get? sysModules = some o) : CallR X (.builtin "repr") rReprV := by
  intro pins s σ H xs us Q I r h
  obtain ⟨av, v, d, rfl, hd, sh, dp, ln, q⟩ := h
  cases hd with
  | non =>
    obtain ⟨u, rfl, rx⟩ := vals1 r
    cases rx
    exact PySem.P.repr_of_none ⟨.str _, H, I.tok _, ⟨_, rfl⟩, q⟩
  | bl b =>
    obtain ⟨u, rfl, rx⟩ := vals1 r
    cases rx
    exact PySem.P.repr_of_bool ⟨.str _, H, I.tok _, ⟨_, rfl⟩, q⟩
  | int i =>
    obtain ⟨u, rfl, t, rfl⟩ := vals1 r
    exact PySem.P.repr_of_int (of_decide_eq_true sh) ⟨.str _, H, I.tok _, ⟨_, rfl⟩, q⟩
  | str x =>
    obtain ⟨u, rfl, t, rfl⟩ := vals1 r
    exact PySem.P.repr_of_str ⟨.str _, H, I.tok _, ⟨_, rfl⟩, q⟩ ln
  | lst h1 h2 h3 h4 => exact call_reprA hg hu hs pins s σ H _ us Q I r ⟨av, _, _, rfl, .lst h1 h2 h3 h4, sh, dp, ln, q⟩
  | tup h1 h2 h3 h4 => exact call_reprA hg hu hs pins s σ H _ us Q I r ⟨av, _, _, rfl, .tup h1 h2 h3 h4, sh, dp, ln, q⟩
  | dc0 h1 h2 => exact call_reprA hg hu hs pins s σ H _ us Q I r ⟨av, _, _, rfl, .dc0 h1 h2, sh, dp, ln, q⟩
  | dc1 h1 h2 => exact call_reprA hg hu hs pins s σ H _ us Q I r ⟨av, _, _, rfl, .dc1 h1 h2, sh, dp, ln, q⟩
/-- t == () -/
theorem op_eqT0 (hu : X.A.units + 64 < cLine) : OpR X (compareOp .Eq) (fun x y H Q => ∃ a b xs, x = .ref a ∧ y = .ref b ∧ SqT X.K H a xs ∧ SqT X.K H b [] ∧ Q (.bl xs.isEmpty) H) := by
  intro pins s σ H x y v u Q I rx ry h
  obtain ⟨a, b, xs, rfl, rfl, ha, hb, q⟩ := h
  cases rx
  cases ry
  obtain ⟨its, r1, p1, _⟩ := I.tuple ha
  obtain ⟨its2, r2, p2, _⟩ := I.tuple hb
  cases r2
  have R := SeqAt.RcAt.tuples (A := X.A) (s := s) (l := a) (b := b) (items := its.toArray) (items2 := ([] : List Value).toArray) (e := fun _ => true) p1 p2 (by omega) (fun j h1 h2 => absurd h2 (by simp))
  have e : ((List.range (min its.toArray.size ([] : List Value).toArray.size)).all (fun _ => true) && its.toArray.size == ([] : List Value).toArray.size) = xs.isEmpty := by
    cases r1 with
    | nil => rfl
    | cons _ _ => simp
  rw [e] at R
  exact R X.prog X.w _ _ ⟨.bl xs.isEmpty, H, I, rfl, q⟩
end
/-! ### how long a datum is when shown, at most -/
mutual
def wt : PyData → Nat
  | .list ds => 3 + wtA ds
  | .tuple ds => 3 + wtA ds
  | .none => 4
  | .bool b => (PyData.bool b).shown.length
  | .int i => (PyData.int i).shown.length
  | .str x => (PyData.str x).shown.length
  | .dict kvs => (PyData.dict kvs).shown.length
def wtA : List PyData → Nat
  | [] => 0
  | d :: ds => wt d + 2 + wtA ds
end
theorem wtA_app : ∀ (a b : List PyData), wtA (a ++ b) = wtA a + wtA b
  | [], b => by rw [List.nil_append]; show _ = 0 + _; omega
  | x :: a, b => by
    show wt x + 2 + wtA (a ++ b) = wt x + 2 + wtA a + wtA b
    rw [wtA_app a b]; omega
theorem wtA_len : ∀ ds : List PyData, 2 * ds.length ≤ wtA ds
  | [] => Nat.le_refl _
  | d :: ds => by
    have := wtA_len ds
    show 2 * (ds.length + 1) ≤ wt d + 2 + wtA ds
    omega
theorem piled_app : ∀ (t : Str) (ts : List Str), piled (t :: ts) = t.length + 2 + piled ts := fun t ts => by simp [piled]
theorem tup_piled (ts : List Str) : (tupleText ts).length ≤ 3 + piled ts := by
  have e : (tupleText ts).length = 1 + (Str.join ", " ts).length + ((if ts.length == 1 then ",)" else ")" : String) : Str).length := by
    unfold tupleText
    rw [strLen_append, strLen_append]; rfl
  have e2 : ((if ts.length == 1 then ",)" else ")" : String) : Str).length ≤ 2 := by split <;> decide
  by_cases hn : ts = []
  · subst hn
    have e3 : (Str.join ", " ([] : List Str)).length = 0 := rfl
    omega
  · have h2 := join_length_add ts hn
    omega
theorem textFrom_piled : ∀ (ts : List Str) (k : Nat) (acc : Str), (textFrom k acc ts).length ≤ acc.length + piled ts
  | [], k, acc => by show acc.length ≤ _; omega
  | t :: r, k, acc => by
    have ih := textFrom_piled r (k + 1) (acc ++ (if k > 0 then ", " else "" : String) ++ t)
    have e : (acc ++ (if k > 0 then ", " else "" : String) ++ t).length ≤ acc.length + 2 + t.length := by
      rw [strLen_append, strLen_append]
      have : ((if k > 0 then ", " else "" : String) : Str).length ≤ 2 := by split <;> decide
      omega
    show (textFrom (k + 1) (acc ++ (if k > 0 then ", " else "" : String) ++ t) r).length ≤ _
    rw [piled_app]; omega
theorem lst_piled (ts : List Str) : (listText ts).length ≤ 3 + piled ts := by
  have z := textFrom_piled ts 0 "["
  have e : (listText ts).length = (textFrom 0 "[" ts).length + 1 := by
    show (textFrom 0 "[" ts ++ "]").length = _
    rw [strLen_append]; rfl
  have e2 : (("[" : String) : Str).length = 1 := rfl
  omega
mutual
theorem shown_wt : ∀ d : PyData, d.shown.length ≤ wt d
  | .none => by show (("None" : String) : Str).length ≤ 4; decide
  | .bool b => Nat.le_refl _
  | .int i => Nat.le_refl _
  | .str x => Nat.le_refl _
  | .dict kvs => Nat.le_refl _
  | .list ds => Nat.le_trans (lst_piled _) (by have := shown_wtA ds; show 3 + piled (PyData.shownAll ds) ≤ 3 + wtA ds; omega)
  | .tuple ds => Nat.le_trans (tup_piled _) (by have := shown_wtA ds; show 3 + piled (PyData.shownAll ds) ≤ 3 + wtA ds; omega)
theorem shown_wtA : ∀ ds : List PyData, piled (PyData.shownAll ds) ≤ wtA ds
  | [] => by show piled [] ≤ 0; simp [piled]
  | d :: ds => by
    show piled (PyData.shown d :: PyData.shownAll ds) ≤ wt d + 2 + wtA ds
    have h1 := shown_wt d
    have h2 := shown_wtA ds
    rw [piled_app]; omega
end
theorem dep_app : ∀ (a b : List PyData), PyData.depthAll (a ++ b) = max (PyData.depthAll a) (PyData.depthAll b)
  | [], b => by rw [List.nil_append]; show _ = max 0 _; omega
  | x :: a, b => by
    show max x.depth (PyData.depthAll (a ++ b)) = max (max x.depth (PyData.depthAll a)) (PyData.depthAll b)
    rw [dep_app a b]; omega
theorem sho_app : ∀ (a b : List PyData), PyData.showableAll (a ++ b) = (PyData.showableAll a && PyData.showableAll b)
  | [], b => rfl
  | x :: a, b => by
    show (PyData.showable x && PyData.showableAll (a ++ b)) = ((PyData.showable x && PyData.showableAll a) && PyData.showableAll b)
    rw [sho_app a b, Bool.and_assoc]
/-- a datum that can be shown, and how long and deep it is at most -/
structure Fi (d : PyData) (W E : Nat) : Prop where
  sho : d.showable = true
  len : wt d ≤ W
  dep : d.depth ≤ E
theorem Fi.mono {d : PyData} {W E W' E' : Nat} (h : Fi d W E) (h1 : W ≤ W') (h2 : E ≤ E') : Fi d W' E' := ⟨h.sho, Nat.le_trans h.len h1, Nat.le_trans h.dep h2⟩
/-! ### a tuple with a place told -/
theorem DaAll.app {av : Addr → Prop} {H : Hp} : ∀ {xs ys : List V} {ds es : List PyData}, DaAll av H xs ds → DaAll av H ys es → DaAll av H (xs ++ ys) (ds ++ es)
  | _, _, _, _, .nil, r => r
  | _, _, _, _, .cons h t, r => .cons h (DaAll.app t r)
theorem DaAll.at_ {av : Addr → Prop} {H : Hp} : ∀ {xs : List V} {ds : List PyData} {k : Nat}, DaAll av H xs ds → k < xs.length → ∃ xs1 v xs2 ds1 x ds2, xs = xs1 ++ v :: xs2 ∧ ds = ds1 ++ x :: ds2 ∧ xs1.length = k ∧ DaAll av H xs1 ds1 ∧ Da av H v x ∧ DaAll av H xs2 ds2
  | _, _, k, .nil, h => absurd h (Nat.not_lt_zero _)
  | _, _, 0, .cons (v := v) (vs := vs) (d := d) (ds := ds) h r, _ => ⟨[], v, vs, [], d, ds, rfl, rfl, rfl, .nil, h, r⟩
  | _, _, k + 1, .cons (v := v) (vs := vs) (d := d) (ds := ds) h r, hk => by
    obtain ⟨xs1, u, xs2, ds1, x, ds2, e1, e2, l, a, b, c⟩ := DaAll.at_ (k := k) r (by rw [List.length_cons] at hk; omega)
    exact ⟨v :: xs1, u, xs2, d :: ds1, x, ds2, by rw [e1]; rfl, by rw [e2]; rfl, by rw [List.length_cons, l], .cons h a, b, c⟩
theorem cut_a {xs ys : List V} {v : V} : cutV (xs ++ v :: ys) none (some ((xs.length : Nat) : Int)) = xs := by
  unfold cutV
  rw [HT.sIx_none, HT.sIx_nat, List.drop_zero, Nat.sub_zero, Nat.min_eq_left (by rw [List.length_append]; omega), List.take_left']
  rfl
theorem cut_b {xs ys : List V} {v : V} : cutV (xs ++ v :: ys) (some (((xs.length : Nat) : Int) + 1)) none = ys := by
  have e : ((xs.length : Nat) : Int) + 1 = ((xs.length + 1 : Nat) : Int) := by omega
  have e2 : xs ++ v :: ys = (xs ++ [v]) ++ ys := by simp
  unfold cutV
  rw [e, HT.sIx_none, HT.sIx_nat, Nat.min_eq_left (by rw [List.length_append, List.length_cons]; omega), e2, List.drop_left' (by rw [List.length_append]; rfl), List.take_of_length_le (by rw [List.length_append, List.length_append, List.length_singleton]; omega)]
theorem cut_c {xs ys : List V} {v : V} : cutV (xs ++ v :: ys) (some ((xs.length : Nat) : Int)) (some (((xs.length : Nat) : Int) + 1)) = [v] := by
  have e : ((xs.length : Nat) : Int) + 1 = ((xs.length + 1 : Nat) : Int) := by omega
  unfold cutV
  rw [e, HT.sIx_nat, HT.sIx_nat, Nat.min_eq_left (by rw [List.length_append, List.length_cons]; omega), Nat.min_eq_left (by rw [List.length_append, List.length_cons]; omega), List.drop_left' rfl]
  rw [show xs.length + 1 - xs.length = 1 by omega]
  rfl
end Kd

set_option Elab.async false
set_option linter.all false
set_option maxRecDepth 100000
set_option maxHeartbeats 8000000
/-! what is due of a text, line by line -/
namespace Kc
open PySem PySem.Spec PyProof.Rows L2 Kg Kd Kr Kf Kl Kx TL
abbrev sDu46 : Stmt := topS 40
abbrev nDu46 : List Str := ["_law_value", "_law_four_here", "_law_several", "_law_number_here", "_law_line_here", "_law_words", "_law_word", "_law_told_here", "_law_many", "_law_most", "_law_elders"]
theorem scDu46 : FnScope nDu46 ["_law_value"] (defScope sDu46) := ⟨rfl, rfl, rfl, by decide +kernel, rfl, by decide +kernel, by decide +kernel⟩
/-! ### what is due, of the lines with words -/
/-- the first wrong line of a kind -/
def fbR (sv : Bool) : Nat → Lns → Option (Nat × Nat)
  | _, [] => none
  | k, p :: ps => if klC p.2 k sv = 0 then fbR sv (k + 1) ps else some (p.1, klC p.2 k sv)
def dueR : Lns → PyData
  | [] => .list [.int 0, .int 1]
  | (n0, w0) :: ps => if w0 = [severalL] ∨ w0 = [singleL] then
      match fbR (decide (w0 = [severalL])) 0 ps with
      | some (n, c) => .list [.int ((n : Nat) : Int), .int ((c : Nat) : Int)]
      | none => if ps = [] then .list [.int 0, .int 4] else .tuple [pdE (esR ps), pdI (clR ps), pdI (hoR ps), .bool (decide (w0 = [severalL]))]
    else .list [.int ((n0 : Nat) : Int), .int 2]
theorem dueR_cons (n0 : Nat) (w0 : List (List Nat)) (ps : Lns) : dueR ((n0, w0) :: ps) = if w0 = [severalL] ∨ w0 = [singleL] then
      match fbR (decide (w0 = [severalL])) 0 ps with
      | some (n, c) => .list [.int ((n : Nat) : Int), .int ((c : Nat) : Int)]
      | none => if ps = [] then .list [.int 0, .int 4] else .tuple [pdE (esR ps), pdI (clR ps), pdI (hoR ps), .bool (decide (w0 = [severalL]))]
    else .list [.int ((n0 : Nat) : Int), .int 2] := rfl
/-- all these lines are right -/
def gdR (sv : Bool) (ps : Lns) : Prop := ∀ (i : Nat) (p : Nat × List (List Nat)), ps[i]? = some p → klC p.2 i sv = 0
theorem fbR_go {sv : Bool} : ∀ (ps rest : Lns) (k : Nat), (∀ (i : Nat) (p : Nat × List (List Nat)), ps[i]? = some p → klC p.2 (k + i) sv = 0) → fbR sv k (ps ++ rest) = fbR sv (k + ps.length) rest
  | [], rest, k, _ => rfl
  | p :: ps, rest, k, h => by
    show (if klC p.2 k sv = 0 then fbR sv (k + 1) (ps ++ rest) else _) = _
    rw [if_pos (show klC p.2 k sv = 0 from h 0 p rfl), fbR_go ps rest (k + 1) fun i q hq => by have := h (i + 1) q (by simpa using hq); rwa [show k + 1 + i = k + (i + 1) by omega], List.length_cons, show k + 1 + ps.length = k + (ps.length + 1) by omega]
theorem fbR_gd {sv : Bool} {ps : Lns} (h : gdR sv ps) (rest : Lns) : fbR sv 0 (ps ++ rest) = fbR sv ps.length rest := by
  rw [fbR_go ps rest 0 fun i p hp => by rw [Nat.zero_add]; exact h i p hp, Nat.zero_add]
theorem sev_ne : ([severalL] : List (List Nat)) ≠ [singleL] := by decide
theorem first_or (sv : Bool) : ([firstL sv] : List (List Nat)) = [severalL] ∨ ([firstL sv] : List (List Nat)) = [singleL] := by cases sv; exact .inr rfl; exact .inl rfl
theorem first_dec (sv : Bool) : decide (([firstL sv] : List (List Nat)) = [severalL]) = sv := by cases sv; exact decide_eq_false fun z => sev_ne z.symm; exact decide_eq_true rfl
theorem dueR_first {n0 : Nat} {w0 : List (List Nat)} {ps : Lns} (h1 : w0 ≠ [severalL]) (h2 : w0 ≠ [singleL]) : dueR ((n0, w0) :: ps) = .list [.int ((n0 : Nat) : Int), .int 2] := by
  rw [dueR_cons, if_neg fun z => z.elim h1 h2]
theorem dueR_bad {n0 : Nat} {sv : Bool} {ps rest : Lns} {q : Nat × List (List Nat)} (h : gdR sv ps) (c : klC q.2 ps.length sv ≠ 0) : dueR ((n0, [firstL sv]) :: (ps ++ q :: rest)) = .list [.int ((q.1 : Nat) : Int), .int ((klC q.2 ps.length sv : Nat) : Int)] := by
  rw [dueR_cons, if_pos (first_or sv), first_dec, fbR_gd h]
  show (match (if klC q.2 ps.length sv = 0 then _ else some (q.1, klC q.2 ps.length sv)) with | some (n, c) => _ | none => _) = _
  rw [if_neg c]
theorem dueR_none (n0 : Nat) (sv : Bool) : dueR [(n0, [firstL sv])] = .list [.int 0, .int 4] := by
  rw [dueR_cons, if_pos (first_or sv), first_dec]
  rfl
theorem dueR_ok {n0 : Nat} {sv : Bool} {ps : Lns} (h : gdR sv ps) (ne : ps ≠ []) : dueR ((n0, [firstL sv]) :: ps) = .tuple [pdE (esR ps), pdI (clR ps), pdI (hoR ps), .bool sv] := by
  have e := fbR_gd h []
  rw [List.append_nil] at e
  rw [dueR_cons, if_pos (first_or sv), first_dec, e]
  show (if ps = [] then _ else _) = _
  rw [if_neg ne]
theorem gdR_snoc {sv : Bool} {ps : Lns} {q : Nat × List (List Nat)} (h : gdR sv ps) (c : klC q.2 ps.length sv = 0) : gdR sv (ps ++ [q]) := fun i p hp => by
  rw [List.getElem?_append] at hp
  split at hp
  · exact h i p hp
  · rename_i il
    have : i - ps.length = 0 := by
      have := (List.getElem?_eq_some_iff.mp hp).1
      simp at this
      omega
    rw [this] at hp
    have e : q = p := by simpa using hp
    subst e
    rw [show i = ps.length by omega]
    exact c
theorem gdR_len {sv : Bool} {ps : Lns} (h : gdR sv ps) : ps.length ≤ 6 := by
  rcases Nat.lt_or_ge 6 ps.length with z | z
  · exfalso
    have e : ps[6]? = some ps[6] := List.getElem?_eq_getElem z
    obtain ⟨_, _, _, k6, _⟩ := klC_ok (h 6 _ e)
    omega
  · exact z
theorem esR_snoc (ps : Lns) (q : Nat × List (List Nat)) : esR (ps ++ [q]) = esR ps ++ [(klV q.2).1] := by unfold esR; rw [List.map_append]; rfl
theorem fl_snoc (g : Nat × List (List Nat) → Bool) (ps : Lns) (q : Nat × List (List Nat)) : (List.range (ps ++ [q]).length).filter (fun i => ((ps ++ [q])[i]?.map g).getD false) = (List.range ps.length).filter (fun i => (ps[i]?.map g).getD false) ++ (if g q = true then [ps.length] else []) := by
  rw [List.length_append, List.length_singleton, rgf_succ]
  congr 1
  · refine List.filter_congr fun i hi => ?_
    rw [List.getElem?_append_left (List.mem_range.mp hi)]
  · rw [List.getElem?_append_right (Nat.le_refl _), Nat.sub_self]
    rfl
theorem clR_snoc (ps : Lns) (q : Nat × List (List Nat)) : clR (ps ++ [q]) = clR ps ++ (if (klV q.2).2.1 = true then [ps.length] else []) := fl_snoc (fun p => (klV p.2).2.1) ps q
theorem hoR_snoc (ps : Lns) (q : Nat × List (List Nat)) : hoR (ps ++ [q]) = hoR ps ++ (if (klV q.2).2.2 = true then [ps.length] else []) := fl_snoc (fun p => (klV p.2).2.2) ps q
theorem lwN_pre {xs : List (List Nat)} {i n : Nat} (h : i ≤ n) : ∃ r, lwN xs n = lwN xs i ++ r := by
  unfold lwN
  refine ⟨((((xs.zipIdx.take n).drop i).map lnF).filter fun p => decide (0 < p.2.length)), ?_⟩
  rw [← List.filter_append, ← List.map_append]
  congr 2
  have := (List.take_append_drop i (xs.zipIdx.take n)).symm
  rwa [List.take_take, Nat.min_eq_left h] at this
/-- the lines of a text behind so many of its pieces -/
theorem lw_at {l x : List Nat} {i : Nat} (h : (cutA 10 [] l)[i]? = some x) (ne : wordsL (remL x) ≠ []) : ∃ r, lwL l = lwN (cutA 10 [] l) i ++ (i + 1, wordsL (remL x)) :: r := by
  have hi := (List.getElem?_eq_some_iff.mp h).1
  obtain ⟨r, hr⟩ := lwN_pre (xs := cutA 10 [] l) (i := i + 1) (n := (cutA 10 [] l).length) hi
  rw [lwN_all, lwN_next h, if_pos (List.length_pos_iff.mpr ne), List.append_assoc] at hr
  exact ⟨r, hr⟩
theorem cut_rem : ∀ (l acc : List Nat), ∃ r, cutA 35 acc l = (acc ++ remL l) :: r
  | [], acc => ⟨[], by show [acc] = _; simp [remL]⟩
  | x :: l, acc => by
    by_cases h : x = 35
    · refine ⟨cutA 35 [] l, ?_⟩
      show (if x = 35 then acc :: cutA 35 [] l else _) = _
      rw [if_pos h]
      subst h
      simp [remL]
    · obtain ⟨r, hr⟩ := cut_rem l (acc ++ [x])
      refine ⟨r, ?_⟩
      show (if x = 35 then _ else cutA 35 (acc ++ [x]) l) = _
      rw [if_neg h, hr]
      have er : remL (x :: l) = x :: remL l := by unfold remL; rw [List.takeWhile_cons_of_pos (by simpa using h)]
      rw [er]; simp
/-! ### elders -/
theorem eld_iff {ns : List Nat} {k : Nat} {sv : Bool} : eldB (pdI ns) ((k : Nat) : Int) sv = true ↔ (ci ns).Pairwise (· < ·) ∧ (∀ x ∈ ns, x < k) ∧ (sv = true ∨ ns.length ≤ 1) := by
  unfold eldB
  have e : pdI ns = .tuple ((ci ns).map PyData.int) := by unfold pdI ci; rw [List.map_map]; rfl
  have el : lenD (pdI ns) = ns.length := by show (ns.map iD).length = _; rw [List.length_map]
  rw [Bool.and_eq_true, el, Bool.or_eq_true, decide_eq_true_iff, e, show ascD (.tuple ((ci ns).map PyData.int)) ((k : Nat) : Int) = asc ((k : Nat) : Int) 0 ((ci ns).map PyData.int) from rfl, Kri.asc_iff]
  constructor
  · rintro ⟨⟨h1, h2⟩, h3⟩
    refine ⟨h1, fun x hx => ?_, h3⟩
    have := (h2 ((x : Nat) : Int) (List.mem_map.mpr ⟨x, hx, rfl⟩)).2
    omega
  · rintro ⟨h1, h2, h3⟩
    refine ⟨⟨h1, fun y hy => ?_⟩, h3⟩
    obtain ⟨x, hx, rfl⟩ := List.mem_map.mp hy
    have := h2 x hx
    omega
theorem uniqI {l m : List Int} (h : l.Pairwise (· < ·)) (k : m.Pairwise (· < ·)) (e : ∀ x, x ∈ l ↔ x ∈ m) : l = m :=
  ord_uniq (lt := fun a b => decide (a < b)) (fun a => by simp) (fun a b z => by
    have := of_decide_eq_true z
    exact decide_eq_false (by omega)) (h.imp fun z => decide_eq_true z) (k.imp fun z => decide_eq_true z) e
/-- t * int(b), whichever -/
def rRep1U : R2 := fun x y H Q => ∃ (l : Addr) (b : Bool) (xs : List V), x = .ref l ∧ y = .int (if b then 1 else 0) ∧ H l = some (.tup xs) ∧ xs ≠ [] ∧ ∀ p H', Same H H' → H' p = some (.tup (if b = true then xs else [])) → Q (.ref p) H'
theorem op_rep1U {X : Cx} : OpR X (binaryOp .Mult) rRep1U := by
  intro pins s σ H x y v u Q I rx ry h
  obtain ⟨l, b, xs, rfl, rfl, hl, ne, q⟩ := h
  refine op_rep1 pins s σ H _ _ v u Q I rx ry ⟨l, b, xs, rfl, rfl, SqT.of hl, ne, fun z => ?_, fun z p np => ?_⟩
  · subst z; exact q l H (Same.refl _) hl
  · subst z; exact q p _ (same_new np) upd_same
theorem two_new {H H2 : Hp} {x y : V} {Q : VK} (s : Same H H2) (q : ∀ H' r, Same H H' → H' r = some (.lst [x, y]) → Q (.ref r) H') : 2 ≤ sizeLine ∧ ∀ r, H2 r = none → Q (.ref r) (upd H2 r (.lst [x, y])) := ⟨by rw [sizeLine_eq]; decide, fun r nr => q _ r (s.trans (same_new nr)) upd_same⟩
/-- elders, closed, hollow in a list -/
def Fr6 (H : Hp) (F : Addr) (es : List (List Nat)) (cl ho : List Nat) : Prop := ∃ e c h, H F = some (.lst [e, c, h]) ∧ Tu H e (pdE es) ∧ Tu H c (pdI cl) ∧ Tu H h (pdI ho)
theorem Fr6.same {H H' : Hp} {F : Addr} {es : List (List Nat)} {cl ho : List Nat} (h : Fr6 H F es cl ho) (s : Same H H') : Fr6 H' F es cl ho := by
  obtain ⟨e, c, o, h1, h2, h3, h4⟩ := h
  exact ⟨e, c, o, s _ _ h1, h2.same s, h3.same s, h4.same s⟩
def forB6 (s : Stmt) : List Stmt := match s with
  | .For _ _ b _ _ => b
  | _ => []
def ifB6 (s : Stmt) : List Stmt × List Stmt := match s with
  | .If _ b o _ => (b, o)
  | _ => ([], [])
def duS6 (i : Nat) : Stmt := (forB6 ((defBody sDu46).getD 2 (.Pass ⟨0, 0, 0, 0⟩))).getD i (.Pass ⟨0, 0, 0, 0⟩)
def elS6 : List Stmt := (ifB6 ((ifB6 (duS6 1)).2.getD 0 (.Pass ⟨0, 0, 0, 0⟩))).1
abbrev S6 (v : V) (F : Addr) (sv : V) (i : Nat) (y4 : Option V) (W : Addr) (y6 y7 y8 y9 y10 : Option V) : L2.St := [some v, some (.ref F), some sv, some (.int ((i : Nat) : Int)), y4, some (.ref W), y6, y7, y8, y9, y10]
/-- the words of a kind's line -/
def tEl : TS := fun D σ H => ∃ (v : V) (F W : Addr) (i : Nat) (sv : Bool) (es : List (List Nat)) (cl ho : List Nat) (ws : List (List Nat)) (y4 y6 y7 y8 y9 y10 : Option V), σ = S6 v F (.bl sv) i y4 W y6 y7 y8 y9 y10 ∧ Fr6 H F es cl ho ∧ H W = some (.lst (ws.map wV)) ∧ ws ≠ [] ∧ ws.length ≤ 60 ∧ (∀ w ∈ ws, chOk w ∧ w.length ≤ 800) ∧ es.length ≤ 6 ∧ cl.length ≤ 6 ∧ ho.length ≤ 6 ∧ i ≤ 100000 ∧
  (klC ws es.length sv ≠ 0 → ∀ H' r, Same H H' → H' r = some (.lst [.int (((i : Nat) : Int) + 1), .int ((klC ws es.length sv : Nat) : Int)]) → D.rt (.ref r) H') ∧
  (klC ws es.length sv = 0 → ∀ (H' : Hp) (F' : Addr) (y7 y8 y9 y10 : Option V), Same H H' → Fr6 H' F' (es ++ [(klV ws).1]) (cl ++ if (klV ws).2.1 = true then [es.length] else []) (ho ++ if (klV ws).2.2 = true then [es.length] else []) → D.nx (S6 v F' (.bl sv) i y4 W y6 y7 y8 y9 y10) H')
/-- a kind more -/
def tNw : TS := fun D σ H => ∃ (v : V) (F W t r : Addr) (i k : Nat) (sv c h : Bool) (es : List (List Nat)) (cl ho ns : List Nat) (y4 y6 y9 : Option V), σ = S6 v F (.bl sv) i y4 W y6 (some (.ref t)) (some (iV k)) y9 (some (.ref r)) ∧ Fr6 H F es cl ho ∧ H r = some (.tup (ns.map iV)) ∧ H t = some (.tup [.ref r, .bl c, .bl h]) ∧ ns.length ≤ 900 ∧ es.length ≤ 6 ∧ cl.length ≤ 6 ∧ ho.length ≤ 6 ∧
  ∀ (H' : Hp) (F' : Addr), Same H H' → Fr6 H' F' (es ++ [ns]) (cl ++ if c = true then [k] else []) (ho ++ if h = true then [k] else []) → D.nx (S6 v F' (.bl sv) i y4 W y6 (some (.ref t)) (some (iV k)) y9 (some (.ref r))) H'
/-- the words of a line -/
def tWd : TS := fun D σ H => ∃ (v : V) (F : Addr) (sv : Option V) (i : Nat) (x : List Nat) (y5 y6 y7 y8 y9 y10 : Option V), σ = [some v, some (.ref F), sv, some (.int ((i : Nat) : Int)), some (.str (sS x)), y5, y6, y7, y8, y9, y10] ∧ x.length ≤ 59 ∧
  ∀ (H' : Hp) (W : Addr), Same H H' → H' W = some (.lst ((wordsL (remL x)).map wV)) → D.nx [some v, some (.ref F), sv, some (.int ((i : Nat) : Int)), some (.str (sS x)), some (.ref W), y6, y7, y8, y9, y10] H'
def svV : Option Bool → V
  | none => .non
  | some b => .bl b
/-- what is done with them -/
def tIf6 : TS := fun D σ H => ∃ (v : V) (F W : Addr) (i : Nat) (svo : Option Bool) (es : List (List Nat)) (cl ho : List Nat) (ws : List (List Nat)) (y4 y6 y7 y8 y9 y10 : Option V), σ = S6 v F (svV svo) i y4 W y6 y7 y8 y9 y10 ∧ Fr6 H F es cl ho ∧ H W = some (.lst (ws.map wV)) ∧ ws.length ≤ 60 ∧ (∀ w ∈ ws, chOk w ∧ w.length ≤ 800) ∧ es.length ≤ 6 ∧ cl.length ≤ 6 ∧ ho.length ≤ 6 ∧ i ≤ 100000 ∧
  (ws = [] → ∀ H', Same H H' → D.nx (S6 v F (svV svo) i y4 W y6 y7 y8 y9 y10) H') ∧
  (ws ≠ [] → svo = none → ws ≠ [severalL] → ws ≠ [singleL] → ∀ H' r, Same H H' → H' r = some (.lst [.int (((i : Nat) : Int) + 1), .int 2]) → D.rt (.ref r) H') ∧
  (svo = none → ∀ b, ws = [firstL b] → ∀ H', Same H H' → D.nx (S6 v F (.bl b) i y4 W y6 y7 y8 y9 y10) H') ∧
  (∀ sv, ws ≠ [] → svo = some sv → klC ws es.length sv ≠ 0 → ∀ H' r, Same H H' → H' r = some (.lst [.int (((i : Nat) : Int) + 1), .int ((klC ws es.length sv : Nat) : Int)]) → D.rt (.ref r) H') ∧
  (∀ sv, svo = some sv → klC ws es.length sv = 0 → ∀ (H' : Hp) (F' : Addr) (y7 y8 y9 y10 : Option V), Same H H' → Fr6 H' F' (es ++ [(klV ws).1]) (cl ++ if (klV ws).2.1 = true then [es.length] else []) (ho ++ if (klV ws).2.2 = true then [es.length] else []) → D.nx (S6 v F' (.bl sv) i y4 W y6 y7 y8 y9 y10) H')
/-- a text that may come -/
def TxO (d : PyData) : Prop := ∀ s, d = .str s → (tl s).length ≤ 5000 ∧ (∀ p ∈ cutA 10 [] (tl s), p.length ≤ 59) ∧ chOk (tl s)
def dueD : PyData → PyData
  | .str s => dueR (lwL (tl s))
  | _ => .list [.int 0, .int 0]
def spDu46 : Sp := fun vs H Q _ => ∃ (v : V) (d : PyData), vs = [v] ∧ Da Kd.nil H v d ∧ TxO d ∧ ∀ H' u, Same H H' → Da Kd.nil H' u (dueD d) → Q u H'
section
variable {P : Program} {w : World} {K : PySem.W.Frag} {mg : Str → Option Value} {base : Heap} {f : Addr} {fd : FuncData}
abbrev XD6 (P : Program) (w : World) (K : PySem.W.Frag) (mg : Str → Option Value) (base : Heap) (f : Addr) (cdv : Value) (A : Around) (out : List Env) (s : Shared) (H : Hp) (E : XK) : Cx := (cxOf CX0 P w K mg base nDu46 "_law_due" (defScope sDu46) f cdv A out s H E).nox
variable {cdv : Value} {A : Around} {out : List Env} {s : Shared} {H0 : Hp} {E : XK}
theorem segNw (B : Bl mg) : PS (XD6 P w K mg base f cdv A out s H0 E) (elS6.getD 5 (.Pass ⟨0, 0, 0, 0⟩)) tNw := by
  refine ps_imp (ps_set (i := 1) scDu46.nd rfl (.inl rfl) (pe_lst (pa_cons (pe_op op_catN (pe_ix ix_list (pv 1) pe_int (fun _ _ => rfl)) (pe_tup (pa_cons (pv 10) pa_nil))) (pa_cons (pe_op op_catN (pe_ix ix_list (pv 1) pe_int (fun _ _ => rfl)) (pe_op op_rep1U (pe_tup (pa_cons (pv 8) pa_nil)) (pe_callTy call_int1 (by rfl) B.int PyProof.Rows.boot_int (pa_cons (pe_ix ix_tup (pv 7) pe_int (fun _ _ => rfl)) pa_nil)))) (pa_cons (pe_op op_catN (pe_ix ix_list (pv 1) pe_int (fun _ _ => rfl)) (pe_op op_rep1U (pe_tup (pa_cons (pv 8) pa_nil)) (pe_callTy call_int1 (by rfl) B.int PyProof.Rows.boot_int (pa_cons (pe_ix ix_tup (pv 7) pe_int (fun _ _ => rfl)) pa_nil)))) pa_nil))))) (fun D σ H h => ?_)
  obtain ⟨v, F, W, t, r, i, k, sv, c, h, es, cl, ho, ns, y4, y6, y9, rfl, fr, hr, ht, nl, es6, cl6, ho6, nx⟩ := h
  obtain ⟨e, vc, vh, hF, te, tc, th⟩ := id fr
  obtain ⟨ae, xe, rfl, hae, xel, tae⟩ := tu_elders te
  obtain ⟨ac, rfl, hac, acl⟩ := tu_inv tc
  obtain ⟨ah, rfl, hah, ahl⟩ := tu_inv th
  have z1 : 1 ≤ sizeLine := by rw [sizeLine_eq]; decide
  have z3 : 3 ≤ sizeLine := by rw [sizeLine_eq]; decide
  refine ⟨_, rfl, F, _, 0, .ref ae, rfl, rfl, SqL.of hF, atI_nat (j := 0) rfl, _, rfl, z1, fun p1 n1 => ?_⟩
  have s1 := same_new (o := HO.tup [V.ref r]) n1
  refine ⟨ae, p1, xe, _, rfl, rfl, s1 _ _ hae, upd_same, by simp; omega, fun e1 H2 s2 h2 => ?_⟩
  have s12 := s1.trans s2
  have te2 : Tu H2 (.ref e1) (pdE (es ++ [ns])) := by
    unfold pdE
    rw [List.map_append]
    exact .tup h2 (by simp; omega) (TuAll.append (tae.keep (.of_same s12)) (.cons (tu_ints (s12 _ _ hr) (by omega)) .nil))
  -- closed
  refine ⟨_, rfl, F, _, 1, .ref ac, rfl, rfl, SqL.of (s12 _ _ hF), atI_nat (j := 1) rfl, _, rfl, z1, fun p3 n3 => ?_⟩
  have s3 := same_new (o := HO.tup [iV k]) n3
  refine ⟨_, rfl, t, _, 1, .bl c, rfl, rfl, SqT.of ((s12.trans s3) _ _ ht), atI_nat (j := 1) rfl, .inr ⟨_, rfl, p3, c, _, rfl, rfl, upd_same, by simp, fun p4 H4 s4 h4 => ?_⟩⟩
  have s14 := s12.trans (s3.trans s4)
  have el : ∀ b : Bool, (if b = true then [iV k] else []) = (if b = true then [k] else []).map iV := fun b => by cases b <;> rfl
  rw [el] at h4
  refine ⟨ac, p4, _, _, rfl, rfl, s14 _ _ hac, h4, by cases c <;> simp <;> omega, fun e5 H5 s5 h5 => ?_⟩
  have s15 := s14.trans s5
  rw [← List.map_append] at h5
  have tc5 : Tu H5 (.ref e5) (pdI (cl ++ if c = true then [k] else [])) := tu_ints h5 (by cases c <;> simp <;> omega)
  -- hollow
  refine ⟨_, rfl, F, _, 2, .ref ah, rfl, rfl, SqL.of (s15 _ _ hF), atI_nat (j := 2) rfl, _, rfl, z1, fun p6 n6 => ?_⟩
  have s6 := same_new (o := HO.tup [iV k]) n6
  refine ⟨_, rfl, t, _, 2, .bl h, rfl, rfl, SqT.of ((s15.trans s6) _ _ ht), atI_nat (j := 2) rfl, .inr ⟨_, rfl, p6, h, _, rfl, rfl, upd_same, by simp, fun p7 H7 s7 h7 => ?_⟩⟩
  have s17 := s15.trans (s6.trans s7)
  rw [el] at h7
  refine ⟨ah, p7, _, _, rfl, rfl, s17 _ _ hah, h7, by cases h <;> simp <;> omega, fun e8 H8 s8 h8 => ?_⟩
  have s18 := s17.trans s8
  rw [← List.map_append] at h8
  have th8 : Tu H8 (.ref e8) (pdI (ho ++ if h = true then [k] else [])) := tu_ints h8 (by cases h <;> simp <;> omega)
  refine ⟨z3, fun F' nF => ?_⟩
  have s9 := same_new (o := HO.lst [V.ref e1, V.ref e5, V.ref e8]) nF
  refine nx _ F' (s18.trans s9) ⟨.ref e1, .ref e5, .ref e8, upd_same, te2.same ((s3.trans s4).trans (s5.trans ((s6.trans s7).trans (s8.trans s9)))), tc5.same ((s6.trans s7).trans (s8.trans s9)), th8.same s9⟩
theorem segEl (hr : Room 2 (XD6 P w K mg base f cdv A out s H0 E).A) (B : Bl mg) (M : Bm mg) (GL : Cal P w K mg base "_law_line" 2 ["_law_words"] spLl6) : PSs (XD6 P w K mg base f cdv A out s H0 E) elS6 tEl := by
  refine pss_imp (pss_cons (ps_par (i := 7) (j := 8) (by rfl) scDu46.nd rfl rfl (by decide) rfl rfl (pa_cons (pe_cal GL hr (by rfl) (pa_cons (pv 5) pa_nil)) (pa_cons (pe_callB call_len_seq (by rfl) B.len PySem.boot_len (pa_cons (pe_ix ix_list (pv 1) pe_int (fun _ _ => rfl)) pa_nil)) pa_nil)) (by rfl))
      (pss_cons (ps_if (pt_cmpR op_isN (pv 7) pe_non (nomark _)) (pss_one (ps_ret (pe_lst (pa_cons (pe_op op_add (pv 3) pe_int) (pa_cons pe_int pa_nil))))) pss_nil)
      (pss_cons (ps_par (i := 9) (j := 10) (by rfl) scDu46.nd rfl rfl (by decide) rfl rfl (pa_cons (pe_ix ix_list (pe_lst (pa_cons pe_int (pa_cons pe_int pa_nil))) (pe_callTy call_int1 (by rfl) B.int PyProof.Rows.boot_int (pa_cons (pv 2) pa_nil)) (fun _ _ => rfl)) (pa_cons (pe_ix ix_tup (pv 7) pe_int (fun _ _ => rfl)) pa_nil)) (by rfl))
      (pss_cons (ps_if (PW.pt (pw_or (pt_cmpR op_eq (pv 8) pe_int (nomark _)) (pw_or (pt_cmpR (op_neD hr.units) (pe_callTy call_list_of (by rfl) B.list PyProof.Rows.boot_list (pa_cons (pv 10) pa_nil)) (pe_callB (cr_sortedSet rfl) (by rfl) M.sorted (by decide +kernel) (pa_cons (pe_callTy (cr_setI rfl) (by rfl) M.set (by decide +kernel) (pa_cons (pv 10) pa_nil)) pa_nil)) (nomark _)) (pw_or1 (pt_cmpR op_gt (pe_callB call_len_seq (by rfl) B.len PySem.boot_len (pa_cons (pv 10) pa_nil)) (pv 9) (nomark _)))))) (pss_one (ps_ret (pe_lst (pa_cons (pe_op op_add (pv 3) pe_int) (pa_cons pe_int pa_nil))))) pss_nil)
      (pss_cons (ps_if (PW.pt (pw_and (pt_cmpR (op_neD hr.units) (pv 10) (pe_tup pa_nil) (nomark _)) (pw_and1 (pt_cmpR op_ge (pe_ix ix_tup (pv 10) (pe_un un_neg pe_int) (fun _ _ => rfl)) (pv 8) (nomark _))))) (pss_one (ps_ret (pe_lst (pa_cons (pe_op op_add (pv 3) pe_int) (pa_cons pe_int pa_nil))))) pss_nil)
      (pss_one (segNw B))))))) (fun D σ H h => ?_)
  obtain ⟨v, F, W, i, sv, es, cl, ho, ws, y4, y6, y7, y8, y9, y10, rfl, fr, hW, ne, wl, wk, el6, cl6, ho6, i5, bad, good⟩ := h
  obtain ⟨e, c, h, hF, te, tc, th⟩ := id fr
  obtain ⟨ae, xe, rfl, hae, xel, tae⟩ := tu_elders te
  obtain ⟨ac, rfl, hac, acl⟩ := tu_inv tc
  obtain ⟨ah, rfl, hah, ahl⟩ := tu_inv th
  have z1 : 1 ≤ sizeLine := by rw [sizeLine_eq]; decide
  have z2 : 2 ≤ sizeLine := by rw [sizeLine_eq]; decide
  have z3 : 3 ≤ sizeLine := by rw [sizeLine_eq]; decide
  refine ⟨_, rfl, W, ws, rfl, hW, ne, by omega, wk, fun en H1 s1 => ?_, fun ns c h en H1 t r s1 hr1 ht => ?_⟩
  · have c2 : klC ws es.length sv = 2 := by unfold klC; rw [en]
    refine ⟨_, rfl, F, _, 0, .ref ae, rfl, rfl, SqL.of (s1 _ _ hF), atI_nat (j := 0) rfl, ae, xe, rfl, .inr (SqT.of (s1 _ _ hae)), _, _, rfl, ?_⟩
    refine ⟨_, rfl, rfl, _, rfl, iteT ⟨_, rfl, _, _, rfl, rfl, ?_⟩⟩
    refine two_new s1 fun H' r s' hr' => bad (by rw [c2]; decide) H' r s' ?_
    rw [hr', c2]; rfl
  · have nsl := kpW_len en
    have kv : klV ws = (ns, c, h) := by unfold klV; rw [en]; rfl
    have kc : klC ws es.length sv = if es.length < 6 ∧ eldB (pdI ns) ((es.length : Nat) : Int) sv = true then 0 else 3 := by unfold klC; rw [en]
    rw [kv] at good
    have bad' : ¬ (es.length < 6 ∧ eldB (pdI ns) ((es.length : Nat) : Int) sv = true) → ∀ H' r, Same H H' → H' r = some (.lst [.int (((i : Nat) : Int) + 1), .int 3]) → D.rt (.ref r) H' := fun z H' r s' hr' => by
      rw [if_neg z] at kc
      rw [kc] at bad
      exact bad (by decide) H' r s' hr'
    refine ⟨_, rfl, F, _, 0, .ref ae, rfl, rfl, SqL.of (s1 _ _ hF), atI_nat (j := 0) rfl, ae, xe, rfl, .inr (SqT.of (s1 _ _ hae)), _, _, rfl, ?_⟩
    refine ⟨_, rfl, rfl, _, rfl, iteF ?_⟩
    -- most, elders
    refine ⟨z2, fun L nL => ?_⟩
    have s2 := same_new (o := HO.lst [V.int 1, V.int 6]) nL
    have hL := upd_same (H := H1) (a := L) (o := HO.lst [V.int 1, V.int 6])
    have s12 := s1.trans s2
    have hr2 := s2 _ _ hr1
    have ht2 := s2 _ _ ht
    generalize upd H1 L (HO.lst [V.int 1, V.int 6]) = H2 at hL s12 hr2 ht2 ⊢
    clear s2 hr1 ht
    refine ⟨_, rfl, .inr ⟨_, rfl, L, _, (if sv = true then 1 else 0), .int (if sv = true then 6 else 1), rfl, rfl, SqL.of hL, by cases sv <;> rfl, _, rfl, t, _, 0, .ref r, rfl, rfl, SqT.of ht2, atI_nat (j := 0) rfl, _, _, rfl, ?_⟩⟩
    -- the tests
    refine ⟨_, rfl, rfl, _, rfl, ?_⟩
    have xeq : ((xe.length : Nat) : Int) = ((es.length : Nat) : Int) := by rw [xel]
    by_cases k6 : es.length = 6
    · refine iteD (decide_eq_true (by rw [xeq, k6]; rfl)) (iteT ⟨_, rfl, _, _, rfl, rfl, ?_⟩)
      exact two_new s12 (bad' fun z => by omega)
    refine iteE (decide_eq_false fun z => by have := V.int.inj z; omega) ?_
    rw [map_iV] at hr2
    refine ⟨_, rfl, r, _, rfl, .inr (SqT.of hr2), fun L2 nL2 => ?_⟩
    have s3 := same_new (o := HO.lst ((ns.map fun n => ((n : Nat) : Int)).map V.int)) nL2
    refine ⟨_, rfl, r, ci ns, rfl, .inr (SqT.of (s3 _ _ hr2)), by rw [show (ci ns).length = ns.length from List.length_map ..]; omega, fun S cc nS hc => ?_⟩
    have s4 := same_new (o := SetO (XD6 P w K mg base f cdv A out s H0 E).w S (fun j => decide (j ∈ ci ns)) cc) nS
    refine ⟨S, _, cc, rfl, upd_same, by rw [show (ci ns).length = ns.length from List.length_map ..] at hc; omega, fun ms p hs hmm hml np => ?_⟩
    have s5 := same_new (o := HO.lst (ms.map V.int)) np
    have s45 := s4.trans s5
    refine ⟨.list ((ci ns).map PyData.int), .list (ms.map PyData.int), .lst (SqL.of (s45 _ _ upd_same)) (dp_ints (ci ns)), .lst (SqL.of upd_same) (dp_ints ms), shaped_ints (ci ns), shaped_ints ms, _, rfl, ?_⟩
    rw [eqv_intsL]
    have s15 := s12.trans (s3.trans s45)
    have hr5 := (s3.trans s45) _ _ hr2
    have ht5 := (s3.trans s45) _ _ ht2
    generalize upd (upd (upd H2 L2 (HO.lst ((ns.map fun n => ((n : Nat) : Int)).map V.int))) S (SetO (XD6 P w K mg base f cdv A out s H0 E).w S (fun j => decide (j ∈ ci ns)) cc)) p (HO.lst (ms.map V.int)) = H5 at s15 hr5 ht5 ⊢
    by_cases c3 : ci ns = ms
    rotate_left
    · refine iteD (by rw [decide_eq_false c3]; rfl) (iteT ⟨_, rfl, _, _, rfl, rfl, ?_⟩)
      refine two_new s15 (bad' fun z => c3 ?_)
      have pw := (eld_iff.mp z.2).1
      exact uniqI pw hs fun x => by have z := hmm x; rw [decide_eq_true_iff] at z; exact z.symm
    have pw : (ci ns).Pairwise (· < ·) := by rw [c3]; exact hs
    refine iteE (by rw [decide_eq_true c3]; rfl) ⟨_, rfl, r, _, rfl, .inr (SqT.of hr5), _, rfl, _, _, rfl, rfl, _, rfl, ?_⟩
    have ll : (((ns.map fun n => ((n : Nat) : Int)).map V.int).length : Nat) = ns.length := by rw [List.length_map, List.length_map]
    rw [ll]
    by_cases c4 : (if sv = true then (6 : Int) else 1) < ((ns.length : Nat) : Int)
    · refine iteD (decide_eq_true c4) ⟨_, rfl, _, _, rfl, rfl, ?_⟩
      refine two_new s15 (bad' fun z => ?_)
      obtain ⟨_, h2, h3⟩ := eld_iff.mp z.2
      cases sv with
      | false => rcases h3 with h3 | h3
                 · cases h3
                 · rw [if_neg (by decide)] at c4; omega
      | true =>
        rw [if_pos rfl] at c4
        have so : Som es.length ns := ⟨(List.pairwise_map.mp pw).imp fun z => by omega, h2⟩
        have := so.len
        omega
    refine iteE (decide_eq_false c4) ?_
    -- the last elder
    refine ⟨_, rfl, Nat.zero_le _, fun em nem => ?_⟩
    have s6 := same_new (o := HO.tup []) nem
    have hr6 := s6 _ _ hr5
    have hem := upd_same (H := H5) (a := em) (o := HO.tup [])
    have ht6 := s6 _ _ ht5
    have s16 := s15.trans s6
    generalize upd H5 em (HO.tup []) = H6 at s16 hr6 ht6 hem ⊢
    have d1 : Dp K H6 (.ref r) (pdI ns) := (tu_ints (l := ns) (by rw [hr6, map_iV]) (by omega)).dp
    have d2 : Dp K H6 (.ref em) (pdI []) := (tu_ints (l := []) (by rw [hem]; rfl) (by decide)).dp
    have ok : ¬ (∀ x ∈ ns, x < es.length) → ¬ (es.length < 6 ∧ eldB (pdI ns) ((es.length : Nat) : Int) sv = true) := fun z y => z (eld_iff.mp y.2).2.1
    have fin : (∀ x ∈ ns, x < es.length) → klC ws es.length sv = 0 := fun z => by
      rw [kc, if_pos]
      refine ⟨by omega, eld_iff.mpr ⟨pw, z, ?_⟩⟩
      cases sv with
      | true => exact .inl rfl
      | false => right; rw [if_neg (by decide)] at c4; omega
    refine ⟨pdI ns, pdI [], d1, d2, sh_pdI ns, sh_pdI [], _, rfl, ?_⟩
    rw [eqv_pdI]
    -- the new lists
    rw [← map_iV] at hr6
    have fr6 := fr.same s16
    have go : (∀ x ∈ ns, x < es.length) → tNw D (S6 v F (.bl sv) i y4 W y6 (some (.ref t)) (some (iV es.length)) (some (.int (if sv = true then 6 else 1))) (some (.ref r))) H6 := fun z =>
      ⟨v, F, W, t, r, i, es.length, sv, c, h, es, cl, ho, ns, y4, y6, _, rfl, fr6, hr6, ht6, by omega, el6, cl6, ho6, fun H' F' s' fr' => good (fin z) H' F' _ _ _ _ (s16.trans s') fr'⟩
    have e8 : V.int ((xe.length : Nat) : Int) = iV es.length := by rw [xel]; rfl
    rw [e8]
    cases ns with
    | nil => exact iteE (by rw [decide_eq_true rfl]; rfl) (iteF (go fun x hx => nomatch hx))
    | cons a0 l0 =>
      refine iteD (by rw [decide_eq_false (by simp)]; rfl) ⟨_, rfl, 1, rfl, r, _, -1, _, rfl, rfl, SqT.of hr6, by rw [map_iV]; exact Kri.last_at, _, rfl, _, _, rfl, rfl, _, rfl, ?_⟩
      have pw' : (((a0 : Nat) : Int) :: l0.map fun n => ((n : Nat) : Int)).Pairwise (· < ·) := pw
      have en := Kri.ends_iff (n := ((es.length : Nat) : Int)) pw'
      by_cases c5 : ((es.length : Nat) : Int) ≤ (((a0 : Nat) : Int) :: l0.map fun n => ((n : Nat) : Int)).getLast (by simp)
      · refine iteD (decide_eq_true c5) ⟨_, rfl, _, _, rfl, rfl, ?_⟩
        refine two_new s16 (bad' (ok fun z => ?_))
        have := (en.mp fun x hx => by
          obtain ⟨y, hy, rfl⟩ := List.mem_map.mp (show x ∈ (a0 :: l0).map fun n => ((n : Nat) : Int) from hx)
          have := z y hy
          omega).2
        omega
      · refine iteE (decide_eq_false c5) (go fun x hx => ?_)
        have := en.mpr ⟨by omega, by omega⟩ ((x : Nat) : Int) (List.mem_map.mpr ⟨x, hx, rfl⟩ : ((x : Nat) : Int) ∈ (a0 :: l0).map fun n => ((n : Nat) : Int))
        omega
theorem segWd (B : Bl mg) : PS (XD6 P w K mg base f cdv A out s H0 E) (duS6 0) tWd := by
  refine ps_imp (ps_setLc (i := 5) (own := [("_law_word", 6)]) (g := (gName 6)) rfl scDu46.nd rfl rfl (sw_true rfl rfl rfl (by decide +kernel)) (pi_list (pe_split (pe_ix ix_list (pe_split (pv 4) pe_str) pe_int (fun _ _ => rfl)) pe_str))
        (blkOk_by (N := nDu46) (sc := defScope sDu46) (by decide +kernel)) (fun _ _ _ _ _ => (pg_name (i := 6) scDu46.nd rfl (.inl rfl))) (fun _ _ _ _ _ => pts_one (pt_cmpR op_ne (pv 6) pe_str (nomark _)))
        (fun _ _ _ _ _ => (pv 6))) (fun D σ H h => ?_)
  obtain ⟨v, F, sv, i, x, y5, y6, y7, y8, y9, y10, rfl, xl, nx⟩ := h
  have bg := big1000
  have cB : Str.ofString " " = sS [32] := eq_sS (by decide +kernel)
  have cE : Str.ofString "" = sS [] := eq_sS (by decide +kernel)
  have cH : Str.ofString "#" = sS [35] := eq_sS (by decide +kernel)
  refine ⟨_, rfl, ⟨_, rfl⟩, sS x, _, rfl, rfl, by decide, by rw [sS_len]; omega, fun p np => ?_⟩
  rw [cH, split_sS x (by decide)]
  have s1 := same_new (o := HO.lst (((cutA 35 [] x).map sS).map V.str)) np
  have hp := upd_same (H := H) (a := p) (o := HO.lst (((cutA 35 [] x).map sS).map V.str))
  generalize upd H p (HO.lst (((cutA 35 [] x).map sS).map V.str)) = H1 at s1 hp ⊢
  obtain ⟨r, hr⟩ := cut_rem x []
  rw [hr, List.nil_append] at hp
  have rl := remL_len x
  refine ⟨p, _, 0, wV (remL x), rfl, rfl, SqL.of hp, atI_nat (j := 0) rfl, ⟨_, rfl⟩, sS (remL x), _, rfl, rfl, by decide, by rw [sS_len]; omega, fun p2 np2 => ?_⟩
  rw [cB, split_sS (remL x) (by decide)]
  have s2 := same_new (o := HO.lst (((cutA 32 [] (remL x)).map sS).map V.str)) np2
  have hp2 : upd H1 p2 (HO.lst (((cutA 32 [] (remL x)).map sS).map V.str)) p2 = some (.lst ((cutA 32 [] (remL x)).map wV)) := by rw [upd_same, List.map_map]; rfl
  generalize upd H1 p2 (HO.lst (((cutA 32 [] (remL x)).map sS).map V.str)) = H2 at s2 hp2 ⊢
  have cl := cutA_len 32 (remL x) []
  refine ⟨p2, rfl, ⟨_, SqL.of hp2⟩, fun D nD => ?_⟩
  refine lc_lI (K := K) (a := p2) (xs := (cutA 32 [] (remL x)).map wV) (ls := cutA 32 [] (remL x)) (fun x => decide (0 < x.length)) wV nD (by rw [List.length_map]; omega) hp2 (by rw [List.length_map]) (fun i x e hx he => ?_) (fun H6 s6 hD => ?_)
  · intro H7 s7 R R0 hR
    obtain ⟨e', h1, rfl⟩ := map_get hx
    rw [he] at h1
    cases h1
    refine ⟨rfl, _, rfl, rfl, _, rfl, ?_⟩
    cases e with
    | nil => exact iteE (by rw [cE]; show (!decide (V.str (sS []) = V.str (sS []))) = false; rw [decide_eq_true rfl]; rfl) ((hR H7 (Same.refl _)).2 rfl)
    | cons c r => exact iteD (by rw [cE]; show (!decide (V.str (sS (c :: r)) = V.str (sS []))) = true; rw [decide_eq_false (sS_ne (by simp))]; rfl) ⟨_, rfl, (hR H7 (Same.refl _)).1 rfl⟩
  · exact nx H6 D (s1.trans (s2.trans s6)) hD
theorem segIf (hr : Room 2 (XD6 P w K mg base f cdv A out s H0 E).A) (B : Bl mg) (M : Bm mg) (GL : Cal P w K mg base "_law_line" 2 ["_law_words"] spLl6) : PS (XD6 P w K mg base f cdv A out s H0 E) (duS6 1) tIf6 := by
  refine ps_imp (ps_if (PW.pt (pw_and (pt_cmpR (op_neD hr.units) (pv 5) (pe_lst pa_nil) (nomark _)) (pw_and1 (pt_cmpR op_isN (pv 2) pe_non (nomark _))))) (pss_cons (ps_if (pt_cmpR (op_notInD (by have := hr.un; omega)) (pv 5) (pe_lst (pa_cons (pe_lst (pa_cons pe_str pa_nil)) (pa_cons (pe_lst (pa_cons pe_str pa_nil)) pa_nil))) rfl) (pss_one (ps_ret (pe_lst (pa_cons (pe_op op_add (pv 3) pe_int) (pa_cons pe_int pa_nil))))) pss_nil)
      (pss_one (ps_set (i := 2) scDu46.nd rfl (.inl rfl) (pe_cmpR (op_eqD hr.units) (pv 5) (pe_lst (pa_cons pe_str pa_nil)) (nomark _))))) (pss_one (ps_if (pt_cmpR (op_neD hr.units) (pv 5) (pe_lst pa_nil) (nomark _)) (segEl hr B M GL) pss_nil))) (fun D σ H h => ?_)
  obtain ⟨v, F, W, i, svo, es, cl, ho, ws, y4, y6, y7, y8, y9, y10, rfl, fr, hW, wl, wk, el6, cl6, ho6, i5, n0, nb, nf, kb, kg⟩ := h
  have z0 : 0 ≤ sizeLine := Nat.zero_le _
  have z1 : 1 ≤ sizeLine := by rw [sizeLine_eq]; decide
  have z2 : 2 ≤ sizeLine := by rw [sizeLine_eq]; decide
  have c1 : Str.ofString "several" = sS severalL := eq_sS (by decide +kernel)
  have c2 : Str.ofString "single" = sS singleL := eq_sS (by decide +kernel)
  have sw : SeqAt.shaped (wsD ws) = true := sh_ws fun w hw => (wk w hw).1
  have emp : ∀ {H1 : Hp}, Same H H1 → ∀ {p : Addr}, H1 p = none → Dp K (upd H1 p (.lst [])) (V.ref W) (wsD ws) ∧ Dp K (upd H1 p (.lst [])) (.ref p) (wsD []) := fun s1 p np => ⟨dp_ws ((same_new np) _ _ (s1 _ _ hW)), dp_ws upd_same⟩
  refine ⟨_, rfl, z0, fun p1 n1 => ?_⟩
  have s1 := same_new (o := HO.lst []) n1
  refine ⟨wsD ws, wsD [], (emp (Same.refl _) n1).1, (emp (Same.refl _) n1).2, sw, (sh_ws fun w hw => nomatch hw), _, rfl, ?_⟩
  rw [eqv_ws]
  by_cases e0 : ws = []
  · refine iteE (by rw [decide_eq_true e0]; rfl) (iteF ⟨_, rfl, z0, fun p2 n2 => ?_⟩)
    refine ⟨wsD ws, wsD [], (emp s1 n2).1, (emp s1 n2).2, sw, (sh_ws fun w hw => nomatch hw), _, rfl, ?_⟩
    rw [eqv_ws]
    exact iteE (by rw [decide_eq_true e0]; rfl) (n0 e0 _ (s1.trans (same_new n2)))
  refine iteD (by rw [decide_eq_false e0]; rfl) ?_
  cases svo with
  | none =>
    refine ⟨_, rfl, rfl, _, rfl, iteT ⟨_, rfl, z1, fun p2 n2 => ⟨z1, fun p3 n3 => ⟨z2, fun p4 n4 => ?_⟩⟩⟩⟩
    have s2 := same_new (o := HO.lst [V.str (Str.ofString "several")]) n2
    have s3 := same_new (o := HO.lst [V.str (Str.ofString "single")]) n3
    have s4 := same_new (o := HO.lst [V.ref p2, V.ref p3]) n4
    have s14 := s1.trans (s2.trans (s3.trans s4))
    have h2 := (s3.trans s4) _ _ (upd_same (H := upd H p1 (.lst [])) (a := p2) (o := HO.lst [V.str (Str.ofString "several")]))
    have h3 := s4 _ _ (upd_same (H := upd (upd H p1 (.lst [])) p2 (HO.lst [V.str (Str.ofString "several")])) (a := p3) (o := HO.lst [V.str (Str.ofString "single")]))
    have h4 := upd_same (H := upd (upd (upd H p1 (.lst [])) p2 (HO.lst [V.str (Str.ofString "several")])) p3 (HO.lst [V.str (Str.ofString "single")])) (a := p4) (o := HO.lst [V.ref p2, V.ref p3])
    have hW4 := s14 _ _ hW
    generalize upd (upd (upd (upd H p1 (.lst [])) p2 (HO.lst [V.str (Str.ofString "several")])) p3 (HO.lst [V.str (Str.ofString "single")])) p4 (HO.lst [V.ref p2, V.ref p3]) = H4 at s14 h2 h3 h4 hW4 ⊢
    rw [c1] at h2
    rw [c2] at h3
    refine ⟨wsD ws, [wsD [severalL], wsD [singleL]], dp_ws hW4, .lst (SqL.of h4) (.cons (dp_ws h2) (.cons (dp_ws h3) .nil)), sw, by decide +kernel, _, rfl, ?_⟩
    have ev : ([wsD [severalL], wsD [singleL]].any fun z => PyData.eqv z (wsD ws)) = (decide ([severalL] = ws) || decide ([singleL] = ws)) := by
      simp only [List.any_cons, List.any_nil, Bool.or_false, eqv_ws]
    rw [ev]
    by_cases h : ∃ b, ws = [firstL b]
    · obtain ⟨b, hb⟩ := h
      refine iteE (by rw [hb]; cases b <;> decide) ⟨_, rfl, z1, fun p5 n5 => ?_⟩
      have s5 := same_new (o := HO.lst [V.str (Str.ofString "several")]) n5
      refine ⟨wsD ws, wsD [severalL], dp_ws (s5 _ _ hW4), dp_ws (by rw [upd_same, c1]; rfl), sw, by decide +kernel, ?_⟩
      rw [eqv_ws, hb, first_dec]
      exact nf rfl b hb _ (s14.trans s5)
    · have w1 : ws ≠ [severalL] := fun z => h ⟨true, z⟩
      have w2 : ws ≠ [singleL] := fun z => h ⟨false, z⟩
      refine iteD (by rw [decide_eq_false fun z => w1 z.symm, decide_eq_false fun z => w2 z.symm]; rfl) ⟨_, rfl, _, _, rfl, rfl, ?_⟩
      exact two_new s14 (nb e0 rfl w1 w2)
  | some b =>
    refine ⟨_, rfl, rfl, _, rfl, iteF ⟨_, rfl, z0, fun p2 n2 => ?_⟩⟩
    refine ⟨wsD ws, wsD [], (emp s1 n2).1, (emp s1 n2).2, sw, (sh_ws fun w hw => nomatch hw), _, rfl, ?_⟩
    rw [eqv_ws]
    have s12 := s1.trans (same_new (o := HO.lst []) n2)
    refine iteD (by rw [decide_eq_false e0]; rfl) ?_
    exact ⟨v, F, W, i, b, es, cl, ho, ws, y4, y6, y7, y8, y9, y10, rfl, fr.same s12, s12 _ _ hW, e0, wl, wk, el6, cl6, ho6, i5, fun c H' r s' hr' => kb b e0 rfl c H' r (s12.trans s') hr', fun c H' F' t7 t8 t9 t10 s' fr' => kg b rfl c H' F' t7 t8 t9 t10 (s12.trans s') fr'⟩
theorem ok_du46 (F : Fun K "_law_due" "_law_due" sDu46 f fd) (B : Bl mg) (M : Bm mg) (GL : Cal P w K mg base "_law_line" 2 ["_law_words"] spLl6) : FnOk P w K mg base CX0 3 f fd ["_law_value"] spDu46 := by
  refine F.ok scDu46 (fun vs H Q E h => ?_) (fun cdv A outer s H vs Q E hr h => ?_)
  · obtain ⟨v, d, rfl, _⟩ := h
    rfl
  · obtain ⟨v, d, rfl, dd, tx, q⟩ := h
    refine ⟨_, (pss_cons (ps_if (pt_not (pt_val (pe_callB call_isi (by rfl) B.isi boot_isinstance (pa_cons (pv 0) (pa_cons (pe_bltn (v := .ty "str") (by rfl) B.str PyProof.Rows.boot_str rfl) pa_nil))))) (pss_one (ps_ret (pe_lst (pa_cons pe_int (pa_cons pe_int pa_nil))))) pss_nil)
      (pss_cons (ps_par (i := 1) (j := 2) (by rfl) scDu46.nd rfl rfl (by decide) rfl rfl (pa_cons (pe_lst (pa_cons (pe_tup pa_nil) (pa_cons (pe_tup pa_nil) (pa_cons (pe_tup pa_nil) pa_nil)))) (pa_cons pe_non pa_nil)) (by rfl))
      (pss_cons (ps_for PassesOwn.never rfl (pi_enum (by rfl) M.enum (pa_cons (pe_split (pv 0) pe_str) pa_nil)) (pg_tup rfl (pgs_cons (pg_name (i := 3) scDu46.nd rfl (.inl rfl)) (pgs_cons (pg_name (i := 4) scDu46.nd rfl (.inl rfl)) pgs_nil)))
        (pss_cons (segWd B) (pss_one (segIf hr B M GL))))
      (pss_cons (ps_if (pt_cmpR op_isN (pv 2) pe_non (nomark _)) (pss_one (ps_ret (pe_lst (pa_cons pe_int (pa_cons pe_int pa_nil))))) pss_nil)
      (pss_one (ps_ret (pe_ifExp (pt_cmpR (op_eqT0 hr.units) (pe_ix ix_list (pv 1) pe_int (fun _ _ => rfl)) (pe_tup pa_nil) (nomark _)) (pe_lst (pa_cons pe_int (pa_cons pe_int pa_nil))) (pe_callTy call_tupN (by rfl) B.tuple PyProof.Rows.boot_tuple (pa_cons (pe_op op_cat (pv 1) (pe_lst (pa_cons (pv 2) pa_nil))) pa_nil))))))))), ?_⟩
    have bg : 6000 ≤ sizeLine := by rw [sizeLine_eq]; decide
    have z0 : 0 ≤ sizeLine := Nat.zero_le _
    have z1 : 1 ≤ sizeLine := by omega
    have z2 : 2 ≤ sizeLine := by omega
    have z3 : 3 ≤ sizeLine := by omega
    have cN : Str.ofString "\n" = sS [10] := eq_sS (by decide +kernel)
    have two : ∀ {H2 : Hp} {x y : Int}, Same H H2 → dueD d = .list [.int x, .int y] → 2 ≤ sizeLine ∧ ∀ r, H2 r = none → Q (.ref r) (upd H2 r (.lst [V.int x, V.int y])) := fun {H2 x y} s2 e => two_new s2 fun H' r s' hr' => q H' _ s' (by rw [e]; exact .lst (fun z => z) hr' (by show 2 ≤ 1000; decide) (.cons (.int _) (.cons (.int _) .nil)))
    refine ⟨_, rfl, _, _, _, _, isStr d, rfl, .ty _, dd.ty, kit_ty (kt_str d), _, rfl, ?_⟩
    cases hs : isStr d with
    | false => exact iteT (two (Same.refl H) (by cases d <;> first | rfl | cases hs))
    | true =>
    obtain ⟨s, rfl⟩ : ∃ s, d = .str s := by cases d <;> first | exact ⟨_, rfl⟩ | cases hs
    have ev : v = .str s := by cases dd; rfl
    subst ev
    obtain ⟨tl5, tlp, tch⟩ := tx s rfl
    have es : s = sS (tl s) := (sS_tl s).symm
    generalize hl : tl s = l at es tl5 tlp tch
    have due : dueD (.str s) = dueR (lwL l) := by show dueR (lwL (tl s)) = _; rw [hl]
    subst es
    clear dd hl hs
    refine iteF ⟨z0, fun e0 ne => ⟨z0, fun c0 nc => ⟨z0, fun h0 nh => ⟨z3, fun F0 nF => ?_⟩⟩⟩⟩
    have s1 := same_new (o := HO.tup []) ne
    have s2 := same_new (o := HO.tup []) nc
    have s3 := same_new (o := HO.tup []) nh
    have s4 := same_new (o := HO.lst [V.ref e0, V.ref c0, V.ref h0]) nF
    have s14 := s1.trans (s2.trans (s3.trans s4))
    have he := (s2.trans (s3.trans s4)) _ _ (upd_same (H := H) (a := e0) (o := HO.tup []))
    have hc := (s3.trans s4) _ _ (upd_same (H := upd H e0 (HO.tup [])) (a := c0) (o := HO.tup []))
    have hh := s4 _ _ (upd_same (H := upd (upd H e0 (HO.tup [])) c0 (HO.tup [])) (a := h0) (o := HO.tup []))
    have hF := upd_same (H := upd (upd (upd H e0 (HO.tup [])) c0 (HO.tup [])) h0 (HO.tup [])) (a := F0) (o := HO.lst [V.ref e0, V.ref c0, V.ref h0])
    generalize upd (upd (upd (upd H e0 (HO.tup [])) c0 (HO.tup [])) h0 (HO.tup [])) F0 (HO.lst [V.ref e0, V.ref c0, V.ref h0]) = H4 at s14 he hc hh hF ⊢
    have fr0 : Fr6 H4 F0 [] [] [] := ⟨.ref e0, .ref c0, .ref h0, hF, .tup he (by decide) .nil, .tup hc (by decide) .nil, .tup hh (by decide) .nil⟩
    refine ⟨_, _, rfl, ?_⟩
    refine ⟨_, rfl, ⟨_, rfl⟩, sS l, _, rfl, rfl, by decide, by rw [sS_len]; omega, fun p np => ?_⟩
    rw [cN, split_sS l (by decide)]
    have s5 := same_new (o := HO.lst (((cutA 10 [] l).map sS).map V.str)) np
    have hp : upd H4 p (HO.lst (((cutA 10 [] l).map sS).map V.str)) p = some (.lst ((cutA 10 [] l).map wV)) := by rw [upd_same, List.map_map]; rfl
    generalize upd H4 p (HO.lst (((cutA 10 [] l).map sS).map V.str)) = H5 at s5 hp ⊢
    have cl5 := cutA_len 10 l []
    have xl : ((cutA 10 [] l).map wV).length = (cutA 10 [] l).length := List.length_map ..
    have s15 := s14.trans s5
    have fr5 := fr0.same s5
    refine ⟨p, _, rfl, SqL.of hp, for_it (walk_enum (K := K) (a := p) (xs := (cutA 10 [] l).map wV)) (fun i σ H6 => ∃ (Fv : Addr) (svo : Option Bool) (ps : Lns) (n0 : Nat) (y3 y4 y5 y6 y7 y8 y9 y10 : Option V), σ = [some (.str (sS l)), some (.ref Fv), some (svV svo), y3, y4, y5, y6, y7, y8, y9, y10] ∧ Same H5 H6 ∧ Fr6 H6 Fv (esR ps) (clR ps) (hoR ps) ∧ (svo = none → ps = [] ∧ lwN (cutA 10 [] l) i = []) ∧ ∀ sv, svo = some sv → gdR sv ps ∧ lwN (cutA 10 [] l) i = (n0, [firstL sv]) :: ps)
      ⟨F0, none, [], 0, none, none, none, none, none, none, none, none, rfl, .refl _, fr5, fun _ => ⟨rfl, rfl⟩, fun _ z => nomatch z⟩ (fun i σ H6 _ pp => by obtain ⟨_, _, _, _, _, _, _, _, _, _, _, _, _, pp, _⟩ := pp; exact SqL.of (pp _ _ hp)) (fun i x σ H6 H7 hi pp yy => ?_) (fun σ H6 pp => ?_)⟩
    · obtain ⟨Fv, svo, ps, n0, y3, y4, y5, y6, y7, y8, y9, y10, rfl, s6, fr6, kn, ks⟩ := pp
      obtain ⟨T, v1, v2, rfl, nT, rfl, f1, f2⟩ := yy
      have f1' : v1 = .int ((i : Nat) : Int) := (Option.some.inj f1).symm
      subst f1'
      obtain ⟨xi, hxi, rfl⟩ := map_get f2
      have s7 := same_new (o := HO.tup [.int ((i : Nat) : Int), wV xi]) nT
      have hm := List.mem_of_getElem? hxi
      have xle := tlp xi hm
      have s57 := s15.trans (s6.trans s7)
      refine ⟨T, _, rfl, SqT.of upd_same, rfl, _, _, rfl, _, _, rfl, rfl, ?_⟩
      refine ⟨.str (sS l), Fv, some (svV svo), i, xi, y5, y6, y7, y8, y9, y10, rfl, xle, fun H8 W s8 hW => ?_⟩
      have s58 := s57.trans s8
      have s68 := (s6.trans s7).trans s8
      have wll := wordsL_len (remL xi)
      have rl := remL_len xi
      rw [xl] at hi
      have rem : ∀ w ∈ wordsL (remL xi), chOk w ∧ w.length ≤ 800 := fun w hw => by
        refine ⟨fun c hc => ?_, by have := (wordsL_mem hw).2; omega⟩
        have w1 : w ∈ cutA 32 [] (remL xi) := (List.mem_filter.mp hw).1
        rcases cutA_sub 32 _ [] w w1 c hc with z | z
        · cases z
        · have z2 : c ∈ xi := (List.takeWhile_sublist _).subset z
          rcases cutA_sub 10 l [] xi hm c z2 with z3 | z3
          · cases z3
          · exact tch c z3
      have e6 : ps.length ≤ 6 := by
        cases svo with
        | none => rw [(kn rfl).1]; decide
        | some b => exact gdR_len (ks b rfl).1
      have le : (esR ps).length = ps.length := List.length_map ..
      have lc : (clR ps).length ≤ 6 := Nat.le_trans (List.length_filter_le _ _) (by rw [List.length_range]; exact e6)
      have lh : (hoR ps).length ≤ 6 := Nat.le_trans (List.length_filter_le _ _) (by rw [List.length_range]; exact e6)
      have nxt := lwN_next hxi
      have i1 : (((i + 1 : Nat)) : Int) = ((i : Nat) : Int) + 1 := by omega
      refine ⟨.str (sS l), Fv, W, i, svo, esR ps, clR ps, hoR ps, wordsL (remL xi), _, y6, y7, y8, y9, y10, rfl, fr6.same (s7.trans s8), hW, by omega, rem, by omega, lc, lh, by omega, fun e H9 s9 => ?_, fun e en w1 w2 H9 r s9 hr9 => ?_, fun en b hb H9 s9 => ?_, fun sv e es c H9 r s9 hr9 => ?_, fun sv es c H9 F' t7 t8 t9 t10 s9 fr9 => ?_⟩
      · rw [if_neg (by rw [e]; decide), List.append_nil] at nxt
        refine ⟨Fv, svo, ps, n0, _, _, _, _, _, _, _, _, rfl, s68.trans s9, fr6.same ((s7.trans s8).trans s9), fun z => ?_, fun sv z => ?_⟩
        · rw [nxt]; exact kn z
        · rw [nxt]; exact ks sv z
      · obtain ⟨r9, er⟩ := lw_at hxi e
        rw [(kn en).2, List.nil_append] at er
        rw [← i1] at hr9
        refine q H9 _ (s58.trans s9) ?_
        rw [due, er, dueR_first w1 w2]
        exact .lst (fun z => z) hr9 (by show 2 ≤ 1000; decide) (.cons (.int _) (.cons (.int _) .nil))
      · rw [if_pos (by rw [hb]; exact Nat.zero_lt_one), (kn en).2, List.nil_append, hb] at nxt
        refine ⟨Fv, some b, ps, i + 1, _, _, _, _, _, _, _, _, rfl, s68.trans s9, fr6.same ((s7.trans s8).trans s9), (fun z => nomatch z), fun sv z => ?_⟩
        cases z
        rw [(kn en).1]
        exact ⟨fun i p z => by simp at z, nxt⟩
      · obtain ⟨r9, er⟩ := lw_at hxi e
        rw [(ks sv es).2, List.cons_append] at er
        rw [← i1] at hr9
        rw [le] at c hr9
        refine q H9 _ (s58.trans s9) ?_
        rw [due, er, dueR_bad (q := (i + 1, wordsL (remL xi))) (ks sv es).1 c]
        exact .lst (fun z => z) hr9 (by show 2 ≤ 1000; decide) (.cons (.int _) (.cons (.int _) .nil))
      · have e : wordsL (remL xi) ≠ [] := fun z => by
          rw [z] at c
          obtain ⟨r, h, _⟩ := klC_ok c
          cases h
        rw [if_pos (List.length_pos_iff.mpr e), (ks sv es).2, List.cons_append] at nxt
        rw [le] at c fr9
        refine ⟨F', some sv, ps ++ [(i + 1, wordsL (remL xi))], n0, _, _, _, _, _, _, _, _, rfl, s68.trans s9, ?_, (fun z => nomatch z), fun sv' z => ?_⟩
        · rw [esR_snoc, clR_snoc, hoR_snoc]; exact fr9
        · cases z
          exact ⟨gdR_snoc (ks sv es).1 c, nxt⟩
    · obtain ⟨Fv, svo, ps, n0, y3, y4, y5, y6, y7, y8, y9, y10, rfl, s6, fr6, kn, ks⟩ := pp
      rw [xl, lwN_all] at kn ks
      have s16 := s15.trans s6
      cases svo with
      | none =>
        refine ⟨_, rfl, rfl, _, rfl, iteT (two s16 ?_)⟩
        rw [due, (kn rfl).2]; rfl
      | some sv =>
        obtain ⟨gd, elw⟩ := ks sv rfl
        obtain ⟨e, c, h, hF6, te, tc, th⟩ := id fr6
        obtain ⟨ae, xe, rfl, hae, xel, tae⟩ := tu_elders te
        refine ⟨_, rfl, rfl, _, rfl, iteF ⟨_, rfl, Fv, _, 0, .ref ae, rfl, rfl, SqL.of hF6, atI_nat (j := 0) rfl, z0, fun p2 n2 => ?_⟩⟩
        have s7 := same_new (o := HO.tup []) n2
        refine ⟨ae, p2, xe, rfl, rfl, SqT.of (s7 _ _ hae), SqT.of upd_same, _, rfl, ?_⟩
        by_cases p0 : ps = []
        · subst p0
          have x0 : xe = [] := List.length_eq_zero_iff.mp xel
          subst x0
          refine iteT (two (s16.trans s7) ?_)
          rw [due, elw, dueR_none]
        · have xne : xe.isEmpty = false := by
            cases xe with
            | nil => exact absurd (List.length_eq_zero_iff.mp (by rw [← List.length_map (f := fun p => (klV p.2).1)]; exact xel.symm)) p0
            | cons a b => rfl
          refine iteE xne ⟨_, rfl, _, rfl, z1, fun p3 n3 => ?_⟩
          have s8 := same_new (o := HO.lst [V.bl sv]) n3
          refine ⟨Fv, p3, _, _, rfl, rfl, (s7.trans s8) _ _ hF6, upd_same, (by show 3 + 1 ≤ sizeLine; omega), fun p4 n4 => ?_⟩
          have s9 := same_new (o := HO.lst ([V.ref ae, c, h] ++ [V.bl sv])) n4
          refine ⟨p4, _, rfl, .inl upd_same, fun r H10 s10 hr10 => ?_⟩
          have s610 := (s7.trans s8).trans (s9.trans s10)
          refine q H10 _ (s16.trans s610) ?_
          rw [due, elw, dueR_ok gd p0]
          exact .tup (fun z => z) hr10 (by show 4 ≤ 1000; decide) (.cons (te.same s610).da (.cons (tc.same s610).da (.cons (th.same s610).da (.cons (.bl _) .nil))))
end
end Kc

set_option Elab.async false
set_option linter.all false
set_option maxRecDepth 100000
set_option maxHeartbeats 4000000
/-! try with several except clauses, some with a name and some without. -/
namespace Kx
open PySem PySem.Spec PyProof.Rows L2
abbrev Cl := Value × Option Nat × (Addr → Value → Option Addr → TS)
/-- the ends behind a clause whose name goes -/
def offs (i : Nat) (D : Ends) : Ends := { nx := fun σ' H' => D.nx (σ'.set i none) H', rt := D.rt, bk := fun σ' H' => D.bk (σ'.set i none) H', ct := fun σ' H' => D.ct (σ'.set i none) H' }
/-- what the clauses wish of an exception of the body, one after the other -/
def wMix (K : PySem.W.Frag) (Wout : WX) (D : Ends) : List Cl → WX
  | [] => Wout
  | (c, i, ts) :: r => fun cls d σ H => ∃ b, PySem.W.exmOne K cls c = some b ∧ (b = true → ∀ a, H a = none → (match i with | none => ts a cls d D σ H | some j => ts a cls d (offs j D) (σ.set j (some (.ref a))) H)) ∧ (b = false → wMix K Wout D r cls d σ H)
inductive MixOk (X : Cx) : List ExceptHandler → List Cl → Prop
  | nil : MixOk X [] []
  | one {x : Str} {c : Value} {ts : Addr → Value → Option Addr → TS} {b₀ : Stmt} {suite : List Stmt} {np pos' : Pos} {hds : List ExceptHandler} {l : List Cl} (hc : Names X x c)
      (hsu : ∀ (a : Addr) (oe : Obj) (cls : Value) (d : Option Addr) (pn : List (Addr × Obj)), Zc cls d oe → (∃ vs, oe.data = .fields vs) → PSs (X.suite a ((a, oe) :: pn)) (b₀ :: suite) (ts a cls d)) (r : MixOk X hds l) :
      MixOk X (.ExceptHandler (some (.Name x np)) none (b₀ :: suite) pos' :: hds) ((c, none, ts) :: l)
  | nam {x n : Str} {c : Value} {i : Nat} {ts : Addr → Value → Option Addr → TS} {b₀ : Stmt} {suite : List Stmt} {np pos' : Pos} {hds : List ExceptHandler} {l : List Cl} (hN : X.N.Nodup) (hi : X.N[i]? = some n) (hln : X.env.kindOf n = some .local) (hc : Names X x c)
      (hsu : ∀ (a : Addr) (oe : Obj) (cls : Value) (d : Option Addr) (pn : List (Addr × Obj)), Zc cls d oe → (∃ vs, oe.data = .fields vs) → PSs (X.suite a ((a, oe) :: pn)) (b₀ :: suite) (ts a cls d)) (r : MixOk X hds l) :
      MixOk X (.ExceptHandler (some (.Name x np)) (some n) (b₀ :: suite) pos' :: hds) ((c, some i, ts) :: l)
section
variable {X : Cx} {body : List Stmt} {h₀ : ExceptHandler} {hds : List ExceptHandler} {l : List Cl} {pos : Pos} {tb : WX → TS} {Wout : WX}
theorem ps_try_mix (hs : X.stack = X.env :: X.outer) (hf : X.env.frame = some X.env.locals) (tk : Takes X Wout)
    (hb : ∀ (W : WX) (pn : List (Addr × Obj)) (xe : Value → Shared → Prop), Takes (X.tr pn xe) W → PassesOwn (model X.prog X.w) X.A X.env xe → PSs (X.tr pn xe) body (tb W))
    (hh : MixOk X (h₀ :: hds) l) : PS X (.Try body (h₀ :: hds) [] [] pos) (fun D σ H => tb (wMix X.K Wout D l) D σ H) := by
  refine ⟨fun pins s σ H D I h => ?_⟩
  have ok := I.ok
  have hfr : X.A.frames = some (X.env :: X.outer) := by rw [ok.frames, hs]
  refine wpAny_Try_except ?_
  refine wpAny_mono ((hb (wMix X.K Wout D l) (X.pn ++ pins) (fun e s₁ => wpAny (model X.prog X.w) X.A (noteFrame e X.env) (fun _ s₂ => wpAny (model X.prog X.w) X.A (setFlight e none) (fun _ s₃ =>
    wpAny (model X.prog X.w) X.A (handleBy e X.env (h₀ :: hds)) (SP X pins D) X.xe s₃) X.xe s₂) X.xe s₁) (fun u s' xx => ?_) PassesOwn.looking).run [] s σ H D (I.toTry _) h) (fun f s1 hsp => ?_) (fun e s1 he => he)
  · -- the catch
    obtain ⟨a, B, sI, pins', σ', H', cls, d, rfl, J', nb, up, sky, na, os, ag, w⟩ := xx
    have J : Inv X pins σ' H' sI := J'.ofTry ok
    have sky' : Sky B (X.env :: X.outer) a (Zc cls d) X.env.locals s'.heap := by rw [← hs]; exact sky
    show wpAny (model X.prog X.w) X.A (noteFrame (.ref a) X.env) _ _ _
    refine Sky.land Zc.steady hfr hf sky' fun h3 fl3 up3 => ?_
    have J3 : Inv X pins σ' H' { s' with heap := h3 } := J.landed nb fl3.1 (up.trans up3) os ag
    obtain ⟨oe3, vs3, he3, hz3, hd3⟩ := fl3.there
    have notFr : ∀ {h : Heap} {o : Obj} {vs : Array Value}, h.FunFrames B (X.env :: X.outer) → h.get? a = some o → o.data = .fields vs → a ∉ frs (X.env :: X.outer) := fun {h o vs} ff e dd hm => by
      obtain ⟨_, o', e', hnf⟩ := ff.mem hm
      rw [e] at e'; cases e'
      exact hnf _ dd
    have nfr := notFr fl3.2.2.1 he3 hd3
    have nL : a ≠ X.env.locals := fun z => nfr (List.mem_filterMap.mpr ⟨X.env, List.mem_cons_self, by rw [hf, z]⟩)
    have nF : a ∉ X.fs := fun hm => by
      obtain ⟨e, he, q⟩ := List.mem_filterMap.mp hm
      exact nfr (List.mem_filterMap.mpr ⟨e, List.mem_cons_of_mem _ he, q⟩)
    have S3 := J3.suite he3 hd3 na nL nF
    have LT : PySem.W.Looks (model X.prog X.w) h3 (typeOf (.ref a)) cls := fun A Q E s k q => wpAny_typeOf_ref (k _ _ he3) (by rw [hz3.1]; exact q)
    have test : ∀ {x : Str} {np : Pos} {c : Value}, Names X x c → ∀ {Q : Value → Shared → Prop} {E : Value → Shared → Prop}, Q c { s' with heap := h3 } → wpAny (model X.prog X.w) (X.A.mark (some (.ref a))) (eval (.Name x np) X.env) Q E { s' with heap := h3 } := fun {x np c} hc {Q E} q => by
      obtain ⟨hg, hdbg, hm | ⟨hm, hv, hnn⟩⟩ := hc
      · exact ld_glob (X := X.suite a ((a, oe3) :: (X.pn ++ pins))) S3 hg hm q hdbg
      · exact ld_blt (X := X.suite a ((a, oe3) :: (X.pn ++ pins))) S3 hg hm hv q hnn hdbg
    have go : ∀ {hds' : List ExceptHandler} {l' : List Cl}, MixOk X hds' l' → wMix X.K Wout D l' cls d σ' H' →
        wpAny (model X.prog X.w) X.A (handleBy (.ref a) X.env hds') (SP X pins D) X.xe { s' with heap := h3 } := by
      intro hds' l' hk
      induction hk with
      | nil =>
        intro w
        refine wpAny_handleBy_nil ?_
        obtain ⟨k1, k2, k3, oe, vs, T, oT, ts', he, hz, hd, h1, hr⟩ := id fl3
        unfold PySem.passOn
        refine wpAny_bind (wpAny_field he hd h1 ?_)
        rw [if_neg (show ¬ ((Value.ref T == Value.none) = true) from by simp)]
        have fin : wpAny (model X.prog X.w) X.A (setFlight (.ref a) X.env.frame) (fun _ s4 => wpAny (model X.prog X.w) X.A (throw (.ref a) : Sem Flow) (SP X pins D) X.xe s4) X.xe { s' with heap := h3 } := by
          rw [hf]
          refine HandSPX.setFlight_upZ fl3 fun h4 hh4 up4 => wpAny_throw (tk _ _ ?_)
          exact ⟨a, B, sI, pins, σ', H', cls, d, rfl, J, nb, (up.trans up3).trans up4, .inr (.inr (by rw [hs]; exact hh4)), na, os, ag, w⟩
        first
          | exact wpAny_bind (wpAny_pure (wpAny_bind fin))
          | exact wpAny_bind fin
      | @one x c ts b₀ suite np pos' hds2 l2 hc hsu r ih =>
        intro w
        obtain ⟨b, hb1, hyes, hno⟩ := w
        refine wpAny_handleBy_cons (codeAny_handlers_test ?_) (by intro q; cases q)
        have LM := PySem.W.exm_one (M := model X.prog X.w) (J3.kIn) LT hb1
        refine test hc (LM.here ?_)
        cases b with
        | true =>
          refine codeAny_handlers_suite ?_
          refine HandSPX.lands_againZ fl3 fun h4 fl4 up4 => ?_
          have J4 : Inv X pins σ' H' { s' with heap := h4 } := J.landed nb fl4.1 ((up.trans up3).trans up4) os ag
          obtain ⟨oe4, vs4, he4, hz4, hd4⟩ := fl4.there
          have S4 := J4.suite he4 hd4 na nL nF
          refine wpAny_mono ((hsu a oe4 cls d (X.pn ++ pins) hz4 ⟨_, hd4⟩).run [] _ _ H' _ S4 (hyes rfl a na)) (fun f s6 hsp => ?_) (fun _ _ z => False.elim z)
          cases f with
          | next =>
            obtain ⟨σ6, H6, S6, q6⟩ := hsp
            exact ⟨_, _, S6.unsuite ok, q6⟩
          | brk =>
            obtain ⟨σ6, H6, S6, q6⟩ := hsp
            exact ⟨_, _, S6.unsuite ok, q6⟩
          | cont =>
            obtain ⟨σ6, H6, S6, q6⟩ := hsp
            exact ⟨_, _, S6.unsuite ok, q6⟩
          | ret u =>
            obtain ⟨v6, σ6, H6, S6, r6, q6⟩ := hsp
            exact ⟨_, _, _, S6.unsuite ok, r6, q6⟩
        | false =>
          show wpAny _ X.A (handleBy (.ref a) X.env hds2) _ _ _
          exact ih (hno rfl)
      | @nam x n c i ts b₀ suite np pos' hds2 l2 hN hi hln hc hsu r ih =>
        intro w
        have hloc : Loc X.env.scope n := .inl hln
        obtain ⟨b, hb1, hyes, hno⟩ := w
        refine wpAny_handleBy_cons (codeAny_handlers_test ?_) (by intro q; cases q)
        have LM := PySem.W.exm_one (M := model X.prog X.w) (J3.kIn) LT hb1
        refine test hc (LM.here ?_)
        cases b with
        | true =>
          refine codeAny_handlers_suite_as ?_
          refine HandSPX.lands_againZ fl3 fun h4 fl4 up4 => ?_
          have J4 : Inv X pins σ' H' { s' with heap := h4 } := J.landed nb fl4.1 ((up.trans up3).trans up4) os ag
          obtain ⟨oe4, vs4, he4, hz4, hd4⟩ := fl4.there
          have S4 := J4.suite he4 hd4 na nL nF
          refine store_ok (X := X.suite a ((a, oe4) :: (X.pn ++ pins))) (v := .ref a) S4 hN hi hloc rfl (fun s5 S5 => ?_) (.inr hln)
          refine wpAny_mono ((hsu a oe4 cls d (X.pn ++ pins) hz4 ⟨_, hd4⟩).run [] s5 _ H' _ S5 (hyes rfl a na)) (fun f s6 hsp => ?_) (fun _ _ z => False.elim z)
          have end_ : ∀ {σ6 : L2.St} {H6 : Hp} {Q : Shared → Prop}, Inv (X.suite a ((a, oe4) :: (X.pn ++ pins))) [] σ6 H6 s6 → (∀ s7, Inv X pins (σ6.set i none) H6 s7 → Q s7) →
              wpAny (model X.prog X.w) X.A (do bindName X.env n .none; unbindBehindTheSuite X.env n pos') (fun _ s7 => Q s7) X.xe s6 := fun {σ6 H6 Q} S6 hq => gone_ok (S6.unsuite ok) hN hi hln hq
          cases f with
          | next =>
            obtain ⟨σ6, H6, S6, q6⟩ := hsp
            exact end_ S6 fun s7 J7 => ⟨_, _, J7, q6⟩
          | brk =>
            obtain ⟨σ6, H6, S6, q6⟩ := hsp
            exact end_ S6 fun s7 J7 => ⟨_, _, J7, q6⟩
          | cont =>
            obtain ⟨σ6, H6, S6, q6⟩ := hsp
            exact end_ S6 fun s7 J7 => ⟨_, _, J7, q6⟩
          | ret u =>
            obtain ⟨v6, σ6, H6, S6, r6, q6⟩ := hsp
            exact end_ S6 fun s7 J7 => ⟨_, _, _, J7, r6, q6⟩
        | false =>
          show wpAny _ X.A (handleBy (.ref a) X.env hds2) _ _ _
          exact ih (hno rfl)
    exact go hh w
  · cases f with
    | next =>
      obtain ⟨σ', H', J', q⟩ := hsp
      exact wpAny_execs_nil ⟨σ', H', J'.ofTry ok, q⟩
    | brk =>
      obtain ⟨σ', H', J', q⟩ := hsp
      exact ⟨σ', H', J'.ofTry ok, q⟩
    | cont =>
      obtain ⟨σ', H', J', q⟩ := hsp
      exact ⟨σ', H', J'.ofTry ok, q⟩
    | ret u =>
      obtain ⟨v, σ', H', J', r, q⟩ := hsp
      exact ⟨v, σ', H', J'.ofTry ok, r, q⟩
end
end Kx

set_option Elab.async false
set_option linter.all false
set_option maxRecDepth 100000
set_option maxHeartbeats 4000000
/-! which clause takes which error -/
namespace Kc
open PySem PySem.Spec PyProof.Rows L2 Kg Kd Kx
/-- errors of which none lies under another -/
structure ExmL (K : PySem.W.Frag) (l : List Addr) : Prop where
  ex : ∀ r ∈ l, ∀ c ∈ l, PySem.W.exmOne K (.ref r) (.ref c) = some (decide (r = c))
  nd : l.Nodup
theorem ExmL.yes {K : PySem.W.Frag} {l : List Addr} (E : ExmL K l) {i : Nat} {r : Addr} (h : l[i]? = some r) : PySem.W.exmOne K (.ref r) (.ref r) = some true := by
  rw [E.ex r (List.mem_of_getElem? h) r (List.mem_of_getElem? h), decide_eq_true rfl]
theorem nodup_at {α : Type} : ∀ {l : List α} {i j : Nat} {r : α}, l.Nodup → l[i]? = some r → l[j]? = some r → i = j
  | [], i, _, _, _, hi, _ => by simp at hi
  | x :: l, 0, 0, _, _, _, _ => rfl
  | x :: l, 0, j + 1, r, h, hi, hj => by
    have e : x = r := by simpa using hi
    have m : r ∈ l := List.mem_of_getElem? (by simpa using hj)
    exact absurd e ((List.pairwise_cons.mp h).1 r m)
  | x :: l, i + 1, 0, r, h, hi, hj => by
    have e : x = r := by simpa using hj
    have m : r ∈ l := List.mem_of_getElem? (by simpa using hi)
    exact absurd e ((List.pairwise_cons.mp h).1 r m)
  | x :: l, i + 1, j + 1, r, h, hi, hj => congrArg (· + 1) (nodup_at (List.pairwise_cons.mp h).2 (by simpa using hi) (by simpa using hj))
theorem ExmL.no {K : PySem.W.Frag} {l : List Addr} (E : ExmL K l) {i j : Nat} {r c : Addr} (h : l[i]? = some r) (g : l[j]? = some c) (ne : i ≠ j) : PySem.W.exmOne K (.ref r) (.ref c) = some false := by
  rw [E.ex r (List.mem_of_getElem? h) c (List.mem_of_getElem? g), decide_eq_false]
  intro z
  subst z
  exact ne (nodup_at E.nd h g)
def exmB (K : PySem.W.Frag) (l : List Addr) : Bool := (l.all fun r => l.all fun c => decide (PySem.W.exmOne K (.ref r) (.ref c) = some (decide (r = c)))) && decide (l.Nodup)
theorem exmB_ok {K : PySem.W.Frag} {l : List Addr} (h : exmB K l = true) : ExmL K l := by
  unfold exmB at h
  rw [Bool.and_eq_true] at h
  exact ⟨fun r hr c hc => of_decide_eq_true (List.all_eq_true.mp (List.all_eq_true.mp h.1 r hr) c hc), of_decide_eq_true h.2⟩
end Kc

set_option Elab.async false
set_option linter.all false
set_option maxRecDepth 100000
set_option maxHeartbeats 8000000
/-! what the program told of a text -/
namespace Kc
open PySem PySem.Spec PyProof.Rows L2 Kg Kd Kr Kf Kl Kx TL
abbrev sTo46 : Stmt := topS 41
abbrev nTo46 : List Str := ["_law_value", "_law_kinds", "error"]
theorem scTo46 : FnScope nTo46 ["_law_value"] (defScope sTo46) := ⟨rfl, rfl, rfl, by decide +kernel, rfl, by decide +kernel, by decide +kernel⟩
theorem lwL_59 {l : List Nat} (ch : chOk l) (h : ∀ p ∈ cutA 10 [] l, p.length ≤ 59) (n : l.length ≤ 800) : (∀ p ∈ cutA 10 [] l, p.length ≤ 800) ∧ (∀ p ∈ lwL l, p.2 ≠ [] ∧ p.2.length ≤ 900 ∧ ∀ w ∈ p.2, chOk w ∧ w.length ≤ 800) ∧ (lwL l).length ≤ 900 := by
  have h8 : ∀ p ∈ cutA 10 [] l, p.length ≤ 800 := fun p hp => by have := h p hp; omega
  refine ⟨h8, lwL_few ch h8, ?_⟩
  have a := lwL_len l
  have b := cutA_len 10 l []
  omega
/-- whether all these lines are right: else the first that is wrong -/
theorem gd_or (sv : Bool) (ps : Lns) : gdR sv ps ∨ ∃ a q b, ps = a ++ q :: b ∧ gdR sv a ∧ klC q.2 a.length sv ≠ 0 := by
  have key : ∀ (b a : Lns), gdR sv a → gdR sv (a ++ b) ∨ ∃ a' q b', a ++ b = a' ++ q :: b' ∧ gdR sv a' ∧ klC q.2 a'.length sv ≠ 0 := by
    intro b
    induction b with
    | nil => intro a h; left; rw [List.append_nil]; exact h
    | cons q b ih =>
      intro a h
      by_cases c : klC q.2 a.length sv = 0
      · have z := ih (a ++ [q]) (gdR_snoc h c)
        rw [List.append_assoc] at z
        exact z
      · exact .inr ⟨a, q, b, rfl, h, c⟩
  have := key ps [] fun i p z => by simp at z
  rwa [List.nil_append] at this
section
variable {P : Program} {w : World} {K : PySem.W.Frag} {mg : Str → Option Value} {base : Heap} {f : Addr} {fd : FuncData}
def spTo46 : Sp := fun vs H Q _ => ∃ (v : V) (d : PyData), vs = [v] ∧ Da Kd.nil H v d ∧ TxO d ∧ (∀ s, d = .str s → (tl s).length ≤ 800) ∧ ∀ H' u, Same H H' → Da Kd.nil H' u (dueD d) → Q u H'
theorem ok_to46 {C bt : Addr} (F : Fun K "_law_told" "_law_told" sTo46 f fd) (T : KC K C) (G : CalX P w K mg base "read_kinds" 9 ["value"] (spRdkX C bt)) (gt : mg "BadText" = some (.ref bt)) (xt : XfC K bt) (n1 : PySem.W.findIn K (.ref bt) "line" = some none) (n2 : PySem.W.findIn K (.ref bt) "code" = some none) (xm : PySem.W.exmOne K (.ref bt) (.ref bt) = some true)
    (GE : PCal P w K mg base C "elders" 1 (getSp C "kept_elders")) (GC : PCal P w K mg base C "closed" 1 (getSp C "kept_closed")) (GH : PCal P w K mg base C "hollow" 1 (getSp C "kept_hollow")) (GS : PCal P w K mg base C "several" 1 (getSp C "kept_several")) : FnOk P w K mg base CX0 10 f fd ["_law_value"] spTo46 := by
  refine F.ok scTo46 (fun vs H Q E h => ?_) (fun cdv A outer s H vs Q E hr h => ?_)
  · obtain ⟨v, d, rfl, _⟩ := h
    rfl
  · obtain ⟨v, d, rfl, dd, tx, tx8, q⟩ := h
    obtain ⟨g, fg, gg, kg, bg, FG⟩ := G.ex
    have hr2 := hr.mono (show 2 ≤ 9 by decide)
    have z2 : 2 ≤ sizeLine := by rw [sizeLine_eq]; decide
    have z4 : 4 ≤ sizeLine := by rw [sizeLine_eq]; decide
    refine ⟨_, pss_cons (ps_try_mix rfl rfl L2.takes0
      (fun W pn xe tk _ => pss_one (ps_set (i := 1) scTo46.nd rfl (.inl rfl) (pe_callS FG hr (by rfl) gg kg bg (fun σ => passAtN tk σ) (pa_cons (pv 0) pa_nil))))
      (.nam (i := 2) scTo46.nd rfl rfl ⟨rfl, by decide, .inl gt⟩ (fun a oe cls d pn hz hf => pss_one (ps_ret (pe_lst (pa_cons (pe_xf xt n1 hz hf (pv 2)) (pa_cons (pe_xf xt n2 hz hf (pv 2)) pa_nil))))) .nil))
      (pss_one (ps_ret (pe_tup (pa_cons (pe_pcal (pv 1) T.cl GE hr2) (pa_cons (pe_pcal (pv 1) T.cl GC hr2) (pa_cons (pe_pcal (pv 1) T.cl GH hr2) (pa_cons (pe_pcal (pv 1) T.cl GS hr2) pa_nil))))))), ?_⟩
    refine ⟨_, rfl, ?_⟩
    cases hs : isStr d with
    | false =>
      have due : dueD d = .list [.int 0, .int 0] := by cases d <;> first | rfl | cases hs
      refine .inl ⟨v, d, rfl, dd, hs, fun H1 dx s1 hd => ⟨true, xm, fun _ a na => ⟨_, rfl, rfl, rfl, dx, _, _, rfl, hd, rfl, _, rfl, rfl, rfl, dx, _, _, rfl, hd, rfl, ?_⟩, fun z => nomatch z⟩⟩
      refine two_new s1 fun H' r s' hr' => q H' _ s' ?_
      rw [due]
      exact .lst (fun z => z) hr' (by show 2 ≤ 1000; decide) (.cons (.int _) (.cons (.int _) .nil))
    | true =>
    obtain ⟨s, rfl⟩ : ∃ s, d = .str s := by cases d <;> first | exact ⟨_, rfl⟩ | cases hs
    have ev : v = .str s := by cases dd; rfl
    subst ev
    obtain ⟨tl5, tlp, tch⟩ := tx s rfl
    have tl8 := tx8 s rfl
    have es : s = sS (tl s) := (sS_tl s).symm
    generalize hl : tl s = l at es tl5 tlp tch tl8
    have due : dueD (.str s) = dueR (lwL l) := by show dueR (lwL (tl s)) = _; rw [hl]
    subst es
    clear dd hl hs
    obtain ⟨c8, lf, ln⟩ := lwL_59 tch tlp tl8
    rw [due] at q
    have caught : ∀ (a dx : Addr) (H1 H2 : Hp) (n c : Int), True := fun _ _ _ _ _ _ => trivial
    refine .inr ⟨l, rfl, ⟨tl5, c8⟩, lf, ln, fun e0 => ?_, fun n0 w0 ps e0 => ⟨fun w1 w2 => ?_, fun sv ew => ⟨fun i p hp ok bad => ?_, fun p0 => ?_, fun pne ok H1 k s1 nk ko => ?_⟩⟩⟩
    · refine fun H1 dx s1 hd => ⟨true, xm, fun _ a na => ⟨_, rfl, rfl, rfl, dx, _, _, rfl, hd, rfl, _, rfl, rfl, rfl, dx, _, _, rfl, hd, rfl, ?_⟩, fun z => nomatch z⟩
      refine two_new s1 fun H' r s' hr' => q H' _ s' ?_
      rw [e0]
      exact .lst (fun z => z) hr' (by show 2 ≤ 1000; decide) (.cons (.int _) (.cons (.int _) .nil))
    · refine fun H1 dx s1 hd => ⟨true, xm, fun _ a na => ⟨_, rfl, rfl, rfl, dx, _, _, rfl, hd, rfl, _, rfl, rfl, rfl, dx, _, _, rfl, hd, rfl, ?_⟩, fun z => nomatch z⟩
      refine two_new s1 fun H' r s' hr' => q H' _ s' ?_
      rw [e0, dueR_first w1 w2]
      exact .lst (fun z => z) hr' (by show 2 ≤ 1000; decide) (.cons (.int _) (.cons (.int _) .nil))
    · refine fun H1 dx s1 hd => ⟨true, xm, fun _ a na => ⟨_, rfl, rfl, rfl, dx, _, _, rfl, hd, rfl, _, rfl, rfl, rfl, dx, _, _, rfl, hd, rfl, ?_⟩, fun z => nomatch z⟩
      refine two_new s1 fun H' r s' hr' => q H' _ s' ?_
      have il := (List.getElem?_eq_some_iff.mp hp).1
      have ep : ps = ps.take i ++ p :: ps.drop (i + 1) := by
        have e := (List.take_append_drop i ps).symm
        rw [List.drop_eq_getElem_cons il, (List.getElem?_eq_some_iff.mp hp).2] at e
        exact e
      have tk : (ps.take i).length = i := by rw [List.length_take]; omega
      have gd : gdR sv (ps.take i) := fun j q hq => by
        have jl := (List.getElem?_eq_some_iff.mp hq).1
        rw [List.getElem?_take_of_lt (by omega)] at hq
        exact ok j q (by omega) hq
      have bad' : klC p.2 (ps.take i).length sv ≠ 0 := by rw [tk]; exact bad
      rw [e0, ew, ep, dueR_bad gd bad', tk]
      exact .lst (fun z => z) hr' (by show 2 ≤ 1000; decide) (.cons (.int _) (.cons (.int _) .nil))
    · refine fun H1 dx s1 hd => ⟨true, xm, fun _ a na => ⟨_, rfl, rfl, rfl, dx, _, _, rfl, hd, rfl, _, rfl, rfl, rfl, dx, _, _, rfl, hd, rfl, ?_⟩, fun z => nomatch z⟩
      refine two_new s1 fun H' r s' hr' => q H' _ s' ?_
      rw [e0, ew, p0, dueR_none]
      exact .lst (fun z => z) hr' (by show 2 ≤ 1000; decide) (.cons (.int _) (.cons (.int _) .nil))
    · obtain ⟨⟨dx, ke, kc, kh, kt, hp, te, tc, th, _⟩, _⟩ := id ko
      refine ⟨_, rfl, k, dx, _, rfl, hp, k, dx, _, _, rfl, hp, rfl, ?_⟩
      refine ⟨_, rfl, k, dx, _, rfl, hp, k, dx, _, _, rfl, hp, rfl, ?_⟩
      refine ⟨_, rfl, k, dx, _, rfl, hp, k, dx, _, _, rfl, hp, rfl, ?_⟩
      refine ⟨_, rfl, k, dx, _, rfl, hp, k, dx, _, _, rfl, hp, rfl, ?_⟩
      refine ⟨z4, fun t nt => ?_⟩
      have s2 := same_new (o := HO.tup [ke, kc, kh, .bl sv]) nt
      refine q _ _ (s1.trans s2) ?_
      rw [e0, ew, dueR_ok ok pne]
      exact .tup (fun z => z) upd_same (by show 4 ≤ 1000; decide) (.cons (te.same s2).da (.cons (tc.same s2).da (.cons (th.same s2).da (.cons (.bl _) .nil))))
end
end Kc

set_option Elab.async false
set_option linter.all false
set_option maxRecDepth 100000
set_option maxHeartbeats 4000000
namespace Kc
open PySem PySem.Spec PyProof.Rows L2 Kg Kd Kr Kf
abbrev sAbo : Stmt := topS 37
abbrev nAbo : List Str := ["_law_elders", "_law_found", "_law_kind", "_law_row", "_law_elder", "_law_k"]
theorem scAbo : FnScope nAbo ["_law_elders"] (defScope sAbo) := ⟨rfl, rfl, rfl, by decide +kernel, rfl, by decide +kernel, by decide +kernel⟩
/-- [e(i) for i in range(n)] where nothing that stands is changed -/
theorem lc_map {n : Nat} {g : TG} {te : TE} {vs : List Nat} {σ : L2.St} {H1 : Hp} {D : Addr} {Qd : Hp → Prop} (f : Nat → V) (nD : H1 D = none) (hn : n ≤ 900)
    (hs : ∀ (i : Nat) (H : Hp), i < n → Same H1 H → ∀ (R : V → Hp → Prop), (∀ H', Same H H' → R (f i) H') →
      g (.int (0 + (i : Nat))) (wipe σ vs) H fun σ2 H2 => wipe σ2 vs = wipe σ vs ∧ te σ2 H2 R)
    (hd : ∀ H, Same H1 H → H D = some (.lst ((List.range n).map f)) → Qd H) (mono : ∀ {x σ H A B}, (∀ s h, A s h → B s h) → g x σ H A → g x σ H B) :
    ∃ W : Nat → Nat → Hp → Prop, (∃ m, W 0 m (upd H1 D (.lst []))) ∧ ∀ i m H, W i m H →
      ((Itr 0 n).stop i H ∧ Qd H) ∨ ((Itr 0 n).go i H ∧ ∃ Nx : Hp → Prop, (∀ H', Nx H' → ∃ m', m' < m ∧ W (i + 1) m' H') ∧ ∀ x H', (Itr 0 n).yld i H x H' → g x (wipe σ vs) H' fun σ2 H2 => wipe σ2 vs = wipe σ vs ∧ tYes σ2 H2 fun b H3 =>
        if b = true then te σ2 H3 fun y H4 => ∃ acc, H4 D = some (.lst acc) ∧ acc.length < sizeLine ∧ Nx (upd H4 D (.lst (acc ++ [y]))) else Nx H3) := by
  refine lc_range (lo := 0) (n := n) (fun i H => Same H1 H ∧ H D = some (.lst ((List.range i).map f))) ⟨same_new nD, upd_same⟩ (fun i H hi p => ?_) (fun H p => hd H p.1 p.2)
  refine mono (A := _) (fun s2 h2 z => ⟨z.1, z.2⟩) (hs i H hi p.1 (fun y H4 => ∃ acc, H4 D = some (.lst acc) ∧ acc.length < sizeLine ∧ (Same H1 (upd H4 D (.lst (acc ++ [y]))) ∧ (upd H4 D (.lst (acc ++ [y]))) D = some (.lst ((List.range (i + 1)).map f)))) (fun H' s' => ?_))
  refine ⟨_, s' _ _ p.2, ?_, fun b o z => ?_, ?_⟩
  · rw [List.length_map, List.length_range]
    exact small1000 (by omega)
  · rw [upd_ne (ne_of_none z nD)]; exact s' _ _ (p.1 _ _ z)
  · rw [upd_same, List.range_succ, List.map_append]; rfl
theorem gName_mono {i : Nat} {x : V} {σ : L2.St} {H : Hp} {A B : L2.St → Hp → Prop} (h : ∀ s h, A s h → B s h) (z : gName i x σ H A) : gName i x σ H B := h _ _ z
/-- a row of truths -/
def bv (n : Nat) (f : Nat → Bool) : List V := (List.range n).map fun j => V.bl (f j)
def bd (n : Nat) (f : Nat → Bool) : List PyData := (List.range n).map fun j => PyData.bool (f j)
def abvD (es : List (List Nat)) : PyData := .list ((List.range es.length).map fun k => .list (bd es.length (abv es k)))
theorem bv_len (n : Nat) (f : Nat → Bool) : (bv n f).length = n := by unfold bv; rw [List.length_map, List.length_range]
theorem bv_at {n : Nat} {f : Nat → Bool} {i : Nat} (h : i < n) : (bv n f)[i]? = some (.bl (f i)) := by unfold bv; rw [List.getElem?_map, List.getElem?_range h]; rfl
theorem bv_congr {n : Nat} {f g : Nat → Bool} (h : ∀ j, f j = g j) : bv n f = bv n g := by rw [show f = g from funext h]
theorem da_bls {av : Addr → Prop} {H : Hp} {f : Nat → Bool} : ∀ l : List Nat, DaAll av H (l.map fun j => V.bl (f j)) (l.map fun j => PyData.bool (f j))
  | [] => .nil
  | a :: l => .cons (.bl (f a)) (da_bls l)
theorem da_of {av : Addr → Prop} {H : Hp} : ∀ {rows : List V} {ds : List PyData}, rows.length = ds.length → (∀ (i : Nat) (v : V) (d : PyData), rows[i]? = some v → ds[i]? = some d → Da av H v d) → DaAll av H rows ds
  | [], [], _, _ => .nil
  | [], _ :: _, h, _ => nomatch h
  | _ :: _, [], h, _ => nomatch h
  | v :: rows, d :: ds, h, k => .cons (k 0 v d rfl rfl) (da_of (by simpa using h) (fun i v' d' h1 h2 => k (i + 1) v' d' (by simpa using h1) (by simpa using h2)))
theorem da_row {av : Addr → Prop} {H : Hp} {r : Addr} {n : Nat} {f : Nat → Bool} (na : ¬ av r) (hn : n ≤ 900) (h : H r = some (.lst (bv n f))) : Da av H (.ref r) (.list (bd n f)) := .lst na h (by rw [bv_len]; omega) (da_bls _)
/-- the rows so far -/
structure Rws (H : Hp) (L : Addr) (rows : List V) (i n : Nat) (es : List (List Nat)) : Prop where
  at_ : H L = some (.lst rows)
  len : rows.length = i
  row : ∀ m, m < i → ∃ r, rows[m]? = some (.ref r) ∧ r ≠ L ∧ H r = some (.lst (bv n (abv es m)))
theorem Rws.same {H H' : Hp} {L : Addr} {rows : List V} {i n : Nat} {es : List (List Nat)} (R : Rws H L rows i n es) (s : Same H H') : Rws H' L rows i n es :=
  ⟨s _ _ R.at_, R.len, fun m hm => by obtain ⟨r, h1, h2, h3⟩ := R.row m hm; exact ⟨r, h1, h2, s _ _ h3⟩⟩
theorem Rws.snoc {H : Hp} {L r : Addr} {rows : List V} {i n : Nat} {es : List (List Nat)} (R : Rws H L rows i n es) (hr : H r = some (.lst (bv n (abv es i)))) (ne : r ≠ L) : Rws (upd H L (.lst (rows ++ [.ref r]))) L (rows ++ [.ref r]) (i + 1) n es := by
  refine ⟨upd_same, by rw [List.length_append, R.len]; rfl, fun m hm => ?_⟩
  by_cases c : m < i
  · obtain ⟨q, h1, h2, h3⟩ := R.row m c
    exact ⟨q, by rw [List.getElem?_append_left (by rw [R.len]; exact c)]; exact h1, h2, by rw [upd_ne h2]; exact h3⟩
  · have e : m = i := by omega
    subst e
    refine ⟨r, ?_, ne, by rw [upd_ne ne]; exact hr⟩
    rw [List.getElem?_append_right (by rw [R.len]; exact Nat.le_refl _), R.len, Nat.sub_self]; rfl
/-- elders with lower numbers, not too many -/
structure Lw (es : List (List Nat)) : Prop where
  hi : es.length ≤ 12
  low : ∀ (k : Nat) (l : List Nat), es[k]? = some l → ∀ x ∈ l, x < k
theorem abv_row {es : List (List Nat)} {k j : Nat} {own : List Nat} (E : Lw es) (ho : es[k]? = some own) : (decide (j = k) || own.any (fun e => abv es e j)) = abv es k j := by
  have eo : es.getD k [] = own := by rw [List.getD_eq_getElem?_getD, ho]; rfl
  have z := abv_eq es k j
  rw [eo] at z
  rw [Bool.eq_iff_iff, z, Bool.or_eq_true, decide_eq_true_iff, List.any_eq_true]
  constructor
  · rintro (h | ⟨e, he, h⟩)
    · exact .inl h
    · exact .inr ⟨e, he, E.low k own ho e he, h⟩
  · rintro (h | ⟨e, he, _, h⟩)
    · exact .inl h
    · exact .inr ⟨e, he, h⟩
def spAboX : Sp := fun vs H Q _ => ∃ (v : V) (es : List (List Nat)), vs = [v] ∧ Tu H v (pdE es) ∧ Lw es ∧ ∀ H' L rows, Same H H' → H L = none → Rws H' L rows es.length es.length es → Q (.ref L) H'
def spAbo : Sp := fun vs H Q _ => ∃ (v : V) (es : List (List Nat)) (sv : Bool), vs = [v] ∧ Tu H v (pdE es) ∧ Eld es sv ∧ ∀ H' L rows, Same H H' → H L = none → Rws H' L rows es.length es.length es → Q (.ref L) H'
theorem Rws.da {H : Hp} {L : Addr} {rows : List V} {es : List (List Nat)} (R : Rws H L rows es.length es.length es) (n6 : es.length ≤ 6) : Da Kd.nil H (.ref L) (abvD es) := by
  refine .lst (fun z => z) R.at_ (by rw [R.len]; omega) (da_of (by rw [R.len, List.length_map, List.length_range]) fun i v d h1 h2 => ?_)
  have hi : i < es.length := by rw [← R.len]; exact (List.getElem?_eq_some_iff.mp h1).1
  obtain ⟨r, e1, _, e3⟩ := R.row i hi
  rw [List.getElem?_map, List.getElem?_range hi] at h2
  cases h1.symm.trans e1
  cases h2
  exact da_row (fun z => z) (by omega) e3
section
variable {P : Program} {w : World} {K : PySem.W.Frag} {mg : Str → Option Value} {base : Heap} {f : Addr} {fd : FuncData} {k : Nat}
theorem ok_aboX (F : Fun K "_law_above" "_law_above" sAbo f fd) (B : Bl mg) : FnOk P w K mg base CX0 (k + 1) f fd ["_law_elders"] spAboX := by
  refine F.ok scAbo (fun vs H Q E h => ?_) (fun cdv A outer s H vs Q E hr h => ?_)
  · obtain ⟨v, es, rfl, _⟩ := h
    rfl
  · obtain ⟨v, es, rfl, hv, EL, q⟩ := h
    obtain ⟨a, xs, rfl, ha, xl, hA⟩ := tu_elders hv
    have n6 := EL.hi
    refine ⟨_, pss_cons (ps_set (i := 1) scAbo.nd rfl (.inr rfl) (pe_lst pa_nil))
      (pss_cons (ps_for PassesOwn.never rfl (pi_range1 (by rfl) B.range (pa_cons (pe_callB call_len_seq (by rfl) B.len PySem.boot_len (pa_cons (pv 0) pa_nil)) pa_nil)) (pg_name (i := 2) scAbo.nd rfl (.inr rfl))
        (pss_cons (ps_set (i := 3) scAbo.nd rfl (.inr rfl) (pe_lc (own := [("_law_k", 5)]) (g := gName 5) rfl scAbo.nd (pi_range1 (by rfl) B.range (pa_cons (pe_callB call_len_seq (by rfl) B.len PySem.boot_len (pa_cons (pv 0) pa_nil)) pa_nil))
          (blkOk_by (N := nAbo) (sc := defScope sAbo) (by decide +kernel)) (fun _ _ _ _ _ => pg_name (i := 5) scAbo.nd rfl (Or.inl rfl)) (fun _ _ _ _ _ => pts_nil) (fun _ _ _ _ _ => pe_cmpR op_eq (pv 5) (pv 2) (nomark _))))
        (pss_cons (ps_for PassesOwn.never rfl (pi_tup (pe_ix ix_tup (pv 0) (pv 2) (fun _ _ => rfl))) (pg_name (i := 4) scAbo.nd rfl (.inr rfl))
          (pss_one (ps_set (i := 3) scAbo.nd rfl (.inr rfl) (pe_lc (own := [("_law_k", 5)]) (g := gName 5) rfl scAbo.nd (pi_range1 (by rfl) B.range (pa_cons (pe_callB call_len_seq (by rfl) B.len PySem.boot_len (pa_cons (pv 0) pa_nil)) pa_nil))
            (blkOk_by (N := nAbo) (sc := defScope sAbo) (by decide +kernel)) (fun _ _ _ _ _ => pg_name (i := 5) scAbo.nd rfl (Or.inl rfl)) (fun _ _ _ _ _ => pts_nil)
            (fun _ _ _ _ _ => pe_or (pe_ix (ix_listK (K := K) rfl) (pv 3) (pv 5) (fun _ _ => rfl)) (pe_one (pe_ix (ix_listK (K := K) rfl) (pe_ix (ix_listK (K := K) rfl) (pv 1) (pv 4) (fun _ _ => rfl)) (pv 5) (fun _ _ => rfl))))))))
        (pss_one (ps_expr (pe_bm PySem.F.plainAttrs_list PySem.F.slot_list_append PySem.F.type_list_append mt_append (pv 1) (pa_cons (pv 3) pa_nil)))))))
      (pss_one (ps_ret (pv 1)))), ?_⟩
    refine ⟨(show 0 ≤ sizeLine by decide), fun L nL => ?_⟩
    have s0 := same_new (o := HO.lst []) nL
    have e2 : ((es.length : Nat) : Int).toNat = es.length := Int.toNat_natCast _
    refine ⟨_, rfl, a, xs, rfl, .inr (SqT.of (s0 _ _ ha)), (es.length : Nat), by rw [xl], by omega, by omega, for_range (lo := 0) (n := ((es.length : Nat) : Int).toNat) (fun i σ H1 => ∃ (y2 y3 y4 y5 : Option V) (rows : List V), σ = [some (.ref a), some (.ref L), y2, y3, y4, y5] ∧ Same H H1 ∧ Rws H1 L rows i es.length es)
      ⟨none, none, none, none, [], rfl, s0, ⟨upd_same, rfl, fun m hm => absurd hm (Nat.not_lt_zero m)⟩⟩ (fun i σ H1 hi p => ?_) (fun σ H1 p => ?_)⟩
    · obtain ⟨y2, y3, y4, y5, rows, rfl, s1, RW⟩ := p
      rw [e2] at hi
      have ei : (0 : Int) + (i : Nat) = (i : Nat) := by omega
      rw [ei]
      -- the first row
      refine ⟨_, rfl, a, xs, rfl, .inr (SqT.of (s1 _ _ ha)), (es.length : Nat), by rw [xl], by omega, by omega, fun D nD => ?_⟩
      rw [e2]
      refine lc_map (fun j => .bl (decide (j = i))) nD (by omega) (fun j H2 hj s2 R hR => ?_) (fun H2 s2 hD => ?_) gName_mono
      · refine ⟨rfl, _, rfl, _, rfl, rfl, ?_⟩
        have e5 : decide (V.int (0 + (j : Nat)) = V.int (i : Nat)) = decide (j = i) := by
          by_cases c : j = i
          · subst c; simp
          · rw [decide_eq_false c, decide_eq_false (fun z => c (by have := V.int.inj z; omega))]
        rw [e5]
        exact hR H2 (Same.refl _)
      have nDL : D ≠ L := fun z => by rw [z, RW.at_] at nD; cases nD
      obtain ⟨b, hb1, hb2, hb3⟩ := tus_at hA (i := i) hi
      have ho : es[i]? = some (es.getD i []) := by rw [List.getD_eq_getElem?_getD, List.getElem?_eq_getElem hi]; rfl
      generalize es.getD i [] = own at hb2 hb3 ho
      have s02 := s1.trans s2
      refine ⟨_, rfl, _, rfl, a, xs, _, .ref b, rfl, rfl, SqT.of (s02 _ _ ha), atI_nat (j := i) hb1, b, rfl, ⟨_, SqT.of (s02 _ _ hb2)⟩, for_tup (K := K) (a := b) (xs := own.map iV) (fun j σ H3 => ∃ (y4 y5 : Option V) (r : Addr), σ = [some (.ref a), some (.ref L), some (.int (i : Nat)), some (.ref r), y4, y5] ∧ Same H1 H3 ∧ r ≠ L ∧ H3 r = some (.lst (bv es.length (fun x => decide (x = i) || (own.take j).any (fun e => abv es e x)))))
        ⟨y4, y5, D, rfl, s2, nDL, by rw [hD]; simp [bv]⟩ (fun j σ H3 _ p => by obtain ⟨_, _, _, _, p, _⟩ := p; exact SqT.of (p _ _ (s1 _ _ hb2))) (fun j x σ H3 hx p => ?_) (fun σ H3 p => ?_)⟩
      · obtain ⟨z4, z5, r, rfl, s3, nr, hr3⟩ := p
        obtain ⟨e, he, rfl⟩ := map_get hx
        have hel : e < i := EL.low i own ho e (List.mem_of_getElem? he)
        have s03 := s1.trans s3
        refine ⟨_, rfl, a, xs, rfl, .inr (SqT.of (s03 _ _ ha)), (es.length : Nat), by rw [xl], by omega, by omega, fun D2 nD2 => ?_⟩
        rw [e2]
        obtain ⟨r2, g1, g2, g3⟩ := (RW.same s3).row e hel
        refine lc_map (fun x => .bl (decide (x = i) || (own.take (j + 1)).any (fun e => abv es e x))) nD2 (by omega) (fun x H4 hx4 s4 R hR => ?_) (fun H4 s4 hD4 => ?_) gName_mono
        · rw [Int.zero_add]
          have hex : own.take (j + 1) = own.take j ++ [e] := by rw [List.take_add_one, he]; rfl
          have hR' := hR H4 (Same.refl _)
          rw [hex, List.any_append, ← Bool.or_assoc] at hR'
          refine ⟨rfl, _, rfl, _, rfl, r, _, _, _, rfl, rfl, SqL.of (s4 _ _ hr3), atI_nat (j := x) (bv_at hx4), _, rfl, ?_⟩
          cases cc : (decide (x = i) || (own.take j).any (fun e => abv es e x)) with
          | true =>
            rw [cc] at hR'
            exact iteT hR'
          | false =>
            rw [cc] at hR'
            refine iteF ⟨_, rfl, _, rfl, L, rows, _, .ref r2, rfl, rfl, SqL.of (s4 _ _ (s3 _ _ RW.at_)), atI_nat (j := e) g1, _, rfl, r2, _, _, _, rfl, rfl, SqL.of (s4 _ _ g3), atI_nat (j := x) (bv_at hx4), ?_⟩
            simpa using hR'
        · have nD2L : D2 ≠ L := fun z => by rw [z, s3 _ _ RW.at_] at nD2; cases nD2
          exact ⟨_, _, D2, rfl, s3.trans s4, nD2L, by rw [hD4]; rfl⟩
      · obtain ⟨z4, z5, r, rfl, s3, nr, hr3⟩ := p
        rw [List.length_map, List.take_length] at hr3
        rw [bv_congr (fun x => abv_row EL ho)] at hr3
        have RW3 := RW.same s3
        refine ⟨_, rfl, .inl ⟨rfl, _, SqL.of RW3.at_⟩, _, rfl, L, rows, _, rfl, rfl, RW3.at_, by rw [RW3.len]; exact small1000 (by omega), ?_⟩
        refine ⟨_, _, _, _, rows ++ [.ref r], rfl, ?_, RW3.snoc hr3 nr⟩
        exact fun bb o z => by rw [upd_ne (ne_of_none z nL)]; exact s3 _ _ (s1 _ _ z)
    · obtain ⟨y2, y3, y4, y5, rows, rfl, s1, RW⟩ := p
      rw [e2] at RW
      exact ⟨_, rfl, q _ L rows s1 nL RW⟩
theorem ok_abo (F : Fun K "_law_above" "_law_above" sAbo f fd) (B : Bl mg) : FnOk P w K mg base CX0 (k + 1) f fd ["_law_elders"] spAbo :=
  (ok_aboX F B).imp fun vs H Q E ⟨v, es, sv, e, hv, EL, q⟩ => ⟨v, es, e, hv, ⟨by have := EL.hi; omega, EL.low⟩, q⟩
end
end Kc

set_option Elab.async false
set_option linter.all false
set_option maxRecDepth 100000
set_option maxHeartbeats 4000000
namespace Kc
open PySem PySem.Spec PyProof.Rows L2 Kg Kd
abbrev sOdd : Stmt := topS 33
abbrev nOdd : List Str := ["_law_deck_here", "_law_some_here"]
theorem scOdd : FnScope nOdd ["_law_deck_here"] (defScope sOdd) := ⟨rfl, rfl, rfl, by decide +kernel, rfl, by decide +kernel, by decide +kernel⟩
def odd1 : List PyData := [.none, .bool true, .bool false, .int 0, .int 1, .int 2, .int 5, .int 6, .int 9, .int 10, .int (-1), .int (10 ^ (Int.toNat 30)), .str "", .str "0", .str "add", .tuple [], .list [], .dict [], .tuple [.int 0], .tuple [.int 1], .tuple [.int 0, .int 1]]
def odd2 : List PyData := [.list [.int 0], .tuple [.bool true], .tuple [.none], .tuple [.tuple []], .tuple [.tuple [.int 0]], .tuple [.int 0, .int 0], .tuple [.int 1, .int 0], .tuple [.tuple [.int 0, .bool true], .int 1], .tuple [.int 1, .int 0, .int 1], .str "several"]
def odd3 : List PyData := [.tuple [.tuple [.int 0, .bool true]], .tuple [.tuple [.tuple [.int 0, .bool true]], .int 1], .tuple [.int 0, .bool true], .tuple [.int 0, .int 1, .int 2], .dict [(.int 0, .int 1)], .tuple [.str "full", .tuple []], .tuple [.str "0"], .tuple [.int 0, .list [.int 1]]]
def odd4 : List PyData := [.tuple [.list []], .tuple [.dict []]]
def oddA : List PyData := odd1 ++ odd2 ++ odd3 ++ odd4
theorem odd_len : oddA.length = 41 := rfl
theorem odd_depth : (oddA.all fun d => decide (d.depth ≤ 4)) = true := by decide +kernel
section
variable {X : Cx}
end
def spOdd : Sp := fun vs H Q _ => ∃ (d la lb : Addr) (b : Nat), vs = [.ref d] ∧ DeckAt H d la lb (b + 1) ∧
  ∀ (x : V) (D : PyData) H', DeckAt H' d la lb b → Keep (dk d la) H H' → Da (trk H) H' x D → D ∈ oddA → Q x H'
theorem DaAll.app {av : Addr → Prop} {H : Hp} : ∀ {xs ys : List V} {ds es : List PyData}, DaAll av H xs ds → DaAll av H ys es → DaAll av H (xs ++ ys) (ds ++ es)
  | _, _, _, _, .nil, r => r
  | _, _, _, _, .cons h t, r => .cons h (DaAll.app t r)
section
variable {P : Program} {w : World} {K : PySem.W.Frag} {mg : Str → Option Value} {base : Heap}
theorem ok_odd {f fN : Addr} {fd fdN : FuncData} {k : Nat} (F : Fun K "_law_odd" "_law_odd" sOdd f fd) (B : Bl mg) (FN : Fun K "_law_next" "_law_next" sNext fN fdN) (bN : Binds K fdN ["_law_deck_here", "_law_many"] []) (gN : mg "_law_next" = some (.ref fN)) : FnOk P w K mg base CX0 (k + 2) f fd ["_law_deck_here"] spOdd := by
  have GN : FnOk P w K mg base CX0 (k + 1) fN fdN ["_law_deck_here", "_law_many"] spNext := ok_next FN B.int B.len
  refine F.ok scOdd (fun vs H Q E h => ?_) (fun cdv A outer s H vs Q E hr h => ?_)
  · obtain ⟨d, la, lb, b, rfl, _⟩ := h
    rfl
  · obtain ⟨d, la, lb, b, rfl, D, q⟩ := h
    have hr1 : Room (k + 1) _ := hr
    refine ⟨_, pss_cons (ps_set (i := 1) scOdd.nd rfl (.inl rfl) (pd_lst (ds := odd1) (hl := show 21 ≤ 1000 by decide) (pds_cons pd_non (pds_cons pd_bl (pds_cons pd_bl (pds_cons pd_int (pds_cons pd_int (pds_cons pd_int (pds_cons pd_int (pds_cons pd_int (pds_cons pd_int (pds_cons pd_int (pds_cons pd_neg (pds_cons (pd_pow ⟨by decide, by decide, by decide⟩) (pds_cons pd_str (pds_cons pd_str (pds_cons pd_str (pds_cons (pd_tup pds_nil) (pds_cons (pd_lst pds_nil) (pds_cons pd_d0 (pds_cons (pd_tup (pds_cons pd_int pds_nil)) (pds_cons (pd_tup (pds_cons pd_int pds_nil)) (pds_cons (pd_tup (pds_cons pd_int (pds_cons pd_int pds_nil))) pds_nil)))))))))))))))))))))))
      (pss_cons (ps_set (i := 1) scOdd.nd rfl (.inl rfl) (pe_op op_cat (pv 1) (pd_lst (ds := odd2) (hl := show 10 ≤ 1000 by decide) (pds_cons (pd_lst (pds_cons pd_int pds_nil)) (pds_cons (pd_tup (pds_cons pd_bl pds_nil)) (pds_cons (pd_tup (pds_cons pd_non pds_nil)) (pds_cons (pd_tup (pds_cons (pd_tup pds_nil) pds_nil)) (pds_cons (pd_tup (pds_cons (pd_tup (pds_cons pd_int pds_nil)) pds_nil)) (pds_cons (pd_tup (pds_cons pd_int (pds_cons pd_int pds_nil))) (pds_cons (pd_tup (pds_cons pd_int (pds_cons pd_int pds_nil))) (pds_cons (pd_tup (pds_cons (pd_tup (pds_cons pd_int (pds_cons pd_bl pds_nil))) (pds_cons pd_int pds_nil))) (pds_cons (pd_tup (pds_cons pd_int (pds_cons pd_int (pds_cons pd_int pds_nil)))) (pds_cons pd_str pds_nil)))))))))))))
      (pss_cons (ps_set (i := 1) scOdd.nd rfl (.inl rfl) (pe_op op_cat (pv 1) (pd_lst (ds := odd3) (hl := show 8 ≤ 1000 by decide) (pds_cons (pd_tup (pds_cons (pd_tup (pds_cons pd_int (pds_cons pd_bl pds_nil))) pds_nil)) (pds_cons (pd_tup (pds_cons (pd_tup (pds_cons (pd_tup (pds_cons pd_int (pds_cons pd_bl pds_nil))) pds_nil)) (pds_cons pd_int pds_nil))) (pds_cons (pd_tup (pds_cons pd_int (pds_cons pd_bl pds_nil))) (pds_cons (pd_tup (pds_cons pd_int (pds_cons pd_int (pds_cons pd_int pds_nil)))) (pds_cons pd_d1 (pds_cons (pd_tup (pds_cons pd_str (pds_cons (pd_tup pds_nil) pds_nil))) (pds_cons (pd_tup (pds_cons pd_str pds_nil)) (pds_cons (pd_tup (pds_cons pd_int (pds_cons (pd_lst (pds_cons pd_int pds_nil)) pds_nil))) pds_nil)))))))))))
      (pss_cons (ps_set (i := 1) scOdd.nd rfl (.inl rfl) (pe_op op_cat (pv 1) (pd_lst (ds := odd4) (hl := show 2 ≤ 1000 by decide) (pds_cons (pd_tup (pds_cons (pd_lst pds_nil) pds_nil)) (pds_cons (pd_tup (pds_cons pd_d0 pds_nil)) pds_nil)))))
      (pss_one (ps_ret (pe_ix ix_list (pv 1) (pe_call GN hr1 (by rfl) gN FN.kp bN .nil pass0 (pa_cons (pv 0) (pa_cons (pe_callB call_len_seq (by rfl) B.len PySem.boot_len (pa_cons (pv 1) pa_nil)) pa_nil))) (fun _ _ => rfl))))))), ?_⟩
    -- one after another
    intro v1 H1 s1 h1
    cases h1 with
    | @lst l1 xs1 _ n1 e1 z1 a1 =>
      refine ⟨_, rfl, fun v2 H2 s2 h2 => ?_⟩
      cases h2 with
      | @lst l2 xs2 _ n2 e2 z2 a2 =>
        refine ⟨l1, l2, xs1, xs2, rfl, rfl, s2 _ _ e1, e2, Nat.le_of_lt (small1000 ?_), fun p np => ?_⟩
        · rw [a1.length, a2.length]; decide
        have s3 := same_new (o := HO.lst (xs1 ++ xs2)) np
        have b1 : DaAll (trk H) _ (xs1 ++ xs2) (odd1 ++ odd2) := DaAll.app (a1.keep (.of_same (s2.trans s3))) ((a2.keep (.of_same s3)).sub (trk_mono s1))
        have t1 := s1.trans (s2.trans s3)
        have f1 : (upd H2 p (HO.lst (xs1 ++ xs2))) p = some (.lst (xs1 ++ xs2)) := upd_same
        clear s3
        generalize upd H2 p (HO.lst (xs1 ++ xs2)) = H3 at b1 t1 f1 ⊢
        refine ⟨_, rfl, fun v2 H4 s4 h4 => ?_⟩
        cases h4 with
        | @lst l4 xs4 _ n4 e4 z4 a4 =>
          refine ⟨p, l4, _, xs4, rfl, rfl, s4 _ _ f1, e4, Nat.le_of_lt (small1000 ?_), fun p5 np5 => ?_⟩
          · rw [b1.length, a4.length]; decide
          have s5 := same_new (o := HO.lst (xs1 ++ xs2 ++ xs4)) np5
          have b5 : DaAll (trk H) _ (xs1 ++ xs2 ++ xs4) (odd1 ++ odd2 ++ odd3) := DaAll.app (b1.keep (.of_same (s4.trans s5))) ((a4.keep (.of_same s5)).sub (trk_mono t1))
          have t5 := t1.trans (s4.trans s5)
          have f5 : (upd H4 p5 (HO.lst (xs1 ++ xs2 ++ xs4))) p5 = some (.lst (xs1 ++ xs2 ++ xs4)) := upd_same
          clear s5
          generalize upd H4 p5 (HO.lst (xs1 ++ xs2 ++ xs4)) = H5 at b5 t5 f5 ⊢
          refine ⟨_, rfl, fun v6 H6 s6 h6 => ?_⟩
          cases h6 with
          | @lst l6 xs6 _ n6 e6 z6 a6 =>
            refine ⟨p5, l6, _, xs6, rfl, rfl, s6 _ _ f5, e6, Nat.le_of_lt (small1000 ?_), fun p7 np7 => ?_⟩
            · rw [b5.length, a6.length]; decide
            have s7 := same_new (o := HO.lst (xs1 ++ xs2 ++ xs4 ++ xs6)) np7
            have b7 : DaAll (trk H) _ (xs1 ++ xs2 ++ xs4 ++ xs6) oddA := DaAll.app (b5.keep (.of_same (s6.trans s7))) ((a6.keep (.of_same s7)).sub (trk_mono t5))
            have t7 := t5.trans (s6.trans s7)
            have f7 : (upd H6 p7 (HO.lst (xs1 ++ xs2 ++ xs4 ++ xs6))) p7 = some (.lst (xs1 ++ xs2 ++ xs4 ++ xs6)) := upd_same
            have nH7 : H p7 = none := (t5.trans s6).free np7
            clear s7
            generalize xs1 ++ xs2 ++ xs4 ++ xs6 = ys at b7 f7 t7 ⊢
            generalize upd H6 p7 (HO.lst ys) = H7 at b7 t7 f7 ⊢
            have hl : ys.length = 41 := b7.length.trans odd_len
            -- the draw
            refine ⟨_, rfl, _, rfl, _, rfl, p7, ys, rfl, .inl (SqL.of f7), ?_⟩
            refine ⟨d, la, lb, _, b, rfl, by rw [hl]; decide, by rw [hl]; decide, D.same t7, fun v H8 hv0 hv1 D8 k8 => ?_⟩
            have np : ¬ dk d la p7 := by
              intro z
              have tr := D.tracked
              rcases z with z | z
              · rw [z] at nH7; exact tr.1 nH7
              · rw [z] at nH7; exact tr.2.1 nH7
            have hvn : v.toNat < ys.length := by omega
            have b8 : DaAll (trk H) H8 ys oddA := b7.keep (fun c o hc nc => k8 c o hc (fun z => nc (by
              have tr := D.tracked
              rcases z with z | z
              · rw [z]; exact tr.1
              · rw [z]; exact tr.2.1)))
            obtain ⟨dd, g1, g2⟩ := b8.get (List.getElem?_eq_getElem hvn)
            refine ⟨p7, ys, v, ys[v.toNat], rfl, rfl, SqL.of (k8 _ _ f7 np), at_of (j := v.toNat) (by omega) (List.getElem?_eq_getElem hvn), ?_⟩
            refine q _ dd H8 D8 (fun c o hc nc => k8 c o (t7 _ _ hc) nc) g2 ?_
            exact List.mem_of_getElem? g1
end
end Kc

set_option Elab.async false
set_option linter.all false
set_option maxRecDepth 100000
set_option maxHeartbeats 4000000
/-! a text times a number -/
namespace Kf
open PySem PySem.Spec PyProof.Rows L2 Kg Kd TL
theorem fold_rep (a : Array Nat) : ∀ (m : Nat) (acc : Array Nat), ((List.replicate m a).foldl (· ++ ·) acc).toList = acc.toList ++ (List.replicate m a.toList).flatten
  | 0, acc => by simp
  | m + 1, acc => by
    rw [List.replicate_succ, List.foldl_cons, fold_rep a m, List.replicate_succ, List.flatten_cons]
    simp
theorem rep_len (l : List Nat) : ∀ k : Nat, (List.replicate k l).flatten.length = k * l.length
  | 0 => by simp
  | k + 1 => by
    rw [List.replicate_succ, List.flatten_cons, List.length_append, rep_len l k, Nat.add_mul]; omega
def rMulS : R2 := fun x y H Q => ∃ (l : List Nat) (k : Nat), x = .str (sS l) ∧ y = .int ((k : Nat) : Int) ∧ k ≤ 100 ∧ l.length ≤ 1000 ∧ Q (.str (sS (List.replicate k l).flatten)) H
theorem op_mulS {X : Cx} : OpR X (binaryOp .Mult) rMulS := by
  intro pins s σ H x y v u Q I rx ry h
  obtain ⟨l, k, rfl, rfl, hk, hl, q⟩ := h
  obtain ⟨t, rfl⟩ := rx
  obtain ⟨t', rfl⟩ := ry
  have e0 : ¬ (((k : Nat) : Int)) < -(2 ^ 63 : Int) := by omega
  have e1 : ¬ (((k : Nat) : Int)) ≥ 2 ^ 63 := by omega
  have len : (sS l).length = l.length := sS_len l
  refine P.mul_str (by rw [decide_eq_false e0, decide_eq_false e1]; rfl) (fun c1 c2 => ?_) (fun c1 c2 => ?_) ?_
  · rw [len]
    have : (90000000000000000 : Int) ≤ (2 ^ 63 - 1) / ((k : Nat) : Int) := by
      refine Int.le_ediv_of_mul_le (by omega) ?_
      have : (90000000000000000 : Int) * ((k : Nat) : Int) ≤ 90000000000000000 * 100 := by omega
      omega
    omega
  · rw [len, Int.toNat_natCast]
    unfold Builtin.Str.tooLong
    refine decide_eq_false ?_
    have : l.length * k ≤ 1000 * 100 := Nat.mul_le_mul hl hk
    rw [sizeLine_eq]
    omega
  · split
    · rename_i c
      have k0 : k = 0 := by omega
      subst k0
      have e : Str.empty = sS (List.replicate 0 l).flatten := rfl
      rw [e]
      exact ⟨(show 0 ≤ sizeLine by decide), .str _, H, I.tok _, ⟨_, rfl⟩, q⟩
    · split
      · rename_i c1 c2
        have e : (List.replicate k l).flatten = l := by
          rcases Bool.or_eq_true_iff.mp c2 with c | c
          · have : k = 1 := by have := eq_of_beq c; omega
            subst this; simp
          · have : l = [] := by
              have := eq_of_beq c
              rw [len] at this
              exact List.length_eq_zero_iff.mp this
            subst this; simp
        rw [e] at q
        exact ⟨.str (sS l), H, I.tok _, ⟨_, rfl⟩, q⟩
      · have e : (⟨(List.replicate (((k : Nat) : Int)).toNat (sS l).cps).foldl (· ++ ·) #[]⟩ : Str) = sS (List.replicate k l).flatten := by
          refine eq_sS ?_
          show ((List.replicate (((k : Nat) : Int)).toNat (sS l).cps).foldl (· ++ ·) #[]).toList = _
          rw [fold_rep, Int.toNat_natCast]; rfl
        rw [e]
        refine ⟨?_, .str _, H, I.tok _, ⟨_, rfl⟩, q⟩
        rw [sS_len, rep_len]
        have : k * l.length ≤ 100 * 1000 := Nat.mul_le_mul hk hl
        rw [sizeLine_eq]; omega
end Kf

set_option Elab.async false
set_option linter.all false
set_option maxRecDepth 100000
set_option maxHeartbeats 8000000
namespace Kc
open PySem PySem.Spec PyProof.Rows L2 Kg Kd Kr Kf Kl TL
abbrev sLaw : Stmt := topS 43
abbrev nLaw : List Str := ["_law_script", "_law_deck_here", "_law_turn", "_law_four_here", "_law_lines", "_law_kind", "_law_words", "_law_elder", "_law_change", "_law_value"]
theorem scLaw : FnScope nLaw ["_law_script"] (defScope sLaw) := ⟨rfl, rfl, rfl, by decide +kernel, rfl, by decide +kernel, by decide +kernel⟩
structure LE (P : Program) (w : World) (K : PySem.W.Frag) (mg : Str → Option Value) (base : Heap) : Prop where
  B : Bl mg
  deck : Cal P w K mg base "_law_deck" 1 ["_law_script"] (spDeck K)
  next : Cal P w K mg base "_law_next" 1 ["_law_deck_here", "_law_many"] spNext
  same : CalG P w K mg base "_law_same" 7 ["_law_found", "_law_due_here"] (spSame 7)
  odd : Cal P w K mg base "_law_odd" 2 ["_law_deck_here"] spOdd
  four : Cal P w K mg base "_law_four" 3 ["_law_deck_here", "_law_most"] spFour
  bent : Cal P w K mg base "_law_bent" 2 ["_law_deck_here", "_law_lines"] spBn46
  told : Cal P w K mg base "_law_told" 10 ["_law_value"] spTo46
  due : Cal P w K mg base "_law_due" 3 ["_law_value"] spDu46
/-- the lines of kinds -/
def linesK (es : List (List Nat)) (cl ho : List Nat) (sv : Bool) : List (List Nat) := firstL sv :: (List.range es.length).map (kindN es cl ho)
theorem rep_one (b : Bool) (wd : List Nat) : (List.replicate ((if b = true then (1 : Int) else 0)).toNat [wV wd]).flatten = ((if b = true then [wd] else []).map wV) := by
  cases b with
  | true => rfl
  | false => rfl
abbrev XL (P : Program) (w : World) (K : PySem.W.Frag) (mg : Str → Option Value) (base : Heap) (f : Addr) (cdv : Value) (A : Around) (out : List Env) (s : Shared) (H : Hp) : Cx := (cxOf CX0 P w K mg base nLaw "law" (defScope sLaw) f cdv A out s H E0).nox
def turnS (i : Nat) : Stmt := (forB6 ((defBody sLaw).getD 1 (.Pass ⟨0, 0, 0, 0⟩))).getD i (.Pass ⟨0, 0, 0, 0⟩)
abbrev S46L (va : V) (d : Addr) (y2 : Option V) (Fa : Addr) (y4 y5 y6 y7 y8 y9 : Option V) : L2.St := [some va, some (.ref d), y2, some (.ref Fa), y4, y5, y6, y7, y8, y9]
/-- the lines are made -/
def tLn : TS := fun D σ H => ∃ (va : V) (d Fa La : Addr) (H0 : Hp) (es : List (List Nat)) (cl ho : List Nat) (sv : Bool) (y2 y5 y6 y7 y8 y9 : Option V), σ = S46L va d y2 Fa (some (.ref La)) y5 y6 y7 y8 y9 ∧ Fo H0 Fa es cl ho sv ∧ H0 La = none ∧ Same H0 H ∧ H La = some (.lst [wV (firstL sv)]) ∧
  ∀ (H' : Hp) (y5 y6 y7 : Option V), Same H0 H' → H' La = some (.lst ((linesK es cl ho sv).map wV)) → D.nx (S46L va d y2 Fa (some (.ref La)) y5 y6 y7 y8 y9) H'
/-- changed at times -/
def tCh6 : TS := fun D σ H => ∃ (va : V) (d la lb Fa La : Addr) (b : Nat) (ls : List (List Nat)) (y2 y5 y6 y7 y8 y9 : Option V), σ = S46L va d y2 Fa (some (.ref La)) y5 y6 y7 y8 y9 ∧ DeckAt H d la lb (b + 16) ∧ d ≠ La ∧ la ≠ La ∧ H La = some (.lst (ls.map wV)) ∧ LnB 7 29 ls ∧
  ∀ (H' : Hp) (La' : Addr) (ls' : List (List Nat)) (y8 : Option V) (e b' : Nat), DeckAt H' d la lb b → d ≠ La' → la ≠ La' → H' La' = some (.lst (ls'.map wV)) → e + b' ≤ 3 → LnB (7 + 3 * e + b') (29 + 9 * b') ls' → D.nx (S46L va d y2 Fa (some (.ref La')) y5 y6 y7 y8 y9) H'
/-- the value -/
def tVl6 : TS := fun D σ H => ∃ (va : V) (d la lb Fa La : Addr) (b e b' : Nat) (ls : List (List Nat)) (y2 y5 y6 y7 y8 y9 : Option V), σ = S46L va d y2 Fa (some (.ref La)) y5 y6 y7 y8 y9 ∧ DeckAt H d la lb (b + 5) ∧ d ≠ La ∧ la ≠ La ∧ H La = some (.lst (ls.map wV)) ∧ e + b' ≤ 3 ∧ LnB (7 + 3 * e + b') (29 + 9 * b') ls ∧
  ∀ (H' : Hp) (v : V), DeckAt H' d la lb b → D.nx (S46L va d y2 Fa (some (.ref La)) y5 y6 y7 y8 (some v)) H'
theorem txO_of {l : List Nat} (h1 : l.length ≤ 800) (h2 : ∀ p ∈ cutA 10 [] l, p.length ≤ 59) (h3 : chOk l) : TxO (.str (sS l)) ∧ ∀ s, PyData.str (sS l) = .str s → (tl s).length ≤ 800 := by
  have e : tl (sS l) = l := by simp [tl, sS]
  refine ⟨fun s es => ?_, fun s es => ?_⟩
  · injection es with es
    subst es
    rw [e]
    exact ⟨by omega, h2, h3⟩
  · injection es with es
    subst es
    rw [e]; exact h1
theorem txO_no {d : PyData} (h : isStr d = false) : TxO d ∧ ∀ s, d = .str s → (tl s).length ≤ 800 := ⟨(fun s e => by rw [e] at h; cases h), (fun s e => by rw [e] at h; cases h)⟩
theorem odd_txt : (oddA.all fun d => match d with | .str s => decide ((tl s).length ≤ 800) && ((cutA 10 [] (tl s)).all fun p => decide (p.length ≤ 59)) && ((tl s).all fun c => decide (c < 1114112)) | _ => true) = true := by decide +kernel
theorem odd_tx {d : PyData} (h : d ∈ oddA) : TxO d ∧ ∀ s, d = .str s → (tl s).length ≤ 800 := by
  have := List.all_eq_true.mp odd_txt d h
  have key : ∀ s, d = .str s → (tl s).length ≤ 800 ∧ (∀ p ∈ cutA 10 [] (tl s), p.length ≤ 59) ∧ chOk (tl s) := fun s e => by
    rw [e] at this
    have this : (decide ((tl s).length ≤ 800) && ((cutA 10 [] (tl s)).all fun p => decide (p.length ≤ 59)) && ((tl s).all fun c => decide (c < 1114112))) = true := this
    rw [Bool.and_eq_true, Bool.and_eq_true] at this
    exact ⟨of_decide_eq_true this.1.1, fun p hp => of_decide_eq_true (List.all_eq_true.mp this.1.2 p hp), fun c hc => of_decide_eq_true (List.all_eq_true.mp this.2 c hc)⟩
  exact ⟨fun s e => by have := key s e; exact ⟨by omega, this.2⟩, fun s e => (key s e).1⟩
theorem da_ws {H : Hp} {a : Addr} {ws : List (List Nat)} (h : H a = some (.lst (ws.map wV))) (l : ws.length ≤ 1000) : Da Kd.nil H (.ref a) (.list (ws.map fun w => .str (sS w))) := by
  refine .lst (fun z => z) h (by rw [List.length_map]; exact l) ?_
  clear h l
  induction ws with
  | nil => exact .nil
  | cons w ws ih => exact .cons (.str _) ih
theorem cutA_two (c : Nat) : ∀ (a acc b : List Nat), cutA c acc (a ++ c :: b) = cutA c acc a ++ cutA c [] b
  | [], acc, b => by show (if c = c then acc :: cutA c [] b else _) = _; rw [if_pos rfl]; rfl
  | x :: a, acc, b => by
    show (if x = c then acc :: cutA c [] (a ++ c :: b) else cutA c (acc ++ [x]) (a ++ c :: b)) = (if x = c then acc :: cutA c [] a else cutA c (acc ++ [x]) a) ++ cutA c [] b
    split
    · rw [cutA_two c a [] b]; rfl
    · exact cutA_two c a _ b
theorem cut_joined {c m : Nat} : ∀ {ls : List (List Nat)}, (∀ l ∈ ls, l.length ≤ m) → ∀ p ∈ cutA c [] (joinL [c] ls), p.length ≤ m
  | [], _, p, hp => by rw [List.mem_singleton.mp (show p ∈ [[]] from hp)]; exact Nat.zero_le _
  | [x], h, p, hp => by
    have := cutA_part c x [] p hp
    have := h x List.mem_cons_self
    simp at *; omega
  | x :: y :: r, h, p, hp => by
    have e : joinL [c] (x :: y :: r) = x ++ c :: joinL [c] (y :: r) := rfl
    rw [e, cutA_two] at hp
    rcases List.mem_append.mp hp with z | z
    · have := cutA_part c x [] p z
      have := h x List.mem_cons_self
      simp at *; omega
    · exact cut_joined (fun l hl => h l (List.mem_cons_of_mem _ hl)) p z
theorem kindN_29 {es : List (List Nat)} {sv : Bool} (EL : Eld es sv) (cl ho : List Nat) {k : Nat} (hk : k < es.length) : (kindN es cl ho k).length ≤ 29 := by
  have h1 := join_jn (kindW es cl ho k)
  have hl : es[k]? = some es[k] := List.getElem?_eq_getElem hk
  have s : Som k es[k] := ⟨EL.asc k _ hl, EL.low k _ hl⟩
  have sl := s.len
  have n6 := EL.hi
  have h2 : jn (kindW es cl ho k) ≤ 29 := by
    unfold kindW
    rw [hl, jn_app, jn_app]
    have a : ∀ l : List Nat, jn (l.map fun e => [48 + e]) = 2 * l.length := fun l => by
      induction l with
      | nil => rfl
      | cons x l ih =>
        rw [List.map_cons, show [48 + x] :: l.map (fun e => [48 + e]) = [[48 + x]] ++ l.map (fun e => [48 + e]) from rfl, jn_app, ih, List.length_cons]
        show 2 + _ = _
        omega
    have b1 : jn (if k ∈ cl then [closedL] else []) ≤ 7 := by split <;> decide
    have b2 : jn (if k ∈ ho then [hollowL] else []) ≤ 7 := by split <;> decide
    have b3 : jn (kindL :: ((some es[k]).getD []).map fun e => [48 + e]) = 5 + 2 * es[k].length := by
      show jn ([kindL] ++ (es[k]).map fun e => [48 + e]) = _
      rw [jn_app, a]
      rfl
    rw [b3]
    omega
  unfold kindN
  omega
theorem lines_LnB {es : List (List Nat)} {sv : Bool} (EL : Eld es sv) (cl ho : List Nat) : LnB 7 29 (linesK es cl ho sv) := by
  have n6 := EL.hi
  refine ⟨by unfold linesK; rw [List.length_cons, List.length_map, List.length_range]; omega, fun l hl => ?_⟩
  rcases List.mem_cons.mp hl with e | e
  · rw [e]
    have aux : ∀ w : List Nat, (w.all fun c => decide (c < 1114112)) = true → chOk w := fun w h c hc => of_decide_eq_true (List.all_eq_true.mp h c hc)
    cases sv
    · exact ⟨by decide, aux _ (by decide)⟩
    · exact ⟨by decide, aux _ (by decide)⟩
  · obtain ⟨k, hk, rfl⟩ := List.mem_map.mp e
    exact ⟨kindN_29 EL cl ho (List.mem_range.mp hk), chOk_join (kindW_ch (eld_lo EL k))⟩
section
variable {P : Program} {w : World} {K : PySem.W.Frag} {mg : Str → Option Value} {base : Heap} {f : Addr} {cdv : Value} {A : Around} {out : List Env} {s : Shared} {H0 : Hp}
theorem segL (E : LE P w K mg base) : PS (XL P w K mg base f cdv A out s H0) (turnS 2) tLn := by
  refine ps_imp (ps_for PassesOwn.never rfl (pi_range1 (by rfl) E.B.range (pa_cons (pe_callB call_len_seq (by rfl) E.B.len PySem.boot_len (pa_cons (pe_ix ix_list (pv 3) pe_int (fun _ _ => rfl)) pa_nil)) pa_nil)) (pg_name (i := 5) scLaw.nd rfl (.inl rfl))
        (pss_cons (ps_set (i := 6) scLaw.nd rfl (.inl rfl) (pe_op op_cat (pe_lst (pa_cons pe_str pa_nil)) (pe_lc (own := [("_law_elder", 7)]) (g := (gName 7)) rfl scLaw.nd (pi_tup (pe_ix ix_tup (pe_ix ix_list (pv 3) pe_int (fun _ _ => rfl)) (pv 5) (fun _ _ => rfl)))
        (blkOk_by (N := nLaw) (sc := defScope sLaw) (by decide +kernel)) (fun _ _ _ _ _ => (pg_name (i := 7) scLaw.nd rfl (.inl rfl))) (fun _ _ _ _ _ => pts_nil)
        (fun _ _ _ _ _ => (pe_callTy call_str_int (by rfl) E.B.str PyProof.Rows.boot_str (pa_cons (pv 7) pa_nil))))))
      (pss_cons (ps_set (i := 6) scLaw.nd rfl (.inl rfl) (pe_op op_cat (pv 6) (pe_op op_rep (pe_lst (pa_cons pe_str pa_nil)) (pe_callTy call_int1 (by rfl) E.B.int PyProof.Rows.boot_int (pa_cons (pe_cmpR op_in_seq (pv 5) (pe_ix ix_list (pv 3) pe_int (fun _ _ => rfl)) rfl) pa_nil)))))
      (pss_cons (ps_set (i := 6) scLaw.nd rfl (.inl rfl) (pe_op op_cat (pv 6) (pe_op op_rep (pe_lst (pa_cons pe_str pa_nil)) (pe_callTy call_int1 (by rfl) E.B.int PyProof.Rows.boot_int (pa_cons (pe_cmpR op_in_seq (pv 5) (pe_ix ix_list (pv 3) pe_int (fun _ _ => rfl)) rfl) pa_nil)))))
      (pss_one (ps_expr (pe_bm PySem.F.plainAttrs_list PySem.F.slot_list_append PySem.F.type_list_append mt_append (pv 4) (pa_cons (pe_join pe_str (pv 6)) pa_nil)))))))) (fun D σ H h => ?_)
  obtain ⟨va, d, Fa, La, H, es, cl, ho, sv, y2, y5, y6, y7, y8, y9, rfl, ⟨⟨e, c, h, hF, he, hc, hh⟩, EL, SC, SH⟩, nLaH, s12, hL0, q⟩ := h
  obtain ⟨ae, xs, rfl, hae, xl, hA⟩ := tu_elders he
  obtain ⟨ac, rfl, hac, acl⟩ := tu_inv hc
  obtain ⟨ah, rfl, hah, ahl⟩ := tu_inv hh
  have bg := big1000
  have n6 := EL.hi
  have z1 : 1 ≤ sizeLine := by omega
  have cK : Str.ofString "kind" = sS kindL := eq_sS (by decide +kernel)
  have cB : Str.ofString " " = sS [32] := eq_sS (by decide +kernel)
  have cH : Str.ofString "hollow" = sS hollowL := eq_sS (by decide +kernel)
  have cC : Str.ofString "closed" = sS closedL := eq_sS (by decide +kernel)
  refine ⟨_, rfl, Fa, _, 0, .ref ae, rfl, rfl, SqL.of (s12 _ _ hF), atI_nat (j := 0) rfl, ae, xs, rfl, .inr (SqT.of (s12 _ _ hae)), ((xs.length : Nat) : Int), rfl, by omega, by omega, ?_⟩
  rw [Int.toNat_natCast, xl]
  refine for_range (lo := 0) (n := es.length) (fun i σ H2 => ∃ (y5 y6 y7 : Option V), σ = S46L va d y2 Fa (some (.ref La)) y5 y6 y7 y8 y9 ∧ Same H H2 ∧ H2 La = some (.lst ((firstL sv :: (List.range i).map (kindN es cl ho)).map wV)))
    ⟨y5, y6, y7, rfl, s12, hL0⟩ (fun i σ H2 hi pp => ?_) (fun σ H2 pp => ?_)
  · obtain ⟨z5, z6, z7, rfl, s3, hLa⟩ := pp
    rw [Int.zero_add]
    obtain ⟨x, hx⟩ : ∃ x, xs[i]? = some x := ⟨xs[i]'(by omega), by simp [show i < xs.length by omega]⟩
    obtain ⟨d, hd, td⟩ := hA.get hx
    obtain ⟨l, hl, rfl⟩ := map_get hd
    obtain ⟨al, rfl, hal, all⟩ := tu_inv td
    have lo := eld_lo EL i l hl
    have ll := eld_len EL i l hl
    refine ⟨z1, fun a0 n0 => ?_⟩
    have s4 := same_new (o := HO.lst [V.str (Str.ofString "kind")]) n0
    have s34 := s3.trans s4
    refine ⟨_, rfl, Fa, _, 0, .ref ae, rfl, rfl, SqL.of (s34 _ _ hF), atI_nat (j := 0) rfl, _, rfl, ae, _, ((i : Nat) : Int), .ref al, rfl, rfl, SqT.of (s34 _ _ hae), atI_nat hx, al, rfl, ⟨_, SqT.of (s34 _ _ hal)⟩, fun D nD => ?_⟩
    refine lc_tI (K := K) (a := al) (xs := l.map iV) (ls := l) (fun _ => true) (fun e => wV [48 + e]) nD (by rw [List.length_map]; omega) (s34 _ _ hal) (by rw [List.length_map]) (fun j x e hx he => fmt_one gName_mono' fun H5 s5 R hR => ?_) (fun H5 s5 hD => ?_)
    · obtain ⟨e', h1, rfl⟩ := map_get hx
      rw [he] at h1
      cases h1
      have e5 : e < 10 := lo e (List.mem_of_getElem? he)
      have z := hR H5 (Same.refl _)
      refine ⟨rfl, _, rfl, _, rfl, log_sm e (by omega), ?_⟩
      have en : (Str.ofString (toString ((e : Nat) : Int))) = sS [48 + e] := num_sS e5
      exact en ▸ z
    rw [filt_all] at hD
    have h0 : H5 a0 = some (.lst [V.str (Str.ofString "kind")]) := s5 _ _ upd_same
    refine ⟨a0, D, _, _, rfl, rfl, h0, hD, (by rw [List.length_map]; show 1 + l.length ≤ sizeLine; omega), fun a na => ?_⟩
    have s6 := same_new (o := HO.lst ([V.str (Str.ofString "kind")] ++ l.map fun e => wV [48 + e])) na
    have ha : upd H5 a (HO.lst ([V.str (Str.ofString "kind")] ++ l.map fun e => wV [48 + e])) a = some (.lst ((kindL :: l.map fun e => [48 + e]).map wV)) := by
      rw [upd_same, cK, List.map_cons, List.map_map]; rfl
    generalize upd H5 a (HO.lst ([V.str (Str.ofString "kind")] ++ l.map fun e => wV [48 + e])) = H6 at ha s6
    have s36 := s34.trans (s5.trans s6)
    have s26 := s4.trans (s5.trans s6)
    -- closed
    refine ⟨_, rfl, z1, fun b1 nb1 => ?_⟩
    have s7 := same_new (o := HO.lst [V.str (Str.ofString "closed")]) nb1
    refine ⟨_, rfl, _, rfl, Fa, _, 1, .ref ac, rfl, rfl, SqL.of (s7 _ _ (s36 _ _ hF)), atI_nat (j := 1) rfl, ac, _, rfl, .inr (SqT.of (s7 _ _ (s36 _ _ hac))), rfl, flat_iV _, .inr ⟨decide (i ∈ cl), congrArg (fun b => [V.bl b]) (show inV (iV i) (cl.map iV) = decide (i ∈ cl) from inV_iV ..), ?_⟩⟩
    refine ⟨b1, _, _, rfl, rfl, upd_same, by split <;> omega, by split <;> omega, by split <;> simp <;> omega, fun b2 nb2 => ?_⟩
    rw [cC, show [V.str (sS closedL)] = [wV closedL] from rfl, rep_one]
    have s8 := same_new (o := HO.lst ((if decide (i ∈ cl) = true then [closedL] else []).map wV)) nb2
    have hb2 := upd_same (H := upd H6 b1 (HO.lst [V.str (Str.ofString "closed")])) (a := b2) (o := HO.lst ((if decide (i ∈ cl) = true then [closedL] else []).map wV))
    rw [cC] at s7 nb2 s8 hb2
    refine ⟨a, b2, _, _, rfl, rfl, s8 _ _ (s7 _ _ ha), hb2, ?_, fun a3 na3 => ?_⟩
    · rw [List.length_map, List.length_map, List.length_cons, List.length_map]; split <;> simp <;> omega
    rw [← List.map_append]
    have s9 := same_new (o := HO.lst (((kindL :: l.map fun e => [48 + e]) ++ if decide (i ∈ cl) = true then [closedL] else []).map wV)) na3
    have ha3 := upd_same (H := upd (upd H6 b1 (HO.lst [V.str (sS closedL)])) b2 (HO.lst ((if decide (i ∈ cl) = true then [closedL] else []).map wV))) (a := a3) (o := HO.lst (((kindL :: l.map fun e => [48 + e]) ++ if decide (i ∈ cl) = true then [closedL] else []).map wV))
    have s79 := s7.trans (s8.trans s9)
    generalize upd (upd (upd H6 b1 (HO.lst [V.str (sS closedL)])) b2 (HO.lst ((if decide (i ∈ cl) = true then [closedL] else []).map wV))) a3 (HO.lst (((kindL :: l.map fun e => [48 + e]) ++ if decide (i ∈ cl) = true then [closedL] else []).map wV)) = H9 at ha3 s79 ⊢
    have s39 := s36.trans s79
    -- hollow
    refine ⟨_, rfl, z1, fun d1 nd1 => ?_⟩
    have t7 := same_new (o := HO.lst [V.str (Str.ofString "hollow")]) nd1
    refine ⟨_, rfl, _, rfl, Fa, _, 2, .ref ah, rfl, rfl, SqL.of (t7 _ _ (s39 _ _ hF)), atI_nat (j := 2) rfl, ah, _, rfl, .inr (SqT.of (t7 _ _ (s39 _ _ hah))), rfl, flat_iV _, .inr ⟨decide (i ∈ ho), congrArg (fun b => [V.bl b]) (show inV (iV i) (ho.map iV) = decide (i ∈ ho) from inV_iV ..), ?_⟩⟩
    refine ⟨d1, _, _, rfl, rfl, upd_same, by split <;> omega, by split <;> omega, by split <;> simp <;> omega, fun d2 nd2 => ?_⟩
    rw [cH, show [V.str (sS hollowL)] = [wV hollowL] from rfl, rep_one]
    have t8 := same_new (o := HO.lst ((if decide (i ∈ ho) = true then [hollowL] else []).map wV)) nd2
    have hd2 := upd_same (H := upd H9 d1 (HO.lst [V.str (Str.ofString "hollow")])) (a := d2) (o := HO.lst ((if decide (i ∈ ho) = true then [hollowL] else []).map wV))
    rw [cH] at t7 nd2 t8 hd2
    refine ⟨a3, d2, _, _, rfl, rfl, t8 _ _ (t7 _ _ ha3), hd2, ?_, fun a4 na4 => ?_⟩
    · rw [List.length_map, List.length_map, List.length_append, List.length_cons, List.length_map]; split <;> split <;> simp <;> omega
    rw [← List.map_append]
    have ew : (kindL :: l.map fun e => [48 + e]) ++ (if decide (i ∈ cl) = true then [closedL] else []) ++ (if decide (i ∈ ho) = true then [hollowL] else []) = kindW es cl ho i := by
      unfold kindW
      rw [hl]
      simp
    rw [ew]
    have t9 := same_new (o := HO.lst ((kindW es cl ho i).map wV)) na4
    have ha4 := upd_same (H := upd (upd H9 d1 (HO.lst [V.str (sS hollowL)])) d2 (HO.lst ((if decide (i ∈ ho) = true then [hollowL] else []).map wV))) (a := a4) (o := HO.lst ((kindW es cl ho i).map wV))
    have t79 := t7.trans (t8.trans t9)
    generalize upd (upd (upd H9 d1 (HO.lst [V.str (sS hollowL)])) d2 (HO.lst ((if decide (i ∈ ho) = true then [hollowL] else []).map wV))) a4 (HO.lst ((kindW es cl ho i).map wV)) = H10 at ha4 t79 ⊢
    have sL := s26.trans (s79.trans t79)
    have hLa10 := sL _ _ hLa
    have jn : Txt.join (Str.ofString " ") ((kindW es cl ho i).map sS) = sS (kindN es cl ho i) := by
      rw [cB]
      exact SX.join_S [32] (kindW es cl ho i)
    have w1 := kindW_len (cl := cl) (ho := ho) (eld_len EL i)
    have w2 := sum_few (c := 6) (ws := kindW es cl ho i) fun w hw => (word_ok (cl := cl) (ho := ho) (eld_lo EL i) w hw).2.2.2.2
    have e3 : ((kindW es cl ho i).map sS).map (·.length) = (kindW es cl ho i).map List.length := by
      rw [List.map_map]
      exact List.map_congr_left fun w _ => sS_len w
    have ha5 : H10 a4 = some (.lst (((kindW es cl ho i).map sS).map V.str)) := by rw [ha4, List.map_map]; rfl
    refine ⟨_, rfl, .inl ⟨rfl, _, SqL.of hLa10⟩, ⟨_, rfl⟩, _, rfl, _, a4, (kindW es cl ho i).map sS, rfl, rfl, .inl (SqL.of ha5), ?_, La, _, _, rfl, rfl, hLa10, small1000 (by simp; omega), ?_⟩
    · rw [e3, List.length_map, show (Str.ofString " ").length = 1 by decide +kernel]
      omega
    rw [jn]
    refine ⟨_, _, _, rfl, fun b o z => ?_, ?_⟩
    · rw [upd_ne (ne_of_none z nLaH)]; exact sL _ _ (s3 _ _ z)
    · rw [upd_same, List.range_succ]
      simp
  · obtain ⟨z5, z6, z7, rfl, s3, hLa⟩ := pp
    exact q H2 _ _ _ s3 hLa
theorem segC (hr : Room 40 (XL P w K mg base f cdv A out s H0).A) (E : LE P w K mg base) : PS (XL P w K mg base f cdv A out s H0) (turnS 3) tCh6 := by
  have hr1 := hr.mono (show 1 ≤ 40 by decide)
  have hr2 := hr.mono (show 2 ≤ 40 by decide)
  refine ps_imp (ps_for PassesOwn.never rfl (pi_range1 (by rfl) E.B.range (pa_cons (pe_op op_add pe_int (pe_cal E.next hr1 (by rfl) (pa_cons (pv 1) (pa_cons pe_int pa_nil)))) pa_nil)) (pg_name (i := 8) scLaw.nd rfl (.inl rfl))
        (pss_one (ps_if (pt_cmpR (op_neD hr.units) (pv 4) (pe_lst pa_nil) (nomark _)) (pss_one (ps_set (i := 4) scLaw.nd rfl (.inl rfl) (pe_cal E.bent hr2 (by rfl) (pa_cons (pv 1) (pa_cons (pv 4) pa_nil))))) pss_nil))) (fun D σ H h => ?_)
  obtain ⟨va, d, la, lb, Fa, La, b, ls, y2, y5, y6, y7, y8, y9, rfl, D1, n1, n2, hL, lb0, nx⟩ := h
  refine ⟨_, rfl, d, la, lb, 3, b + 15, rfl, by decide, by decide, D1, fun r H1 r0 r1 D2 k1 => ?_⟩
  have hL1 : H1 La = some (.lst (ls.map wV)) := k1 _ _ hL (by rintro (z | z) <;> (rw [z] at n1 n2; contradiction))
  obtain ⟨rn, rfl⟩ : ∃ n : Nat, r = (n : Nat) := ⟨r.toNat, by omega⟩
  refine ⟨_, _, rfl, rfl, (1 + ((rn : Nat) : Int)), rfl, by omega, by omega, ?_⟩
  rw [show (1 + ((rn : Nat) : Int)).toNat = rn + 1 by omega]
  refine for_range (lo := 0) (n := rn + 1) (fun i σ H2 => ∃ (La : Addr) (ls : List (List Nat)) (y8 : Option V) (e b' : Nat), σ = S46L va d y2 Fa (some (.ref La)) y5 y6 y7 y8 y9 ∧ DeckAt H2 d la lb (b + 15 - 5 * i) ∧ d ≠ La ∧ la ≠ La ∧ H2 La = some (.lst (ls.map wV)) ∧ e + b' ≤ i ∧ LnB (7 + 3 * e + b') (29 + 9 * b') ls) ⟨La, ls, y8, 0, 0, rfl, D2, n1, n2, hL1, Nat.le_refl _, lb0⟩ (fun i σ H2 hi pp => ?_) (fun σ H2 pp => ?_)
  · obtain ⟨La, ls, z8, e, b', rfl, D3, n1, n2, hL, eb, lb3⟩ := pp
    have ch : ∀ l ∈ ls, chOk l := fun l hl => (lb3.2 l hl).2
    refine ⟨_, rfl, Nat.zero_le _, fun p np => ?_⟩
    have s1 := same_new (o := HO.lst []) np
    refine ⟨wsD ls, wsD [], dp_ws (s1 _ _ hL), dp_ws upd_same, sh_ws ch, (sh_ws fun w hw => nomatch hw), _, rfl, ?_⟩
    rw [eqv_ws]
    have D4 := D3.same s1
    have hL4 := s1 _ _ hL
    generalize upd H2 p (.lst []) = H4 at D4 hL4 ⊢
    by_cases l0 : ls = []
    · exact iteE (by rw [decide_eq_true l0]; rfl) ⟨La, ls, _, e, b', rfl, D4.less (by omega), n1, n2, hL4, by omega, lb3⟩
    · obtain ⟨m, hm⟩ : ∃ m, b + 15 - 5 * i = m + 5 := ⟨b + 10 - 5 * i, by omega⟩
      rw [hm] at D4
      refine iteD (by rw [decide_eq_false l0]; rfl) ⟨_, rfl, _, rfl, d, la, lb, La, m, _, _, ls, rfl, D4, n1, n2, hL4, l0, lb3, by omega, by omega, fun H5 r ls' g5 nr hr5 bd => ?_⟩
      obtain ⟨o1, o2, _⟩ := (Go.refl D4).off nr
      rcases bd with bd | bd
      · exact ⟨r, ls', _, e + 1, b', rfl, g5.now.less (by omega), o1, o2, hr5, by omega, by rw [show 7 + 3 * (e + 1) + b' = 7 + 3 * e + b' + 3 by omega]; exact bd⟩
      · exact ⟨r, ls', _, e, b' + 1, rfl, g5.now.less (by omega), o1, o2, hr5, by omega, by rw [show 29 + 9 * (b' + 1) = 29 + 9 * b' + 9 by omega]; exact bd⟩
  · obtain ⟨La, ls, z8, e, b', rfl, D3, n1, n2, hL, eb, lb3⟩ := pp
    exact nx H2 La ls _ e b' (D3.less (by omega)) n1 n2 hL (by omega) lb3
/-- both are the same -/
def tEn6 : TS := fun D σ H => ∃ (va : V) (d Fa : Addr) (v : V) (x : PyData) (y2 y4 y5 y6 y7 y8 : Option V), σ = S46L va d y2 Fa y4 y5 y6 y7 y8 (some v) ∧ Da Kd.nil H v x ∧ TxO x ∧ (∀ s, x = .str s → (tl s).length ≤ 800) ∧
  ∀ H', Same H H' → D.nx (S46L va d y2 Fa y4 y5 y6 y7 y8 (some v)) H'
theorem dueR_dep : ∀ l : Lns, (dueR l).depth < 7
  | [] => by decide
  | (n0, w0) :: ps => by
    rw [dueR_cons]
    split
    · split
      · exact Nat.lt_of_le_of_lt (Nat.le_refl 1) (by decide)
      · split
        · exact Nat.lt_of_le_of_lt (Nat.le_refl 1) (by decide)
        · have h1 := dep_pdE (esR ps)
          have h2 := dep_pdI (clR ps)
          have h3 := dep_pdI (hoR ps)
          show max (pdE (esR ps)).depth (max (pdI (clR ps)).depth (max (pdI (hoR ps)).depth (max 0 0))) + 1 < 7
          omega
    · exact Nat.lt_of_le_of_lt (Nat.le_refl 1) (by decide)
theorem due_dep (d : PyData) : (dueD d).depth < 7 := by
  cases d with
  | str s => exact dueR_dep _
  | _ => exact Nat.lt_of_le_of_lt (Nat.le_refl 1) (by decide)
theorem segE (hgu : (XL P w K mg base f cdv A out s H0).A.guards = some []) (hr : Room 40 (XL P w K mg base f cdv A out s H0).A) (E : LE P w K mg base) : PS (XL P w K mg base f cdv A out s H0) (turnS 6) tEn6 := by
  have hr3 := hr.mono (show 3 ≤ 40 by decide)
  have hr7 := hr.mono (show 7 ≤ 40 by decide)
  have hr10 := hr.mono (show 10 ≤ 40 by decide)
  refine ps_imp (ps_if (pt_not (pt_val (pe_calG E.same hgu hr7 (by rfl) (pa_cons (pe_cal E.told hr10 (by rfl) (pa_cons (pv 9) pa_nil)) (pa_cons (pe_cal E.due hr3 (by rfl) (pa_cons (pv 9) pa_nil)) pa_nil))))) (pss_one (ps_ret pe_bl)) pss_nil) (fun D σ H h => ?_)
  obtain ⟨va, d, Fa, v, x, y2, y4, y5, y6, y7, y8, rfl, dv, tx, tx8, nx⟩ := h
  refine ⟨_, rfl, v, x, rfl, dv, tx, tx8, fun H1 u1 s1 e1 => ⟨_, rfl, v, x, rfl, dv.same s1, tx, fun H2 u2 s2 e2 => ?_⟩⟩
  refine ⟨u1, u2, _, _, rfl, e1.same s2, e2, due_dep x, fun H3 s3 => ⟨_, rfl, ?_⟩⟩
  exact iteE (by show (!sameD _ _) = false; rw [sameD_refl]; rfl) (nx H3 (s1.trans (s2.trans s3)))
theorem segV (hgu : (XL P w K mg base f cdv A out s H0).A.guards = some []) (hr : Room 40 (XL P w K mg base f cdv A out s H0).A) (E : LE P w K mg base) : PSs (XL P w K mg base f cdv A out s H0) [turnS 4, turnS 5, turnS 6] tVl6 := by
  have hr1 := hr.mono (show 1 ≤ 40 by decide)
  have hr2 := hr.mono (show 2 ≤ 40 by decide)
  refine pss_imp (pss_cons (ps_set (i := 9) scLaw.nd rfl (.inl rfl) (pe_op op_add_str (pe_join pe_str (pv 4)) (pe_op op_mulS pe_str (pe_cal E.next hr1 (by rfl) (pa_cons (pv 1) (pa_cons pe_int pa_nil))))))
      (pss_cons (ps_if (pt_cmpR op_eq (pe_cal E.next hr1 (by rfl) (pa_cons (pv 1) (pa_cons pe_int pa_nil))) pe_int (nomark _)) (pss_one (ps_set (i := 9) scLaw.nd rfl (.inl rfl) (pe_ix ix_list (pe_lst (pa_cons (pe_cal E.odd hr2 (by rfl) (pa_cons (pv 1) pa_nil)) (pa_cons pe_str (pa_cons pe_str (pa_cons pe_str (pa_cons (pv 4) pa_nil)))))) (pe_cal E.next hr1 (by rfl) (pa_cons (pv 1) (pa_cons pe_int pa_nil))) (fun _ _ => rfl)))) pss_nil) (pss_one (segE hgu hr E)))) (fun D σ H h => ?_)
  obtain ⟨va, d, la, lb, Fa, La, b, e, b', ls, y2, y5, y6, y7, y8, y9, rfl, D1, n1, n2, hL, eb, lb0, nx0⟩ := h
  have nx : ∀ (H' : Hp) (v : V) (x : PyData), DeckAt H' d la lb b → Da Kd.nil H' v x → TxO x → (∀ s, x = .str s → (tl s).length ≤ 800) → tEn6 D (S46L va d y2 Fa (some (.ref La)) y5 y6 y7 y8 (some v)) H' := fun H' v x D' dv tx tx8 => ⟨va, d, Fa, v, x, _, _, _, _, _, _, rfl, dv, tx, tx8, fun H2 s2 => nx0 H2 v (D'.same s2)⟩
  have bg := big1000
  have cN : Str.ofString "\n" = sS [10] := eq_sS (by decide +kernel)
  have m59 : 29 + 9 * b' ≤ 56 := by omega
  have ll : ∀ l ∈ ls, l.length ≤ 29 + 9 * b' := fun l hl => (lb0.2 l hl).1
  have ls16 : ls.length ≤ 16 := by have := lb0.1; omega
  have h1 := joinL_len [10] ls
  have h2 := sum_few (c := 29 + 9 * b') (ws := ls) ll
  rw [List.length_singleton, Nat.mul_one] at h1
  have h3 : ls.length * (29 + 9 * b') + ls.length ≤ 600 := by
    have l3 : ls.length ≤ 7 + 3 * e + b' := lb0.1
    have a1 : ls.length * (29 + 9 * b' + 1) ≤ (7 + 3 * e + b') * (29 + 9 * b' + 1) := Nat.mul_le_mul_right _ l3
    have a2 : (7 + 3 * e + b') * (29 + 9 * b' + 1) ≤ 600 := by
      have : (b' = 0 ∧ e ≤ 3) ∨ (b' = 1 ∧ e ≤ 2) ∨ (b' = 2 ∧ e ≤ 1) ∨ (b' = 3 ∧ e ≤ 0) := by omega
      rcases this with ⟨rfl, h⟩ | ⟨rfl, h⟩ | ⟨rfl, h⟩ | ⟨rfl, h⟩ <;> omega
    have a3 : ls.length * (29 + 9 * b' + 1) = ls.length * (29 + 9 * b') + ls.length := by rw [Nat.mul_add, Nat.mul_one]
    omega
  have jl : (joinL [10] ls).length ≤ 600 := by omega
  have hL' : H La = some (.lst ((ls.map sS).map V.str)) := by rw [hL, List.map_map]; rfl
  have jch : chOk (joinL [10] ls) := fun x hx => by
    rcases joinL_mem hx with z | ⟨w, hw, z⟩
    · rw [List.mem_singleton.mp z]; decide
    · exact (lb0.2 w hw).2 x z
  have jp := cut_joined (c := 10) (m := 29 + 9 * b') ll
  rw [cN]
  refine ⟨⟨_, rfl⟩, _, rfl, _, La, ls.map sS, rfl, rfl, .inl (SqL.of hL'), ?_, ?_⟩
  · have e3 : (ls.map sS).map (·.length) = ls.map List.length := by
      rw [List.map_map]
      exact List.map_congr_left fun w _ => sS_len w
    rw [e3, List.length_map, sS_len, List.length_singleton]
    omega
  rw [show Txt.join (sS [10]) (ls.map sS) = sS (joinL [10] ls) from SX.join_S _ _]
  generalize joinL [10] ls = jt at jl jch jp
  refine ⟨_, rfl, d, la, lb, 2, b + 4, rfl, by decide, by decide, D1, fun r H1 r0 r1 D2 k1 => ?_⟩
  obtain ⟨rn, rfl⟩ : ∃ n : Nat, r = (n : Nat) := ⟨r.toNat, by omega⟩
  refine ⟨[10], rn, rfl, rfl, by omega, by decide, ?_⟩
  have hL1 : H1 La = some (.lst (ls.map wV)) := k1 _ _ hL (by rintro (z | z) <;> (rw [z] at n1 n2; contradiction))
  have txt : TxO (.str (sS (jt ++ (List.replicate rn [10]).flatten))) ∧ ∀ s, PyData.str (sS (jt ++ (List.replicate rn [10]).flatten)) = .str s → (tl s).length ≤ 800 := by
    have : rn = 0 ∨ rn = 1 := by omega
    rcases this with rfl | rfl
    · refine txO_of (by simp; omega) (fun p hp => ?_) (fun x hx => ?_)
      · rw [show (List.replicate 0 [10]).flatten = ([] : List Nat) from rfl, List.append_nil] at hp
        have := jp p hp
        omega
      · rw [show (List.replicate 0 [10]).flatten = ([] : List Nat) from rfl, List.append_nil] at hx
        exact jch x hx
    · refine txO_of (by simp; omega) (fun p hp => ?_) (fun x hx => ?_)
      · rw [show (List.replicate 1 [10]).flatten = ([10] : List Nat) from rfl, show jt ++ [10] = jt ++ 10 :: [] from rfl, cutA_two] at hp
        rcases List.mem_append.mp hp with z | z
        · have := jp p z
          omega
        · rw [List.mem_singleton.mp (show p ∈ [[]] from z)]; exact Nat.zero_le _
      · rcases List.mem_append.mp hx with z | z
        · exact jch x z
        · rw [List.mem_singleton.mp (show x ∈ [10] from z)]; decide
  refine ⟨sS jt, sS (List.replicate rn [10]).flatten, rfl, rfl, ?_, ?_⟩
  · rw [sS_len, sS_len, rep_len]; simp; omega
  rw [sS_app]
  generalize sS (jt ++ (List.replicate rn [10]).flatten) = x at txt ⊢
  clear h1 h2 h3 jp jch jl hL'
  refine ⟨_, rfl, d, la, lb, 8, b + 3, rfl, by decide, by decide, D2, fun q H2 q0 q1 D3 k2 => ⟨rfl, _, rfl, ?_⟩⟩
  have hL2 : H2 La = some (.lst (ls.map wV)) := k2 _ _ hL1 (by rintro (z | z) <;> (rw [z] at n1 n2; contradiction))
  refine ite2 (fun _ => ?_) (fun _ => nx H2 _ (.str x) (D3.less (by omega)) (.str x) txt.1 txt.2)
  refine ⟨_, rfl, d, la, lb, b + 2, rfl, D3, fun xo eo H3 D4 k3 dao mem => ⟨_, rfl, ?_⟩⟩
  have hL3 : H3 La = some (.lst (ls.map wV)) := k3 _ _ hL2 (by rintro (z | z) <;> (rw [z] at n1 n2; contradiction))
  refine ⟨(show 5 ≤ sizeLine by omega), fun L nL => ?_⟩
  have s4 := same_new (o := HO.lst [xo, V.str (Str.ofString ""), V.str (Str.ofString "\n#\n"), V.str (Str.ofString "several"), V.ref La]) nL
  have hLL := upd_same (H := H3) (a := L) (o := HO.lst [xo, V.str (Str.ofString ""), V.str (Str.ofString "\n#\n"), V.str (Str.ofString "several"), V.ref La])
  have hL4 := s4 _ _ hL3
  have D5 := D4.same s4
  have dao4 := dao.keep (.of_same s4)
  obtain ⟨o1, o2, _⟩ := (Go.refl D4).off nL
  generalize upd H3 L (HO.lst [xo, V.str (Str.ofString ""), V.str (Str.ofString "\n#\n"), V.str (Str.ofString "several"), V.ref La]) = H4 at hLL hL4 D5 dao4 ⊢
  refine ⟨_, rfl, d, la, lb, 5, b + 1, rfl, by decide, by decide, D5, fun q H5 q0 q1 D6 k5 => ?_⟩
  have hLL5 := k5 _ _ hLL (by rintro (z | z) <;> (rw [z] at o1 o2; contradiction))
  have hL5 : H5 La = some (.lst (ls.map wV)) := k5 _ _ hL4 (by rintro (z | z) <;> (rw [z] at n1 n2; contradiction))
  have dao5 : Da Kd.nil H5 xo eo := by
    have kk : Keep (trk H2) H4 H5 := fun c o e n => k5 c o e (fun z => n (by
      obtain ⟨a1, a2, _⟩ := D3.tracked
      rcases z with z | z <;> rw [z] <;> assumption))
    exact (dao4.keep kk).sub fun _ z => z.elim
  have pick : ∃ v e, atI ([xo, V.str (Str.ofString ""), V.str (Str.ofString "\n#\n"), V.str (Str.ofString "several"), V.ref La] : List V) q = some v ∧ Da Kd.nil H5 v e ∧ TxO e ∧ ∀ s, e = .str s → (tl s).length ≤ 800 := by
    have st : ∀ z : Str, ((tl z).length ≤ 800 ∧ ((cutA 10 [] (tl z)).all fun p => decide (p.length ≤ 59)) = true ∧ ((tl z).all fun c => decide (c < 1114112)) = true) → TxO (.str z) ∧ ∀ s, PyData.str z = .str s → (tl s).length ≤ 800 := fun z hz => by
      have := txO_of (l := tl z) hz.1 (fun p hp => of_decide_eq_true (List.all_eq_true.mp hz.2.1 p hp)) (fun c hc => of_decide_eq_true (List.all_eq_true.mp hz.2.2 c hc))
      rw [sS_tl] at this
      exact this
    have : q = 0 ∨ q = 1 ∨ q = 2 ∨ q = 3 ∨ q = 4 := by omega
    rcases this with h | h | h | h | h <;> subst h
    · exact ⟨xo, eo, rfl, dao5, odd_tx mem⟩
    · exact ⟨_, _, rfl, .str _, st _ (by decide +kernel)⟩
    · exact ⟨_, _, rfl, .str _, st _ (by decide +kernel)⟩
    · exact ⟨_, _, rfl, .str _, st _ (by decide +kernel)⟩
    · exact ⟨_, _, rfl, da_ws hL5 (by omega), txO_no rfl⟩
  obtain ⟨v, e, hv, dv, te, te8⟩ := pick
  refine ⟨L, _, q, v, rfl, rfl, SqL.of hLL5, hv, ?_⟩
  exact nx H5 v e (D6.less (by omega)) dv te te8
end
def spLaw (K : PySem.W.Frag) : Sp := fun vs H Q _ => ∃ (a : Addr) (ns : List Int), vs = [.ref a] ∧ SqL K H a (ns.map V.int) ∧ ns.length ≤ 63 ∧ ∀ H', Q (.bl true) H'
theorem ok_law {P : Program} {w : World} {K : PySem.W.Frag} {mg : Str → Option Value} {base : Heap} {f : Addr} {fd : FuncData} (F : Fun K "law" "law" sLaw f fd) (E : LE P w K mg base) : FnG P w K mg base 41 f fd ["_law_script"] (spLaw K) := by
  refine okG F scLaw (fun vs H Q E h => ?_) (fun cdv A out s H vs Q hgu hr h => ?_)
  · obtain ⟨a, ns, rfl, _⟩ := h
    rfl
  · obtain ⟨a, ns, rfl, hS, hlen, q⟩ := h
    have hr1 := hr.mono (show 1 ≤ 40 by decide)
    have hr3 := hr.mono (show 3 ≤ 40 by decide)
    refine ⟨_, (pss_cons (ps_set (i := 1) scLaw.nd rfl (.inl rfl) (pe_cal E.deck hr1 (by rfl) (pa_cons (pv 0) pa_nil)))
      (pss_cons (ps_for PassesOwn.never rfl (pi_range1 (by rfl) E.B.range (pa_cons pe_int pa_nil)) (pg_name (i := 2) scLaw.nd rfl (.inl rfl))
        (pss_cons (ps_set (i := 3) scLaw.nd rfl (.inl rfl) (pe_cal E.four hr3 (by rfl) (pa_cons (pv 1) (pa_cons pe_int pa_nil))))
      (pss_cons (ps_set (i := 4) scLaw.nd rfl (.inl rfl) (pe_lst (pa_cons (pe_ix ix_list (pe_lst (pa_cons pe_str (pa_cons pe_str pa_nil))) (pe_callTy call_int1 (by rfl) E.B.int PyProof.Rows.boot_int (pa_cons (pe_ix ix_list (pv 3) pe_int (fun _ _ => rfl)) pa_nil)) (fun _ _ => rfl)) pa_nil)))
      (pss_cons (segL E)
      (pss_cons (segC hr E)
      (segV hgu hr E))))))
      (pss_one (ps_ret pe_bl)))), ?_⟩
    have bg := big1000
    have z1 : 1 ≤ sizeLine := by omega
    have z2 : 2 ≤ sizeLine := by omega
    have c1 : Str.ofString "several" = sS severalL := eq_sS (by decide +kernel)
    have c2 : Str.ofString "single" = sS singleL := eq_sS (by decide +kernel)
    refine ⟨_, rfl, a, ns, rfl, hS, hlen, fun H1 d la lb s1 nd nla nlb D1 => ?_⟩
    refine ⟨8, rfl, by decide, by decide, for_range (lo := 0) (n := 8) (fun i σ H2 => ∃ (y2 y3 y4 y5 y6 y7 y8 y9 : Option V), σ = [some (.ref a), some (.ref d), y2, y3, y4, y5, y6, y7, y8, y9] ∧ DeckAt H2 d la lb (1152921504606846976 - 100 * i))
      ⟨none, none, none, none, none, none, none, none, rfl, D1⟩ (fun i σ H2 hi hP => ?_) (fun σ H2 hP => ?_)⟩
    · obtain ⟨y2, y3, y4, y5, y6, y7, y8, y9, rfl, D2⟩ := hP
      obtain ⟨b, hb⟩ : ∃ b, 1152921504606846976 - 100 * i = (((b + 5) + 16)) + 64 := ⟨1152921504606846976 - 100 * i - 85, by omega⟩
      rw [hb] at D2
      refine ⟨_, rfl, d, la, lb, 6, (b + 5) + 16, rfl, by decide, by decide, D2, fun H3 Fa es cl ho sv g3 nF F3 el => ?_⟩
      obtain ⟨⟨ve, vc, vh, hF, he, hc, hh⟩, EL, SC, SH⟩ := id F3
      refine ⟨z2, fun L nL => ?_⟩
      have s4 := same_new (o := HO.lst [V.str (Str.ofString "single"), V.str (Str.ofString "several")]) nL
      have hL := upd_same (H := H3) (a := L) (o := HO.lst [V.str (Str.ofString "single"), V.str (Str.ofString "several")])
      refine ⟨_, rfl, Fa, _, 3, .bl sv, rfl, rfl, SqL.of (s4 _ _ hF), atI_nat (j := 3) rfl, .inr ⟨_, rfl, L, _, _, wV (firstL sv), rfl, rfl, SqL.of hL, ?_, z1, fun La nLa => ?_⟩⟩
      · cases sv with
        | true => show atI _ 1 = _; rw [c1, c2]; rfl
        | false => show atI _ 0 = _; rw [c1, c2]; rfl
      have s5 := same_new (o := HO.lst [wV (firstL sv)]) nLa
      have g4 := g3.now.same s4
      obtain ⟨o1, o2, _⟩ := (Go.refl g4).off nLa
      refine ⟨.ref a, d, Fa, La, _, es, cl, ho, sv, _, _, _, _, _, _, rfl, F3.same s4, nLa, s5, upd_same, fun H6 t5 t6 t7 s6 hL6 => ?_⟩
      refine ⟨.ref a, d, la, lb, Fa, La, b + 5, _, _, _, _, _, _, _, rfl, g4.same s6, o1, o2, hL6, lines_LnB EL cl ho, fun H7 La7 ls7 t8 e7 b7 D7 o3 o4 hL7 eb7 lb7 => ?_⟩
      refine ⟨.ref a, d, la, lb, Fa, La7, b, e7, b7, ls7, _, _, _, _, _, _, rfl, D7, o3, o4, hL7, eb7, lb7, fun H8 v D8 => ?_⟩
      exact ⟨_, _, _, _, _, _, _, _, rfl, D8.less (by omega)⟩
    · obtain ⟨y2, y3, y4, y5, y6, y7, y8, y9, rfl, _⟩ := hP
      exact q H2
end Kc

set_option Elab.async false
set_option linter.all false
set_option maxRecDepth 100000
set_option maxHeartbeats 4000000
/-! BadText(..) -/
namespace Kc
open PySem PySem.Spec PyProof.Rows L2 Kg Kd Kf Kx
abbrev sXbtc : Stmt := topS 14
abbrev sXbt : Stmt := inClass sXbtc 0
theorem scXbt : FnScope ["self", "line", "code"] ["self", "line", "code"] (defScope sXbt) := ⟨rfl, rfl, rfl, by decide +kernel, rfl, by decide +kernel, by decide +kernel⟩
theorem ok_xbt {P : Program} {w : World} {K : PySem.W.Frag} {mg : Str → Option Value} {base : Heap} {f : Addr} {fd : FuncData} {C : Addr} {k : Nat} (F : Fun K "__init__" "BadText.__init__" sXbt f fd) (T : StX K C veL) (h1 : PySem.W.takerIn K C "line" = some none) (h2 : PySem.W.takerIn K C "code" = some none) : FnOk P w K mg base CX0 (k + 1) f fd ["self", "line", "code"] (spX2 "line" "code" C) := by
  refine F.ok scXbt (fun vs H Q E h => ?_) (fun cdv A outer s H vs Q E hr h => ?_)
  · obtain ⟨a, v, u, rfl, _⟩ := h
    rfl
  · obtain ⟨a, v, u, rfl, ha, q⟩ := h
    exact ⟨_, pss_cons (ps_stx (bmB := veL) PySem.F.store_ValueError (pv 0) (pv 1)) (pss_one (ps_stx2 (bmB := veL) PySem.F.store_ValueError (pv 0) (pv 2))), ⟨v, rfl, .ref a, rfl, a, C, rfl, T, h1, ha, fun dx n ne => ⟨u, rfl, .ref a, rfl, a, C, dx, _, rfl, T, h2, upd_same, (by rw [upd_ne ne, upd_same]), by simp, q dx n ne⟩⟩⟩
end Kc

set_option Elab.async false
set_option linter.all false
set_option maxRecDepth 100000
set_option maxHeartbeats 4000000
namespace Kc
open PySem PySem.Spec PyProof.Rows L2 Kg Kd Kr Kf
section
variable {P : Program} {w : World} {K : PySem.W.Frag} {mg : Str → Option Value} {base : Heap} {f : Addr} {fd : FuncData} {k : Nat}
abbrev sGE : Stmt := inClass sCls 1
theorem scGE : FnScope ["self"] ["self"] (defScope sGE) := ⟨rfl, rfl, rfl, by decide +kernel, rfl, by decide +kernel, by decide +kernel⟩
theorem ok_ge {C : Addr} (F : Fun K "elders" "Kinds.elders" sGE f fd) (T : KC K C) : FnOk P w K mg base CX0 (k + 1) f fd ["self"] (getSp C "kept_elders") := by
  refine F.ok scGE (fun vs H Q E h => ?_) (fun cdv A outer s H vs Q E hr h => ?_)
  · obtain ⟨a, dx, fs, v, rfl, _⟩ := h
    rfl
  · obtain ⟨a, dx, fs, v, rfl, ea, l, q⟩ := h
    exact ⟨_, pss_one (ps_ret (pe_fld (pv 0) rfl)), _, rfl, a, C, dx, fs, v, rfl, ea, T.cl, T.n1, l, q⟩
end
end Kc

set_option Elab.async false
set_option linter.all false
set_option maxRecDepth 100000
set_option maxHeartbeats 4000000
namespace Kc
open PySem PySem.Spec PyProof.Rows L2 Kg Kd Kr Kf
section
variable {P : Program} {w : World} {K : PySem.W.Frag} {mg : Str → Option Value} {base : Heap} {f : Addr} {fd : FuncData} {k : Nat}
abbrev sGC : Stmt := inClass sCls 2
theorem scGC : FnScope ["self"] ["self"] (defScope sGC) := ⟨rfl, rfl, rfl, by decide +kernel, rfl, by decide +kernel, by decide +kernel⟩
theorem ok_gc {C : Addr} (F : Fun K "closed" "Kinds.closed" sGC f fd) (T : KC K C) : FnOk P w K mg base CX0 (k + 1) f fd ["self"] (getSp C "kept_closed") := by
  refine F.ok scGC (fun vs H Q E h => ?_) (fun cdv A outer s H vs Q E hr h => ?_)
  · obtain ⟨a, dx, fs, v, rfl, _⟩ := h
    rfl
  · obtain ⟨a, dx, fs, v, rfl, ea, l, q⟩ := h
    exact ⟨_, pss_one (ps_ret (pe_fld (pv 0) rfl)), _, rfl, a, C, dx, fs, v, rfl, ea, T.cl, T.n2, l, q⟩
end
end Kc

set_option Elab.async false
set_option linter.all false
set_option maxRecDepth 100000
set_option maxHeartbeats 4000000
namespace Kc
open PySem PySem.Spec PyProof.Rows L2 Kg Kd Kr Kf
section
variable {P : Program} {w : World} {K : PySem.W.Frag} {mg : Str → Option Value} {base : Heap} {f : Addr} {fd : FuncData} {k : Nat}
abbrev sGH : Stmt := inClass sCls 3
theorem scGH : FnScope ["self"] ["self"] (defScope sGH) := ⟨rfl, rfl, rfl, by decide +kernel, rfl, by decide +kernel, by decide +kernel⟩
theorem ok_gh {C : Addr} (F : Fun K "hollow" "Kinds.hollow" sGH f fd) (T : KC K C) : FnOk P w K mg base CX0 (k + 1) f fd ["self"] (getSp C "kept_hollow") := by
  refine F.ok scGH (fun vs H Q E h => ?_) (fun cdv A outer s H vs Q E hr h => ?_)
  · obtain ⟨a, dx, fs, v, rfl, _⟩ := h
    rfl
  · obtain ⟨a, dx, fs, v, rfl, ea, l, q⟩ := h
    exact ⟨_, pss_one (ps_ret (pe_fld (pv 0) rfl)), _, rfl, a, C, dx, fs, v, rfl, ea, T.cl, T.n3, l, q⟩
end
end Kc

set_option Elab.async false
set_option linter.all false
set_option maxRecDepth 100000
set_option maxHeartbeats 4000000
namespace Kc
open PySem PySem.Spec PyProof.Rows L2 Kg Kd Kr Kf
section
variable {P : Program} {w : World} {K : PySem.W.Frag} {mg : Str → Option Value} {base : Heap} {f : Addr} {fd : FuncData} {k : Nat}
abbrev sGS : Stmt := inClass sCls 4
theorem scGS : FnScope ["self"] ["self"] (defScope sGS) := ⟨rfl, rfl, rfl, by decide +kernel, rfl, by decide +kernel, by decide +kernel⟩
theorem ok_gs {C : Addr} (F : Fun K "several" "Kinds.several" sGS f fd) (T : KC K C) : FnOk P w K mg base CX0 (k + 1) f fd ["self"] (getSp C "kept_several") := by
  refine F.ok scGS (fun vs H Q E h => ?_) (fun cdv A outer s H vs Q E hr h => ?_)
  · obtain ⟨a, dx, fs, v, rfl, _⟩ := h
    rfl
  · obtain ⟨a, dx, fs, v, rfl, ea, l, q⟩ := h
    exact ⟨_, pss_one (ps_ret (pe_fld (pv 0) rfl)), _, rfl, a, C, dx, fs, v, rfl, ea, T.cl, T.n4, l, q⟩
end
end Kc

set_option Elab.async false
set_option linter.all false
set_option maxRecDepth 100000
set_option maxHeartbeats 4000000
/-! The law's end, where the table of modules is known to stand. -/
namespace Kg
open PySem PySem.Spec PyProof.Rows L2
/-! ### the law's end -/
theorem endH {P : Program} {w : World} {K : PySem.W.Frag} {mg mb : Str → Option Value} {k : Nat} {fa a : Addr} {fd : FuncData} {x : Str} {sp : Sp} {s₁ : Shared} {vs : List Value} {ns : List Int}
    (KX : K.In s₁.heap) (hns : s₁.heap.Ns mainGlobals mg) (hb : s₁.heap.Ns builtinsNs mb) (hbb : ∀ x : Str, x ≠ "__name__" → mb x = bootBuiltins x) (hlim : s₁.heap.NoLimit) (hg : s₁.gens = #[])
    (ha : s₁.heap.get? a = some { cls := .type "list", data := .seq vs.toArray }) (hi : IntsAre vs ns) (hl : ns.length ≤ sizeLine) (hr : Room k callerA)
    (hsm : ∃ o es n, s₁.heap.get? sysModules = some o ∧ o.data = .dict es n) (F : ∀ base : Heap, K.In base → base.Ns mainGlobals mg → (∃ o, base.get? sysModules = some o) → FnG P w K mg base k fa fd [x] sp) (hbind : ∀ (s : Shared) (u : Value), BindsTo s fd ⟨[u], []⟩ [(x, u)])
    (hsp : ∀ H : Hp, Only H → SqL K H a (ns.map V.int) → sp [.ref a] H (fun v _ => v = .bl true) E0) :
    codeAny (model P w) callerA (.call (.ref fa) ⟨[.ref a], []⟩) (fun r s' => r = .ok (.ret (.bool true)) ∧ OldK s₁.heap s'.heap ∧ s'.os = s₁.os ∧ AllBare s'.gens) s₁ := by
  have main : ∀ H : Hp, Only H → SqL K H a (ns.map V.int) → HOk P w H s₁.heap → (∀ b o, H b = some o → b = a ∧ K.lookup a = none) →
      codeAny (model P w) callerA (.call (.ref fa) ⟨[.ref a], []⟩) (fun r s' => r = .ok (.ret (.bool true)) ∧ OldK s₁.heap s'.heap ∧ s'.os = s₁.os ∧ AllBare s'.gens) s₁ := by
    intro H only sq ok one
    have notD : ∀ {b : Addr} {o : Obj} {es : Array DictEntry} {n : Nat}, s₁.heap.get? b = some o → o.data = .dict es n → H b = none := by
      intro b o es n e d
      cases q : H b with
      | none => rfl
      | some u =>
        rw [(one b u q).1, ha] at e
        rw [← Option.some.inj e] at d
        exact nomatch d
    have hid : ∀ {b : Addr} {m : Str → Option Value}, s₁.heap.Ns b m → (hidT s₁.heap H).Ns b m := by
      intro b m z
      obtain ⟨o, es, n, e, d, r⟩ := z
      exact ⟨o, es, n, hidT_get e (notD e d), d, r⟩
    have kb : K.In (hidT s₁.heap H) := by
      intro b o e
      refine hidT_get (KX b o e) ?_
      cases q : H b with
      | none => rfl
      | some u =>
        obtain ⟨z1, z2⟩ := one b u q
        rw [z1, z2] at e
        exact nomatch e
    obtain ⟨mc, l1, l2⟩ := hlim
    have env : Env0 P w K mg (hidT s₁.heap H) callerA [] s₁ H :=
      { frames := rfl, mod := ⟨kb, hid hns, ⟨mb, hid hb, hbb⟩, ⟨mc, hid l1, l2⟩⟩, bs := fun b o e => of_hidT e, bsz := Nat.le_of_eq (hidT_size _ _), funs := trivial, frf := fun b z => (nomatch (show b ∈ ([] : List Addr) from z)), hok := ok, bare := .of_eq hg }
    obtain ⟨osm, esm, nsm, hsm1, hsm2⟩ := hsm
    refine codeAny_mono ((F _ kb (hid hns) ⟨osm, hidT_get hsm1 (notD hsm1 hsm2)⟩).go callerA [] s₁ H ⟨[.ref a], []⟩ [.ref a] [.ref a] _ rfl hr env (hbind s₁ (.ref a)) (.cons rfl .nil) (hsp H only sq)) fun r s' z => ?_
    match r, z with
    | .error _, z => exact z.elim
    | .ok .next, z => exact z.elim
    | .ok .brk, z => exact z.elim
    | .ok .cont, z => exact z.elim
    | .ok (.ret u), ⟨v, H', zo, zb, un, ok', rv, ev⟩ =>
      have ev' : v = .bl true := ev
      rw [ev'] at rv
      have eu : u = Value.bool true := rv
      refine ⟨by rw [eu], OldK.of_keep fun b o e => ?_, zo, zb⟩
      cases q : H b with
      | none => exact un.keep b o e q (fun y => nomatch (show b ∈ ([] : List Addr) from y)) (fun y => nomatch y)
      | some u2 =>
        cases only b with
        | inl y => rw [q] at y; exact nomatch y
        | inr y =>
          obtain ⟨ob, xs, y⟩ := y
          have y1 : ObjOk P w H s₁.heap b (.frz ob (.lst xs)) := ok b _ y
          have y2 : ObjOk P w H' s'.heap b (.frz ob (.lst xs)) := ok' b _ (un.frzs b ob _ y)
          have y3 : some o = some ob := e.symm.trans y1.1
          rw [Option.some.inj y3]
          exact y2.1
  have rv := vals_ints hi
  cases hk : K.lookup a with
  | none =>
    let H0 : Hp := fun b => if b = a then some (.frz { cls := .type "list", data := .seq vs.toArray } (.lst (ns.map V.int))) else none
    have at0 : ∀ b o, H0 b = some o → b = a ∧ o = .frz { cls := .type "list", data := .seq vs.toArray } (.lst (ns.map V.int)) := by
      intro b o e
      by_cases z : b = a
      · exact ⟨z, (Option.some.inj ((if_pos z).symm.trans e)).symm⟩
      · exact nomatch ((if_neg z).symm.trans e)
    refine main H0 (fun b => ?_) (.inl (.inr ⟨_, if_pos rfl⟩)) (fun b o e => ?_) (fun b o e => ⟨(at0 b o e).1, hk⟩)
    · cases q : H0 b with
      | none => exact .inl rfl
      | some o => exact .inr ⟨_, _, by rw [(at0 b o q).2]⟩
    · obtain ⟨z1, z2⟩ := at0 b o e
      rw [z1, z2]
      exact ⟨ha, by rw [List.length_map]; exact hl, vs, _, rv, ha⟩
  | some o =>
    have eo : ({ cls := .type "list", data := .seq vs.toArray } : Obj) = o := Option.some.inj (ha.symm.trans (KX a o hk))
    rw [← eo] at hk
    refine main (fun _ => none) (fun _ => .inl rfl) (.inr ⟨_, vs.toArray, _, hk, rfl, rfl, rfl, ?_, by simpa using rv⟩) (fun b o e => nomatch (show (none : Option HO) = some o from e)) (fun b o e => nomatch (show (none : Option HO) = some o from e))
    rw [List.size_toArray, hi.length]; exact hl
/-- what k_head leaves, from the law's promise; the script's bits are told -/
theorem walkH {l : PySem.W.OpenLaw} {n k : Nat} {q : Program} {loose : List Str} {XP : (Str → Option Value) → Heap → Prop} {YP : World → Heap → Prop} {d : DefRec} {K : Params → PySem.W.Frag} {sp : PySem.W.Frag → Sp} {x : Str}
    (himp : importsNone q = true) (hn : l.most = some n) (hn2 : n ≤ sizeLine) (hdf : d.params.defaults = []) (hr : Room k callerA) (hY : ∀ (w : World) (h : Heap), YP w h → (K w.params).In h)
    (F : ∀ (w : World) (mg : Str → Option Value) (fa : Addr) (h : Heap), (K w.params).In h → h.Ns mainGlobals mg → mg d.name = some (.ref fa) →
      ∃ fd : FuncData, (∀ (s : Shared) (u : Value), BindsTo s fd ⟨[u], []⟩ [(x, u)]) ∧ ∀ base : Heap, (K w.params).In base → base.Ns mainGlobals mg → (∃ o, base.get? sysModules = some o) → FnG l.prog w (K w.params) mg base k fa fd [x] (sp (K w.params)))
    (hsp : ∀ (K : PySem.W.Frag) (H : Hp) (a : Addr) (ns : List Int), ns.length ≤ n → (∀ z ∈ ns, Builtin.Int.intBits z ≤ 1048576) → Only H → SqL K H a (ns.map V.int) → sp K [.ref a] H (fun v _ => v = .bl true) E0) :
    PySem.W.WalkO q loose XP YP l.row.toRowW d [] (fun f vs => PySem.call f vs) := by
  refine Att.attach_callB hn hdf fun w s₀ s₁ mg mb fa o pm cd dc a vs ns G Y ho hd hcd hmg hobj hints hlen hbits hgen => ?_
  obtain ⟨fd, hbi, hF⟩ := F w mg fa _ (hY w _ Y) G.T.g hmg
  exact endH (hY w _ Y) G.T.g G.T.b G.T.builtins G.T.nolimit hgen hobj hints (Nat.le_trans hlen hn2) hr (by
    obtain ⟨mm, ⟨o, es, n', e1, e2, _⟩, _⟩ := (G.T.seer himp).mods
    exact ⟨o, es, n', e1, e2⟩) hF hbi fun H hO hS => hsp (K w.params) H a ns hlen hbits hO hS
end Kg

set_option Elab.async false
set_option linter.all false
set_option maxRecDepth 100000
set_option maxHeartbeats 8000000
namespace Kc
open PySem PySem.Spec PyProof.Rows L2 Kg Kd Kr Kf Kl
theorem ba2 {a b : Bool} (h : (a && b) = true) : a = true ∧ b = true := Bool.and_eq_true_iff.mp h
/-- the class Kinds -/
def kcB (K : PySem.W.Frag) (C fI : Addr) : Bool := PySem.W.plainGet K C Str.empty && (PySem.W.hasDictIn K C && (PySem.W.plainOver K C && (decide (PySem.W.findIn K (.ref C) "__setattr__" = some (some (.builtin "object.__setattr__"))) &&
  (decide (PySem.W.findIn K (.ref C) "kept_elders" = some none) && (decide (PySem.W.findIn K (.ref C) "kept_closed" = some none) && (decide (PySem.W.findIn K (.ref C) "kept_hollow" = some none) && (decide (PySem.W.findIn K (.ref C) "kept_several" = some none) && (decide (PySem.W.findIn K (.ref C) "kept_above" = some none) &&
  (PySem.W.makesIn K C && (PySem.W.isFn K (.ref fI) && PySem.W.keepIn K (.ref C)))))))))))
theorem kcB_ok {K : PySem.W.Frag} {C fI : Addr} (y : PySem.W.findIn K (.ref C) "__init__" = some (some (.ref fI))) (h : kcB K C fI = true) : KC K C ∧ Mk K C fI := by
  obtain ⟨h1, h⟩ := ba2 h
  obtain ⟨h2, h⟩ := ba2 h
  obtain ⟨h3, h⟩ := ba2 h
  obtain ⟨h4, h⟩ := ba2 h
  obtain ⟨h5, h⟩ := ba2 h
  obtain ⟨h6, h⟩ := ba2 h
  obtain ⟨h7, h⟩ := ba2 h
  obtain ⟨h8, h⟩ := ba2 h
  obtain ⟨h9, h⟩ := ba2 h
  obtain ⟨hA, h⟩ := ba2 h
  obtain ⟨hB, hC⟩ := ba2 h
  have k5 : PySem.W.findIn K (.ref C) "kept_elders" = some none := of_decide_eq_true h5
  have k6 : PySem.W.findIn K (.ref C) "kept_closed" = some none := of_decide_eq_true h6
  have k7 : PySem.W.findIn K (.ref C) "kept_hollow" = some none := of_decide_eq_true h7
  have k8 : PySem.W.findIn K (.ref C) "kept_several" = some none := of_decide_eq_true h8
  have k9 : PySem.W.findIn K (.ref C) "kept_above" = some none := of_decide_eq_true h9
  exact ⟨⟨⟨h1, h2, h3, of_decide_eq_true h4⟩, k5, k6, k7, k8, k9⟩, ⟨hA, y, hB, hC⟩⟩
def tys : List String := ["tuple", "NoneType", "str", "int", "dict"]
def kiB (K : PySem.W.Frag) (C : Addr) : Bool := decide (PySem.W.findIn K (.ref C) "__class__" = some (some (.builtin "object.__class__"))) && (decide (PySem.W.specialIn K (.builtin "object.__class__") "__get__" = some (some (.builtin "getset_descriptor.__get__"))) && (decide (PySem.W.takesIn K (.builtin "object.__class__") = some true) &&
  (decide (PySem.W.mroIn K C (.type "object") = some true) && (decide (PySem.W.kitOne K (.ref C) (.ref C) = some true) && ((tys.all fun t => decide (PySem.W.kitOne K (.type t) (.ref C) = some false)) && ((tys.all fun t => PySem.W.notFirst K C (.type t)) && (PySem.W.notFirst K C (.ref C) &&
  (decide (PySem.W.findIn K (.ref C) "__ne__" = some (some (.builtin "object.__ne__"))) && decide (PySem.W.subIn K (.ref C) (.type "object") = some true)))))))))
theorem kiB_ok {K : PySem.W.Frag} {C : Addr} (h : kiB K C = true) : KI K C ∧ PySem.W.findIn K (.ref C) "__ne__" = some (some (.builtin "object.__ne__")) ∧ PySem.W.subIn K (.ref C) (.type "object") = some true := by
  obtain ⟨h1, h⟩ := ba2 h
  obtain ⟨h2, h⟩ := ba2 h
  obtain ⟨h3, h⟩ := ba2 h
  obtain ⟨h4, h⟩ := ba2 h
  obtain ⟨h5, h⟩ := ba2 h
  obtain ⟨h6, h⟩ := ba2 h
  obtain ⟨h7, h⟩ := ba2 h
  obtain ⟨h8, h⟩ := ba2 h
  obtain ⟨h9, hA⟩ := ba2 h
  exact ⟨⟨of_decide_eq_true h1, of_decide_eq_true h2, of_decide_eq_true h3, of_decide_eq_true h4, of_decide_eq_true h5, fun t ht => of_decide_eq_true (List.all_eq_true.mp h6 t ht), fun t ht => List.all_eq_true.mp h7 t ht, h8⟩, of_decide_eq_true h9, of_decide_eq_true hA⟩
def prB (K : PySem.W.Frag) (p : Addr) : Bool := decide (PySem.W.specialIn K (.ref p) "__get__" = some (some (.builtin "property.__get__"))) && decide (PySem.W.takesIn K (.ref p) = some true)
open Kx
/-! ### exceptions and shelves -/
def x0B (K : PySem.W.Frag) (C : Addr) : Bool := PySem.W.excIn K C veL "ValueError.__new__" && (PySem.W.keepIn K (.ref C) && (decide (PySem.W.subIn K (.ref C) (.type "BaseException") = some true) && decide (PySem.W.typeIn K (.ref C) = some (.type "type"))))
theorem x0B_ok {K : PySem.W.Frag} {mg : Str → Option Value} {x : Str} {C : Addr} (g : mg x = some (.ref C)) (h : x0B K C = true) : X0C K mg x C := by
  obtain ⟨h1, h⟩ := ba2 h
  obtain ⟨h2, h⟩ := ba2 h
  obtain ⟨h3, h4⟩ := ba2 h
  exact ⟨⟨veL, "ValueError", "ValueError.__new__", "ValueError.__init__", PySem.F.excBase_ValueError, h1⟩, h2, of_decide_eq_true h3, of_decide_eq_true h4, g⟩
def raB (K : PySem.W.Frag) (C fI : Addr) (bm : List Value) (nid : String) (fs : List Str) : Bool := PySem.W.excInitIn K C bm nid && (decide (PySem.W.typeIn K (.ref fI) = some (.type "function")) && (PySem.W.keepIn K (.ref C) && (PySem.W.excOver K C bm && (PySem.W.hasDictIn K C && (decide (PySem.W.findIn K (.ref C) "__setattr__" = some (some (.builtin "object.__setattr__"))) &&
  ((fs.all fun f => decide (PySem.W.takerIn K C f = some none)) && ((fs.all fun f => decide (PySem.W.findIn K (.ref C) f = some none)) && (decide (PySem.W.subIn K (.ref C) (.type "BaseException") = some true) && (decide (PySem.W.typeIn K (.ref C) = some (.type "type")) && xfB K C)))))))))
structure RaB (K : PySem.W.Frag) (C fI : Addr) (bm : List Value) (nid : String) (fs : List Str) : Prop where
  mk_ : MkX K C fI bm nid
  st_ : StX K C bm
  tk_ : ∀ f ∈ fs, PySem.W.takerIn K C f = some none
  fi_ : ∀ f ∈ fs, PySem.W.findIn K (.ref C) f = some none
  sb_ : PySem.W.subIn K (.ref C) (.type "BaseException") = some true
  ty_ : PySem.W.typeIn K (.ref C) = some (.type "type")
  xf_ : XfC K C
theorem raB_ok {K : PySem.W.Frag} {C fI : Addr} {bm : List Value} {nid : String} {fs : List Str} (y : PySem.W.findIn K (.ref C) "__init__" = some (some (.ref fI))) (h : raB K C fI bm nid fs = true) : RaB K C fI bm nid fs := by
  obtain ⟨h1, h⟩ := ba2 h
  obtain ⟨h2, h⟩ := ba2 h
  obtain ⟨h3, h⟩ := ba2 h
  obtain ⟨h4, h⟩ := ba2 h
  obtain ⟨h5, h⟩ := ba2 h
  obtain ⟨h6, h⟩ := ba2 h
  obtain ⟨h7, h⟩ := ba2 h
  obtain ⟨h8, h⟩ := ba2 h
  obtain ⟨h9, h⟩ := ba2 h
  obtain ⟨hA, hB⟩ := ba2 h
  exact ⟨⟨h1, y, of_decide_eq_true h2, h3⟩, ⟨h4, h5, of_decide_eq_true h6⟩, fun f hf => of_decide_eq_true (List.all_eq_true.mp h7 f hf), fun f hf => of_decide_eq_true (List.all_eq_true.mp h8 f hf), of_decide_eq_true h9, of_decide_eq_true hA, xfB_ok hB⟩
/-! ### what the top has written -/
theorem all_mk {l : PySem.W.OpenLaw} {w : World} {K : PySem.W.Frag} {h : Heap} {mg : Str → Option Value} {fa f_is_number f_is_index f_is_bool f_is_ascending f_are_elders f_wrong_elders f_wrong_place f_table_above f_words_of f_is_numeral f_numbers_of f_lines_with_words f_several_of f_kind_parts f_kind_of_line f_read_kinds f_law_deck f_law_next f_law_same f_law_odd f_law_some f_law_four f_law_number f_law_line f_law_due f_law_told f_law_bent f_law f_m_init cC p_elders p_closed p_hollow p_several f_p_elders f_p_closed f_p_hollow f_p_several c_BadText f_i_BadText : Addr} (X : K.In h) (G : h.Ns mainGlobals mg) (hfa : mg "law" = some (.ref fa))
    (a_is_number : PySem.W.nsIn K mainGlobals "is_number" = some (some (.ref f_is_number)))
    {ocis_number kVis_number dcis_number pmis_number cdis_number ctis_number : Value} {odis_number anis_number : Option Addr} {slis_number : Array (Option Value)}
    (l_is_number : K.lookup f_is_number = some ⟨ocis_number, odis_number, .func (PySem.W.fnOf "is_number" "is_number" (defArgs sNum) (defBody sNum) (defScope sNum) .none kVis_number dcis_number pmis_number anis_number cdis_number ctis_number), slis_number⟩)
    (x_is_number : PySem.W.codeIn K cdis_number "is_number" = true)
    (k_is_number : PySem.W.keepIn K (.ref f_is_number) = true)
    (a_is_index : PySem.W.nsIn K mainGlobals "is_index" = some (some (.ref f_is_index)))
    {ocis_index kVis_index dcis_index pmis_index cdis_index ctis_index : Value} {odis_index anis_index : Option Addr} {slis_index : Array (Option Value)}
    (l_is_index : K.lookup f_is_index = some ⟨ocis_index, odis_index, .func (PySem.W.fnOf "is_index" "is_index" (defArgs sIdx) (defBody sIdx) (defScope sIdx) .none kVis_index dcis_index pmis_index anis_index cdis_index ctis_index), slis_index⟩)
    (x_is_index : PySem.W.codeIn K cdis_index "is_index" = true)
    (k_is_index : PySem.W.keepIn K (.ref f_is_index) = true)
    (a_is_bool : PySem.W.nsIn K mainGlobals "is_bool" = some (some (.ref f_is_bool)))
    {ocis_bool kVis_bool dcis_bool pmis_bool cdis_bool ctis_bool : Value} {odis_bool anis_bool : Option Addr} {slis_bool : Array (Option Value)}
    (l_is_bool : K.lookup f_is_bool = some ⟨ocis_bool, odis_bool, .func (PySem.W.fnOf "is_bool" "is_bool" (defArgs sIsB) (defBody sIsB) (defScope sIsB) .none kVis_bool dcis_bool pmis_bool anis_bool cdis_bool ctis_bool), slis_bool⟩)
    (x_is_bool : PySem.W.codeIn K cdis_bool "is_bool" = true)
    (k_is_bool : PySem.W.keepIn K (.ref f_is_bool) = true)
    (a_is_ascending : PySem.W.nsIn K mainGlobals "is_ascending" = some (some (.ref f_is_ascending)))
    {ocis_ascending kVis_ascending dcis_ascending pmis_ascending cdis_ascending ctis_ascending : Value} {odis_ascending anis_ascending : Option Addr} {slis_ascending : Array (Option Value)}
    (l_is_ascending : K.lookup f_is_ascending = some ⟨ocis_ascending, odis_ascending, .func (PySem.W.fnOf "is_ascending" "is_ascending" (defArgs sAsc) (defBody sAsc) (defScope sAsc) .none kVis_ascending dcis_ascending pmis_ascending anis_ascending cdis_ascending ctis_ascending), slis_ascending⟩)
    (x_is_ascending : PySem.W.codeIn K cdis_ascending "is_ascending" = true)
    (k_is_ascending : PySem.W.keepIn K (.ref f_is_ascending) = true)
    (a_are_elders : PySem.W.nsIn K mainGlobals "are_elders" = some (some (.ref f_are_elders)))
    {ocare_elders kVare_elders dcare_elders pmare_elders cdare_elders ctare_elders : Value} {odare_elders anare_elders : Option Addr} {slare_elders : Array (Option Value)}
    (l_are_elders : K.lookup f_are_elders = some ⟨ocare_elders, odare_elders, .func (PySem.W.fnOf "are_elders" "are_elders" (defArgs sEld) (defBody sEld) (defScope sEld) .none kVare_elders dcare_elders pmare_elders anare_elders cdare_elders ctare_elders), slare_elders⟩)
    (x_are_elders : PySem.W.codeIn K cdare_elders "are_elders" = true)
    (k_are_elders : PySem.W.keepIn K (.ref f_are_elders) = true)
    (a_wrong_elders : PySem.W.nsIn K mainGlobals "wrong_elders" = some (some (.ref f_wrong_elders)))
    {ocwrong_elders kVwrong_elders dcwrong_elders pmwrong_elders cdwrong_elders ctwrong_elders : Value} {odwrong_elders anwrong_elders : Option Addr} {slwrong_elders : Array (Option Value)}
    (l_wrong_elders : K.lookup f_wrong_elders = some ⟨ocwrong_elders, odwrong_elders, .func (PySem.W.fnOf "wrong_elders" "wrong_elders" (defArgs sWrE) (defBody sWrE) (defScope sWrE) .none kVwrong_elders dcwrong_elders pmwrong_elders anwrong_elders cdwrong_elders ctwrong_elders), slwrong_elders⟩)
    (x_wrong_elders : PySem.W.codeIn K cdwrong_elders "wrong_elders" = true)
    (k_wrong_elders : PySem.W.keepIn K (.ref f_wrong_elders) = true)
    (a_wrong_place : PySem.W.nsIn K mainGlobals "wrong_place" = some (some (.ref f_wrong_place)))
    {ocwrong_place kVwrong_place dcwrong_place pmwrong_place cdwrong_place ctwrong_place : Value} {odwrong_place anwrong_place : Option Addr} {slwrong_place : Array (Option Value)}
    (l_wrong_place : K.lookup f_wrong_place = some ⟨ocwrong_place, odwrong_place, .func (PySem.W.fnOf "wrong_place" "wrong_place" (defArgs sWrP) (defBody sWrP) (defScope sWrP) .none kVwrong_place dcwrong_place pmwrong_place anwrong_place cdwrong_place ctwrong_place), slwrong_place⟩)
    (x_wrong_place : PySem.W.codeIn K cdwrong_place "wrong_place" = true)
    (k_wrong_place : PySem.W.keepIn K (.ref f_wrong_place) = true)
    (a_table_above : PySem.W.nsIn K mainGlobals "table_above" = some (some (.ref f_table_above)))
    {octable_above kVtable_above dctable_above pmtable_above cdtable_above cttable_above : Value} {odtable_above antable_above : Option Addr} {sltable_above : Array (Option Value)}
    (l_table_above : K.lookup f_table_above = some ⟨octable_above, odtable_above, .func (PySem.W.fnOf "table_above" "table_above" (defArgs sTab) (defBody sTab) (defScope sTab) .none kVtable_above dctable_above pmtable_above antable_above cdtable_above cttable_above), sltable_above⟩)
    (x_table_above : PySem.W.codeIn K cdtable_above "table_above" = true)
    (k_table_above : PySem.W.keepIn K (.ref f_table_above) = true)
    (a_words_of : PySem.W.nsIn K mainGlobals "words_of" = some (some (.ref f_words_of)))
    {ocwords_of kVwords_of dcwords_of pmwords_of cdwords_of ctwords_of : Value} {odwords_of anwords_of : Option Addr} {slwords_of : Array (Option Value)}
    (l_words_of : K.lookup f_words_of = some ⟨ocwords_of, odwords_of, .func (PySem.W.fnOf "words_of" "words_of" (defArgs sWof) (defBody sWof) (defScope sWof) .none kVwords_of dcwords_of pmwords_of anwords_of cdwords_of ctwords_of), slwords_of⟩)
    (x_words_of : PySem.W.codeIn K cdwords_of "words_of" = true)
    (k_words_of : PySem.W.keepIn K (.ref f_words_of) = true)
    (a_is_numeral : PySem.W.nsIn K mainGlobals "is_numeral" = some (some (.ref f_is_numeral)))
    {ocis_numeral kVis_numeral dcis_numeral pmis_numeral cdis_numeral ctis_numeral : Value} {odis_numeral anis_numeral : Option Addr} {slis_numeral : Array (Option Value)}
    (l_is_numeral : K.lookup f_is_numeral = some ⟨ocis_numeral, odis_numeral, .func (PySem.W.fnOf "is_numeral" "is_numeral" (defArgs sNml) (defBody sNml) (defScope sNml) .none kVis_numeral dcis_numeral pmis_numeral anis_numeral cdis_numeral ctis_numeral), slis_numeral⟩)
    (x_is_numeral : PySem.W.codeIn K cdis_numeral "is_numeral" = true)
    (k_is_numeral : PySem.W.keepIn K (.ref f_is_numeral) = true)
    (a_numbers_of : PySem.W.nsIn K mainGlobals "numbers_of" = some (some (.ref f_numbers_of)))
    {ocnumbers_of kVnumbers_of dcnumbers_of pmnumbers_of cdnumbers_of ctnumbers_of : Value} {odnumbers_of annumbers_of : Option Addr} {slnumbers_of : Array (Option Value)}
    (l_numbers_of : K.lookup f_numbers_of = some ⟨ocnumbers_of, odnumbers_of, .func (PySem.W.fnOf "numbers_of" "numbers_of" (defArgs sNms) (defBody sNms) (defScope sNms) .none kVnumbers_of dcnumbers_of pmnumbers_of annumbers_of cdnumbers_of ctnumbers_of), slnumbers_of⟩)
    (x_numbers_of : PySem.W.codeIn K cdnumbers_of "numbers_of" = true)
    (k_numbers_of : PySem.W.keepIn K (.ref f_numbers_of) = true)
    (a_lines_with_words : PySem.W.nsIn K mainGlobals "lines_with_words" = some (some (.ref f_lines_with_words)))
    {oclines_with_words kVlines_with_words dclines_with_words pmlines_with_words cdlines_with_words ctlines_with_words : Value} {odlines_with_words anlines_with_words : Option Addr} {sllines_with_words : Array (Option Value)}
    (l_lines_with_words : K.lookup f_lines_with_words = some ⟨oclines_with_words, odlines_with_words, .func (PySem.W.fnOf "lines_with_words" "lines_with_words" (defArgs sLww) (defBody sLww) (defScope sLww) .none kVlines_with_words dclines_with_words pmlines_with_words anlines_with_words cdlines_with_words ctlines_with_words), sllines_with_words⟩)
    (x_lines_with_words : PySem.W.codeIn K cdlines_with_words "lines_with_words" = true)
    (k_lines_with_words : PySem.W.keepIn K (.ref f_lines_with_words) = true)
    (a_several_of : PySem.W.nsIn K mainGlobals "several_of" = some (some (.ref f_several_of)))
    {ocseveral_of kVseveral_of dcseveral_of pmseveral_of cdseveral_of ctseveral_of : Value} {odseveral_of anseveral_of : Option Addr} {slseveral_of : Array (Option Value)}
    (l_several_of : K.lookup f_several_of = some ⟨ocseveral_of, odseveral_of, .func (PySem.W.fnOf "several_of" "several_of" (defArgs sSvo) (defBody sSvo) (defScope sSvo) .none kVseveral_of dcseveral_of pmseveral_of anseveral_of cdseveral_of ctseveral_of), slseveral_of⟩)
    (x_several_of : PySem.W.codeIn K cdseveral_of "several_of" = true)
    (k_several_of : PySem.W.keepIn K (.ref f_several_of) = true)
    (a_kind_parts : PySem.W.nsIn K mainGlobals "kind_parts" = some (some (.ref f_kind_parts)))
    {ockind_parts kVkind_parts dckind_parts pmkind_parts cdkind_parts ctkind_parts : Value} {odkind_parts ankind_parts : Option Addr} {slkind_parts : Array (Option Value)}
    (l_kind_parts : K.lookup f_kind_parts = some ⟨ockind_parts, odkind_parts, .func (PySem.W.fnOf "kind_parts" "kind_parts" (defArgs sKpr) (defBody sKpr) (defScope sKpr) .none kVkind_parts dckind_parts pmkind_parts ankind_parts cdkind_parts ctkind_parts), slkind_parts⟩)
    (x_kind_parts : PySem.W.codeIn K cdkind_parts "kind_parts" = true)
    (k_kind_parts : PySem.W.keepIn K (.ref f_kind_parts) = true)
    (a_kind_of_line : PySem.W.nsIn K mainGlobals "kind_of_line" = some (some (.ref f_kind_of_line)))
    {ockind_of_line kVkind_of_line dckind_of_line pmkind_of_line cdkind_of_line ctkind_of_line : Value} {odkind_of_line ankind_of_line : Option Addr} {slkind_of_line : Array (Option Value)}
    (l_kind_of_line : K.lookup f_kind_of_line = some ⟨ockind_of_line, odkind_of_line, .func (PySem.W.fnOf "kind_of_line" "kind_of_line" (defArgs sKol) (defBody sKol) (defScope sKol) .none kVkind_of_line dckind_of_line pmkind_of_line ankind_of_line cdkind_of_line ctkind_of_line), slkind_of_line⟩)
    (x_kind_of_line : PySem.W.codeIn K cdkind_of_line "kind_of_line" = true)
    (k_kind_of_line : PySem.W.keepIn K (.ref f_kind_of_line) = true)
    (a_read_kinds : PySem.W.nsIn K mainGlobals "read_kinds" = some (some (.ref f_read_kinds)))
    {ocread_kinds kVread_kinds dcread_kinds pmread_kinds cdread_kinds ctread_kinds : Value} {odread_kinds anread_kinds : Option Addr} {slread_kinds : Array (Option Value)}
    (l_read_kinds : K.lookup f_read_kinds = some ⟨ocread_kinds, odread_kinds, .func (PySem.W.fnOf "read_kinds" "read_kinds" (defArgs sRdk) (defBody sRdk) (defScope sRdk) .none kVread_kinds dcread_kinds pmread_kinds anread_kinds cdread_kinds ctread_kinds), slread_kinds⟩)
    (x_read_kinds : PySem.W.codeIn K cdread_kinds "read_kinds" = true)
    (k_read_kinds : PySem.W.keepIn K (.ref f_read_kinds) = true)
    (a_law_deck : PySem.W.nsIn K mainGlobals "_law_deck" = some (some (.ref f_law_deck)))
    {oclaw_deck kVlaw_deck dclaw_deck pmlaw_deck cdlaw_deck ctlaw_deck : Value} {odlaw_deck anlaw_deck : Option Addr} {sllaw_deck : Array (Option Value)}
    (l_law_deck : K.lookup f_law_deck = some ⟨oclaw_deck, odlaw_deck, .func (PySem.W.fnOf "_law_deck" "_law_deck" (defArgs sDeck) (defBody sDeck) (defScope sDeck) .none kVlaw_deck dclaw_deck pmlaw_deck anlaw_deck cdlaw_deck ctlaw_deck), sllaw_deck⟩)
    (x_law_deck : PySem.W.codeIn K cdlaw_deck "_law_deck" = true)
    (k_law_deck : PySem.W.keepIn K (.ref f_law_deck) = true)
    (a_law_next : PySem.W.nsIn K mainGlobals "_law_next" = some (some (.ref f_law_next)))
    {oclaw_next kVlaw_next dclaw_next pmlaw_next cdlaw_next ctlaw_next : Value} {odlaw_next anlaw_next : Option Addr} {sllaw_next : Array (Option Value)}
    (l_law_next : K.lookup f_law_next = some ⟨oclaw_next, odlaw_next, .func (PySem.W.fnOf "_law_next" "_law_next" (defArgs sNext) (defBody sNext) (defScope sNext) .none kVlaw_next dclaw_next pmlaw_next anlaw_next cdlaw_next ctlaw_next), sllaw_next⟩)
    (x_law_next : PySem.W.codeIn K cdlaw_next "_law_next" = true)
    (k_law_next : PySem.W.keepIn K (.ref f_law_next) = true)
    (a_law_same : PySem.W.nsIn K mainGlobals "_law_same" = some (some (.ref f_law_same)))
    {oclaw_same kVlaw_same dclaw_same pmlaw_same cdlaw_same ctlaw_same : Value} {odlaw_same anlaw_same : Option Addr} {sllaw_same : Array (Option Value)}
    (l_law_same : K.lookup f_law_same = some ⟨oclaw_same, odlaw_same, .func (PySem.W.fnOf "_law_same" "_law_same" (defArgs sSame) (defBody sSame) (defScope sSame) .none kVlaw_same dclaw_same pmlaw_same anlaw_same cdlaw_same ctlaw_same), sllaw_same⟩)
    (x_law_same : PySem.W.codeIn K cdlaw_same "_law_same" = true)
    (k_law_same : PySem.W.keepIn K (.ref f_law_same) = true)
    (a_law_odd : PySem.W.nsIn K mainGlobals "_law_odd" = some (some (.ref f_law_odd)))
    {oclaw_odd kVlaw_odd dclaw_odd pmlaw_odd cdlaw_odd ctlaw_odd : Value} {odlaw_odd anlaw_odd : Option Addr} {sllaw_odd : Array (Option Value)}
    (l_law_odd : K.lookup f_law_odd = some ⟨oclaw_odd, odlaw_odd, .func (PySem.W.fnOf "_law_odd" "_law_odd" (defArgs sOdd) (defBody sOdd) (defScope sOdd) .none kVlaw_odd dclaw_odd pmlaw_odd anlaw_odd cdlaw_odd ctlaw_odd), sllaw_odd⟩)
    (x_law_odd : PySem.W.codeIn K cdlaw_odd "_law_odd" = true)
    (k_law_odd : PySem.W.keepIn K (.ref f_law_odd) = true)
    (a_law_some : PySem.W.nsIn K mainGlobals "_law_some" = some (some (.ref f_law_some)))
    {oclaw_some kVlaw_some dclaw_some pmlaw_some cdlaw_some ctlaw_some : Value} {odlaw_some anlaw_some : Option Addr} {sllaw_some : Array (Option Value)}
    (l_law_some : K.lookup f_law_some = some ⟨oclaw_some, odlaw_some, .func (PySem.W.fnOf "_law_some" "_law_some" (defArgs sSome) (defBody sSome) (defScope sSome) .none kVlaw_some dclaw_some pmlaw_some anlaw_some cdlaw_some ctlaw_some), sllaw_some⟩)
    (x_law_some : PySem.W.codeIn K cdlaw_some "_law_some" = true)
    (k_law_some : PySem.W.keepIn K (.ref f_law_some) = true)
    (a_law_four : PySem.W.nsIn K mainGlobals "_law_four" = some (some (.ref f_law_four)))
    {oclaw_four kVlaw_four dclaw_four pmlaw_four cdlaw_four ctlaw_four : Value} {odlaw_four anlaw_four : Option Addr} {sllaw_four : Array (Option Value)}
    (l_law_four : K.lookup f_law_four = some ⟨oclaw_four, odlaw_four, .func (PySem.W.fnOf "_law_four" "_law_four" (defArgs sFour) (defBody sFour) (defScope sFour) .none kVlaw_four dclaw_four pmlaw_four anlaw_four cdlaw_four ctlaw_four), sllaw_four⟩)
    (x_law_four : PySem.W.codeIn K cdlaw_four "_law_four" = true)
    (k_law_four : PySem.W.keepIn K (.ref f_law_four) = true)
    (a_law_number : PySem.W.nsIn K mainGlobals "_law_number" = some (some (.ref f_law_number)))
    {oclaw_number kVlaw_number dclaw_number pmlaw_number cdlaw_number ctlaw_number : Value} {odlaw_number anlaw_number : Option Addr} {sllaw_number : Array (Option Value)}
    (l_law_number : K.lookup f_law_number = some ⟨oclaw_number, odlaw_number, .func (PySem.W.fnOf "_law_number" "_law_number" (defArgs sLm6) (defBody sLm6) (defScope sLm6) .none kVlaw_number dclaw_number pmlaw_number anlaw_number cdlaw_number ctlaw_number), sllaw_number⟩)
    (x_law_number : PySem.W.codeIn K cdlaw_number "_law_number" = true)
    (k_law_number : PySem.W.keepIn K (.ref f_law_number) = true)
    (a_law_line : PySem.W.nsIn K mainGlobals "_law_line" = some (some (.ref f_law_line)))
    {oclaw_line kVlaw_line dclaw_line pmlaw_line cdlaw_line ctlaw_line : Value} {odlaw_line anlaw_line : Option Addr} {sllaw_line : Array (Option Value)}
    (l_law_line : K.lookup f_law_line = some ⟨oclaw_line, odlaw_line, .func (PySem.W.fnOf "_law_line" "_law_line" (defArgs sLl6) (defBody sLl6) (defScope sLl6) .none kVlaw_line dclaw_line pmlaw_line anlaw_line cdlaw_line ctlaw_line), sllaw_line⟩)
    (x_law_line : PySem.W.codeIn K cdlaw_line "_law_line" = true)
    (k_law_line : PySem.W.keepIn K (.ref f_law_line) = true)
    (a_law_due : PySem.W.nsIn K mainGlobals "_law_due" = some (some (.ref f_law_due)))
    {oclaw_due kVlaw_due dclaw_due pmlaw_due cdlaw_due ctlaw_due : Value} {odlaw_due anlaw_due : Option Addr} {sllaw_due : Array (Option Value)}
    (l_law_due : K.lookup f_law_due = some ⟨oclaw_due, odlaw_due, .func (PySem.W.fnOf "_law_due" "_law_due" (defArgs sDu46) (defBody sDu46) (defScope sDu46) .none kVlaw_due dclaw_due pmlaw_due anlaw_due cdlaw_due ctlaw_due), sllaw_due⟩)
    (x_law_due : PySem.W.codeIn K cdlaw_due "_law_due" = true)
    (k_law_due : PySem.W.keepIn K (.ref f_law_due) = true)
    (a_law_told : PySem.W.nsIn K mainGlobals "_law_told" = some (some (.ref f_law_told)))
    {oclaw_told kVlaw_told dclaw_told pmlaw_told cdlaw_told ctlaw_told : Value} {odlaw_told anlaw_told : Option Addr} {sllaw_told : Array (Option Value)}
    (l_law_told : K.lookup f_law_told = some ⟨oclaw_told, odlaw_told, .func (PySem.W.fnOf "_law_told" "_law_told" (defArgs sTo46) (defBody sTo46) (defScope sTo46) .none kVlaw_told dclaw_told pmlaw_told anlaw_told cdlaw_told ctlaw_told), sllaw_told⟩)
    (x_law_told : PySem.W.codeIn K cdlaw_told "_law_told" = true)
    (k_law_told : PySem.W.keepIn K (.ref f_law_told) = true)
    (a_law_bent : PySem.W.nsIn K mainGlobals "_law_bent" = some (some (.ref f_law_bent)))
    {oclaw_bent kVlaw_bent dclaw_bent pmlaw_bent cdlaw_bent ctlaw_bent : Value} {odlaw_bent anlaw_bent : Option Addr} {sllaw_bent : Array (Option Value)}
    (l_law_bent : K.lookup f_law_bent = some ⟨oclaw_bent, odlaw_bent, .func (PySem.W.fnOf "_law_bent" "_law_bent" (defArgs sBn46) (defBody sBn46) (defScope sBn46) .none kVlaw_bent dclaw_bent pmlaw_bent anlaw_bent cdlaw_bent ctlaw_bent), sllaw_bent⟩)
    (x_law_bent : PySem.W.codeIn K cdlaw_bent "_law_bent" = true)
    (k_law_bent : PySem.W.keepIn K (.ref f_law_bent) = true)
    (a_law : PySem.W.nsIn K mainGlobals "law" = some (some (.ref f_law)))
    {oclaw kVlaw dclaw pmlaw cdlaw ctlaw : Value} {odlaw anlaw : Option Addr} {sllaw : Array (Option Value)}
    (l_law : K.lookup f_law = some ⟨oclaw, odlaw, .func (PySem.W.fnOf "law" "law" (defArgs sLaw) (defBody sLaw) (defScope sLaw) .none kVlaw dclaw pmlaw anlaw cdlaw ctlaw), sllaw⟩)
    (x_law : PySem.W.codeIn K cdlaw "law" = true)
    (k_law : PySem.W.keepIn K (.ref f_law) = true)
    (nC : PySem.W.nsIn K mainGlobals "Kinds" = some (some (.ref cC)))
    (y_m_init : PySem.W.findIn K (.ref cC) "__init__" = some (some (.ref f_m_init)))
    {ocm_init kVm_init dcm_init pmm_init cdm_init ctm_init : Value} {odm_init anm_init : Option Addr} {slm_init : Array (Option Value)}
    (l_m_init : K.lookup f_m_init = some ⟨ocm_init, odm_init, .func (PySem.W.fnOf "__init__" "Kinds.__init__" (defArgs sIni) (defBody sIni) (defScope sIni) .none kVm_init dcm_init pmm_init anm_init cdm_init ctm_init), slm_init⟩)
    (x_m_init : PySem.W.codeIn K cdm_init "Kinds.__init__" = true)
    (k_m_init : PySem.W.keepIn K (.ref f_m_init) = true)
    (i_m_init : PySem.W.isFn K (.ref f_m_init) = true)
    (y_p_elders : PySem.W.findIn K (.ref cC) "elders" = some (some (.ref p_elders)))
    {rsp_elders : List Value}
    (r_p_elders : PySem.W.recIn K p_elders "property" = some (.ref f_p_elders :: rsp_elders))
    (o_p_elders : prB K p_elders = true)
    {ocp_elders kVp_elders dcp_elders pmp_elders cdp_elders ctp_elders : Value} {odp_elders anp_elders : Option Addr} {slp_elders : Array (Option Value)}
    (l_p_elders : K.lookup f_p_elders = some ⟨ocp_elders, odp_elders, .func (PySem.W.fnOf "elders" "Kinds.elders" (defArgs sGE) (defBody sGE) (defScope sGE) .none kVp_elders dcp_elders pmp_elders anp_elders cdp_elders ctp_elders), slp_elders⟩)
    (x_p_elders : PySem.W.codeIn K cdp_elders "Kinds.elders" = true)
    (k_p_elders : PySem.W.keepIn K (.ref f_p_elders) = true)
    (y_p_closed : PySem.W.findIn K (.ref cC) "closed" = some (some (.ref p_closed)))
    {rsp_closed : List Value}
    (r_p_closed : PySem.W.recIn K p_closed "property" = some (.ref f_p_closed :: rsp_closed))
    (o_p_closed : prB K p_closed = true)
    {ocp_closed kVp_closed dcp_closed pmp_closed cdp_closed ctp_closed : Value} {odp_closed anp_closed : Option Addr} {slp_closed : Array (Option Value)}
    (l_p_closed : K.lookup f_p_closed = some ⟨ocp_closed, odp_closed, .func (PySem.W.fnOf "closed" "Kinds.closed" (defArgs sGC) (defBody sGC) (defScope sGC) .none kVp_closed dcp_closed pmp_closed anp_closed cdp_closed ctp_closed), slp_closed⟩)
    (x_p_closed : PySem.W.codeIn K cdp_closed "Kinds.closed" = true)
    (k_p_closed : PySem.W.keepIn K (.ref f_p_closed) = true)
    (y_p_hollow : PySem.W.findIn K (.ref cC) "hollow" = some (some (.ref p_hollow)))
    {rsp_hollow : List Value}
    (r_p_hollow : PySem.W.recIn K p_hollow "property" = some (.ref f_p_hollow :: rsp_hollow))
    (o_p_hollow : prB K p_hollow = true)
    {ocp_hollow kVp_hollow dcp_hollow pmp_hollow cdp_hollow ctp_hollow : Value} {odp_hollow anp_hollow : Option Addr} {slp_hollow : Array (Option Value)}
    (l_p_hollow : K.lookup f_p_hollow = some ⟨ocp_hollow, odp_hollow, .func (PySem.W.fnOf "hollow" "Kinds.hollow" (defArgs sGH) (defBody sGH) (defScope sGH) .none kVp_hollow dcp_hollow pmp_hollow anp_hollow cdp_hollow ctp_hollow), slp_hollow⟩)
    (x_p_hollow : PySem.W.codeIn K cdp_hollow "Kinds.hollow" = true)
    (k_p_hollow : PySem.W.keepIn K (.ref f_p_hollow) = true)
    (y_p_several : PySem.W.findIn K (.ref cC) "several" = some (some (.ref p_several)))
    {rsp_several : List Value}
    (r_p_several : PySem.W.recIn K p_several "property" = some (.ref f_p_several :: rsp_several))
    (o_p_several : prB K p_several = true)
    {ocp_several kVp_several dcp_several pmp_several cdp_several ctp_several : Value} {odp_several anp_several : Option Addr} {slp_several : Array (Option Value)}
    (l_p_several : K.lookup f_p_several = some ⟨ocp_several, odp_several, .func (PySem.W.fnOf "several" "Kinds.several" (defArgs sGS) (defBody sGS) (defScope sGS) .none kVp_several dcp_several pmp_several anp_several cdp_several ctp_several), slp_several⟩)
    (x_p_several : PySem.W.codeIn K cdp_several "Kinds.several" = true)
    (k_p_several : PySem.W.keepIn K (.ref f_p_several) = true)
    (tC : kcB K cC f_m_init = true)
    (tI : kiB K cC = true)
    (n_BadText : PySem.W.nsIn K mainGlobals "BadText" = some (some (.ref c_BadText)))
    (y_i_BadText : PySem.W.findIn K (.ref c_BadText) "__init__" = some (some (.ref f_i_BadText)))
    {oci_BadText kVi_BadText dci_BadText pmi_BadText cdi_BadText cti_BadText : Value} {odi_BadText ani_BadText : Option Addr} {sli_BadText : Array (Option Value)}
    (l_i_BadText : K.lookup f_i_BadText = some ⟨oci_BadText, odi_BadText, .func (PySem.W.fnOf "__init__" "BadText.__init__" (defArgs sXbt) (defBody sXbt) (defScope sXbt) .none kVi_BadText dci_BadText pmi_BadText ani_BadText cdi_BadText cti_BadText), sli_BadText⟩)
    (x_i_BadText : PySem.W.codeIn K cdi_BadText "BadText.__init__" = true)
    (k_i_BadText : PySem.W.keepIn K (.ref f_i_BadText) = true)
    (tB_BadText : raB K c_BadText f_i_BadText veL "ValueError.__new__" ["line", "code"] = true)
    (z_abs : PySem.W.nsIn K mainGlobals "abs" = some none)
    (z_len : PySem.W.nsIn K mainGlobals "len" = some none)
    (z_int : PySem.W.nsIn K mainGlobals "int" = some none)
    (z_isinstance : PySem.W.nsIn K mainGlobals "isinstance" = some none)
    (z_tuple : PySem.W.nsIn K mainGlobals "tuple" = some none)
    (z_list : PySem.W.nsIn K mainGlobals "list" = some none)
    (z_str : PySem.W.nsIn K mainGlobals "str" = some none)
    (z_bool : PySem.W.nsIn K mainGlobals "bool" = some none)
    (z_dict : PySem.W.nsIn K mainGlobals "dict" = some none)
    (z_zip : PySem.W.nsIn K mainGlobals "zip" = some none)
    (z_all : PySem.W.nsIn K mainGlobals "all" = some none)
    (z_repr : PySem.W.nsIn K mainGlobals "repr" = some none)
    (z_range : PySem.W.nsIn K mainGlobals "range" = some none)
    (z_set : PySem.W.nsIn K mainGlobals "set" = some none)
    (z_sorted : PySem.W.nsIn K mainGlobals "sorted" = some none)
    (z_enumerate : PySem.W.nsIn K mainGlobals "enumerate" = some none)
    {t_MAX_KINDS : Tok}
    (u_MAX_KINDS : PySem.W.nsIn K mainGlobals "MAX_KINDS" = some (some (.int 6 t_MAX_KINDS)))
    {t_DIGITS : Tok}
    (u_DIGITS : PySem.W.nsIn K mainGlobals "DIGITS" = some (some (.str (Str.ofString "0123456789") t_DIGITS)))
    (tM : decide (PySem.W.exmOne K (.ref c_BadText) (.ref c_BadText) = some true) = true)
    : ∃ fd : FuncData, (∀ (s : Shared) (v : Value), BindsTo s fd ⟨[v], []⟩ [("_law_script", v)]) ∧ ∀ base : Heap, K.In base → base.Ns mainGlobals mg → (∃ o, base.get? sysModules = some o) → FnG l.prog w K mg base 41 fa fd ["_law_script"] (spLaw K) := by
  have e := hfa.symm.trans (PySem.W.mg_of X G a_law)
  cases e
  have F_is_number := fun_mk (st := sNum) l_is_number x_is_number k_is_number
  have F_is_index := fun_mk (st := sIdx) l_is_index x_is_index k_is_index
  have F_is_bool := fun_mk (st := sIsB) l_is_bool x_is_bool k_is_bool
  have F_is_ascending := fun_mk (st := sAsc) l_is_ascending x_is_ascending k_is_ascending
  have F_are_elders := fun_mk (st := sEld) l_are_elders x_are_elders k_are_elders
  have F_wrong_elders := fun_mk (st := sWrE) l_wrong_elders x_wrong_elders k_wrong_elders
  have F_wrong_place := fun_mk (st := sWrP) l_wrong_place x_wrong_place k_wrong_place
  have F_table_above := fun_mk (st := sTab) l_table_above x_table_above k_table_above
  have F_words_of := fun_mk (st := sWof) l_words_of x_words_of k_words_of
  have F_is_numeral := fun_mk (st := sNml) l_is_numeral x_is_numeral k_is_numeral
  have F_numbers_of := fun_mk (st := sNms) l_numbers_of x_numbers_of k_numbers_of
  have F_lines_with_words := fun_mk (st := sLww) l_lines_with_words x_lines_with_words k_lines_with_words
  have F_several_of := fun_mk (st := sSvo) l_several_of x_several_of k_several_of
  have F_kind_parts := fun_mk (st := sKpr) l_kind_parts x_kind_parts k_kind_parts
  have F_kind_of_line := fun_mk (st := sKol) l_kind_of_line x_kind_of_line k_kind_of_line
  have F_read_kinds := fun_mk (st := sRdk) l_read_kinds x_read_kinds k_read_kinds
  have F_law_deck := fun_mk (st := sDeck) l_law_deck x_law_deck k_law_deck
  have F_law_next := fun_mk (st := sNext) l_law_next x_law_next k_law_next
  have F_law_same := fun_mk (st := sSame) l_law_same x_law_same k_law_same
  have F_law_odd := fun_mk (st := sOdd) l_law_odd x_law_odd k_law_odd
  have F_law_some := fun_mk (st := sSome) l_law_some x_law_some k_law_some
  have F_law_four := fun_mk (st := sFour) l_law_four x_law_four k_law_four
  have F_law_number := fun_mk (st := sLm6) l_law_number x_law_number k_law_number
  have F_law_line := fun_mk (st := sLl6) l_law_line x_law_line k_law_line
  have F_law_due := fun_mk (st := sDu46) l_law_due x_law_due k_law_due
  have F_law_told := fun_mk (st := sTo46) l_law_told x_law_told k_law_told
  have F_law_bent := fun_mk (st := sBn46) l_law_bent x_law_bent k_law_bent
  have F_law := fun_mk (st := sLaw) l_law x_law k_law
  have F_m_init := fun_mk (st := sIni) l_m_init x_m_init k_m_init
  have F_p_elders := fun_mk (st := sGE) l_p_elders x_p_elders k_p_elders
  have F_p_closed := fun_mk (st := sGC) l_p_closed x_p_closed k_p_closed
  have F_p_hollow := fun_mk (st := sGH) l_p_hollow x_p_hollow k_p_hollow
  have F_p_several := fun_mk (st := sGS) l_p_several x_p_several k_p_several
  have F_i_BadText := fun_mk (st := sXbt) l_i_BadText x_i_BadText k_i_BadText
  have b_is_number := F_is_number.binds (ps := ["value"]) fun _ _ _ _ _ _ us hl => match us, hl with | [_], _ => rfl
  have b_is_index := F_is_index.binds (ps := ["value", "limit"]) fun _ _ _ _ _ _ us hl => match us, hl with | [_, _], _ => rfl
  have b_is_bool := F_is_bool.binds (ps := ["value"]) fun _ _ _ _ _ _ us hl => match us, hl with | [_], _ => rfl
  have b_is_ascending := F_is_ascending.binds (ps := ["value", "limit"]) fun _ _ _ _ _ _ us hl => match us, hl with | [_, _], _ => rfl
  have b_are_elders := F_are_elders.binds (ps := ["value", "kind", "several"]) fun _ _ _ _ _ _ us hl => match us, hl with | [_, _, _], _ => rfl
  have b_wrong_elders := F_wrong_elders.binds (ps := ["elders", "several"]) fun _ _ _ _ _ _ us hl => match us, hl with | [_, _], _ => rfl
  have b_wrong_place := F_wrong_place.binds (ps := ["elders", "closed", "hollow", "several"]) fun _ _ _ _ _ _ us hl => match us, hl with | [_, _, _, _], _ => rfl
  have b_table_above := F_table_above.binds (ps := ["elders"]) fun _ _ _ _ _ _ us hl => match us, hl with | [_], _ => rfl
  have b_words_of := F_words_of.binds (ps := ["line"]) fun _ _ _ _ _ _ us hl => match us, hl with | [_], _ => rfl
  have b_is_numeral := F_is_numeral.binds (ps := ["word"]) fun _ _ _ _ _ _ us hl => match us, hl with | [_], _ => rfl
  have b_numbers_of := F_numbers_of.binds (ps := ["words"]) fun _ _ _ _ _ _ us hl => match us, hl with | [_], _ => rfl
  have b_lines_with_words := F_lines_with_words.binds (ps := ["text"]) fun _ _ _ _ _ _ us hl => match us, hl with | [_], _ => rfl
  have b_several_of := F_several_of.binds (ps := ["number", "words"]) fun _ _ _ _ _ _ us hl => match us, hl with | [_, _], _ => rfl
  have b_kind_parts := F_kind_parts.binds (ps := ["words"]) fun _ _ _ _ _ _ us hl => match us, hl with | [_], _ => rfl
  have b_kind_of_line := F_kind_of_line.binds (ps := ["number", "words", "kind", "several"]) fun _ _ _ _ _ _ us hl => match us, hl with | [_, _, _, _], _ => rfl
  have b_read_kinds := F_read_kinds.binds (ps := ["value"]) fun _ _ _ _ _ _ us hl => match us, hl with | [_], _ => rfl
  have b_law_deck := F_law_deck.binds (ps := ["_law_script"]) fun _ _ _ _ _ _ us hl => match us, hl with | [_], _ => rfl
  have b_law_next := F_law_next.binds (ps := ["_law_deck_here", "_law_many"]) fun _ _ _ _ _ _ us hl => match us, hl with | [_, _], _ => rfl
  have b_law_same := F_law_same.binds (ps := ["_law_found", "_law_due_here"]) fun _ _ _ _ _ _ us hl => match us, hl with | [_, _], _ => rfl
  have b_law_odd := F_law_odd.binds (ps := ["_law_deck_here"]) fun _ _ _ _ _ _ us hl => match us, hl with | [_], _ => rfl
  have b_law_some := F_law_some.binds (ps := ["_law_deck_here", "_law_many", "_law_most"]) fun _ _ _ _ _ _ us hl => match us, hl with | [_, _, _], _ => rfl
  have b_law_four := F_law_four.binds (ps := ["_law_deck_here", "_law_most"]) fun _ _ _ _ _ _ us hl => match us, hl with | [_, _], _ => rfl
  have b_law_number := F_law_number.binds (ps := ["_law_word"]) fun _ _ _ _ _ _ us hl => match us, hl with | [_], _ => rfl
  have b_law_line := F_law_line.binds (ps := ["_law_words"]) fun _ _ _ _ _ _ us hl => match us, hl with | [_], _ => rfl
  have b_law_due := F_law_due.binds (ps := ["_law_value"]) fun _ _ _ _ _ _ us hl => match us, hl with | [_], _ => rfl
  have b_law_told := F_law_told.binds (ps := ["_law_value"]) fun _ _ _ _ _ _ us hl => match us, hl with | [_], _ => rfl
  have b_law_bent := F_law_bent.binds (ps := ["_law_deck_here", "_law_lines"]) fun _ _ _ _ _ _ us hl => match us, hl with | [_, _], _ => rfl
  have b_m_init := F_m_init.binds (ps := ["self", "elders", "closed", "hollow", "several"]) fun _ _ _ _ _ _ us hl => match us, hl with | [_, _, _, _, _], _ => rfl
  have b_p_elders := F_p_elders.binds (ps := ["self"]) fun _ _ _ _ _ _ us hl => match us, hl with | [_], _ => rfl
  have b_p_closed := F_p_closed.binds (ps := ["self"]) fun _ _ _ _ _ _ us hl => match us, hl with | [_], _ => rfl
  have b_p_hollow := F_p_hollow.binds (ps := ["self"]) fun _ _ _ _ _ _ us hl => match us, hl with | [_], _ => rfl
  have b_p_several := F_p_several.binds (ps := ["self"]) fun _ _ _ _ _ _ us hl => match us, hl with | [_], _ => rfl
  have b_i_BadText := F_i_BadText.binds (ps := ["self", "line", "code"]) fun _ _ _ _ _ _ us hl => match us, hl with | [_, _, _], _ => rfl
  have g_is_number := PySem.W.mg_of X G a_is_number
  have g_is_index := PySem.W.mg_of X G a_is_index
  have g_is_bool := PySem.W.mg_of X G a_is_bool
  have g_is_ascending := PySem.W.mg_of X G a_is_ascending
  have g_are_elders := PySem.W.mg_of X G a_are_elders
  have g_wrong_elders := PySem.W.mg_of X G a_wrong_elders
  have g_wrong_place := PySem.W.mg_of X G a_wrong_place
  have g_table_above := PySem.W.mg_of X G a_table_above
  have g_words_of := PySem.W.mg_of X G a_words_of
  have g_is_numeral := PySem.W.mg_of X G a_is_numeral
  have g_numbers_of := PySem.W.mg_of X G a_numbers_of
  have g_lines_with_words := PySem.W.mg_of X G a_lines_with_words
  have g_several_of := PySem.W.mg_of X G a_several_of
  have g_kind_parts := PySem.W.mg_of X G a_kind_parts
  have g_kind_of_line := PySem.W.mg_of X G a_kind_of_line
  have g_read_kinds := PySem.W.mg_of X G a_read_kinds
  have g_law_deck := PySem.W.mg_of X G a_law_deck
  have g_law_next := PySem.W.mg_of X G a_law_next
  have g_law_same := PySem.W.mg_of X G a_law_same
  have g_law_odd := PySem.W.mg_of X G a_law_odd
  have g_law_some := PySem.W.mg_of X G a_law_some
  have g_law_four := PySem.W.mg_of X G a_law_four
  have g_law_number := PySem.W.mg_of X G a_law_number
  have g_law_line := PySem.W.mg_of X G a_law_line
  have g_law_due := PySem.W.mg_of X G a_law_due
  have g_law_told := PySem.W.mg_of X G a_law_told
  have g_law_bent := PySem.W.mg_of X G a_law_bent
  have g_law := PySem.W.mg_of X G a_law
  have B : Bl mg := ⟨(PySem.W.mg_none_of X G z_abs), (PySem.W.mg_none_of X G z_len), (PySem.W.mg_none_of X G z_int), (PySem.W.mg_none_of X G z_isinstance), (PySem.W.mg_none_of X G z_tuple), (PySem.W.mg_none_of X G z_list), (PySem.W.mg_none_of X G z_str), (PySem.W.mg_none_of X G z_bool), (PySem.W.mg_none_of X G z_dict), (PySem.W.mg_none_of X G z_zip), (PySem.W.mg_none_of X G z_all), (PySem.W.mg_none_of X G z_repr), (PySem.W.mg_none_of X G z_range)⟩
  have M : Bm mg := ⟨(PySem.W.mg_none_of X G z_set), (PySem.W.mg_none_of X G z_sorted), (PySem.W.mg_none_of X G z_enumerate)⟩
  have mxk : ∃ t, mg "MAX_KINDS" = some (.int 6 t) := ⟨t_MAX_KINDS, PySem.W.mg_of X G u_MAX_KINDS⟩
  have v_DIGITS := PySem.W.mg_of X G u_DIGITS
  obtain ⟨TC, MC⟩ := kcB_ok y_m_init tC
  obtain ⟨JC, hne, hob⟩ := kiB_ok tI
  have gC := PySem.W.mg_of X G nC
  refine ⟨PySem.W.fnOf "law" "law" (defArgs sLaw) (defBody sLaw) (defScope sLaw) .none kVlaw dclaw pmlaw anlaw cdlaw ctlaw, fun s v => .of_eq rfl, fun base _ _ hsys => ?_⟩
  have g_BadText := PySem.W.mg_of X G n_BadText
  have R_BadText := raB_ok y_i_BadText tB_BadText
  have RA_BadText := rac2 (P := l.prog) (w := w) (mg := mg) (base := base) (x := "BadText") PySem.F.excBase_ValueError R_BadText.mk_ (ok_xbt (k := 0) F_i_BadText R_BadText.st_ (R_BadText.tk_ "line" (by simp)) (R_BadText.tk_ "code" (by simp))) b_i_BadText g_BadText R_BadText.sb_ R_BadText.ty_
  have G_is_number : FnOk l.prog w K mg base CX0 1 f_is_number _ ["value"] spNum := ok_num (k := 0) F_is_number B
  have C_is_number : Cal l.prog w K mg base "is_number" 1 ["value"] spNum := ⟨_, _, g_is_number, k_is_number, b_is_number, G_is_number⟩
  have G_is_index : FnOk l.prog w K mg base CX0 2 f_is_index _ ["value", "limit"] spIdx := ok_idx (k := 0) F_is_index B F_is_number b_is_number g_is_number
  have C_is_index : Cal l.prog w K mg base "is_index" 2 ["value", "limit"] spIdx := ⟨_, _, g_is_index, k_is_index, b_is_index, G_is_index⟩
  have G_is_bool : FnOk l.prog w K mg base CX0 1 f_is_bool _ ["value"] spIsB := ok_isB (k := 0) F_is_bool
  have C_is_bool : Cal l.prog w K mg base "is_bool" 1 ["value"] spIsB := ⟨_, _, g_is_bool, k_is_bool, b_is_bool, G_is_bool⟩
  have G_is_ascending : FnOk l.prog w K mg base CX0 3 f_is_ascending _ ["value", "limit"] spAsc := ok_asc (k := 0) F_is_ascending B G_is_index k_is_index b_is_index g_is_index
  have C_is_ascending : Cal l.prog w K mg base "is_ascending" 3 ["value", "limit"] spAsc := ⟨_, _, g_is_ascending, k_is_ascending, b_is_ascending, G_is_ascending⟩
  have G_are_elders : FnOk l.prog w K mg base CX0 4 f_are_elders _ ["value", "kind", "several"] spEld := ok_eld F_are_elders B G_is_ascending k_is_ascending b_is_ascending g_is_ascending
  have C_are_elders : Cal l.prog w K mg base "are_elders" 4 ["value", "kind", "several"] spEld := ⟨_, _, g_are_elders, k_are_elders, b_are_elders, G_are_elders⟩
  have G_wrong_elders : FnOk l.prog w K mg base CX0 5 f_wrong_elders _ ["elders", "several"] spWrE := ok_wrE F_wrong_elders M.enum G_are_elders k_are_elders b_are_elders g_are_elders
  have C_wrong_elders : Cal l.prog w K mg base "wrong_elders" 5 ["elders", "several"] spWrE := ⟨_, _, g_wrong_elders, k_wrong_elders, b_wrong_elders, G_wrong_elders⟩
  have G_wrong_place : FnOk l.prog w K mg base CX0 6 f_wrong_place _ ["elders", "closed", "hollow", "several"] spWrP := ok_wrP F_wrong_place B mxk G_is_ascending k_is_ascending b_is_ascending g_is_ascending G_wrong_elders k_wrong_elders b_wrong_elders g_wrong_elders C_is_bool
  have C_wrong_place : Cal l.prog w K mg base "wrong_place" 6 ["elders", "closed", "hollow", "several"] spWrP := ⟨_, _, g_wrong_place, k_wrong_place, b_wrong_place, G_wrong_place⟩
  have G_table_above : FnOk l.prog w K mg base CX0 1 f_table_above _ ["elders"] spTab := ok_tab (k := 0) F_table_above B M
  have C_table_above : Cal l.prog w K mg base "table_above" 1 ["elders"] spTab := ⟨_, _, g_table_above, k_table_above, b_table_above, G_table_above⟩
  have G_m_init : FnOk l.prog w K mg base CX0 7 f_m_init _ ["self", "elders", "closed", "hollow", "several"] (spIni cC) := ok_ini F_m_init TC G_wrong_place k_wrong_place b_wrong_place g_wrong_place G_table_above k_table_above b_table_above g_table_above
  have C_p_elders : PCal l.prog w K mg base cC "elders" 1 (getSp cC "kept_elders") := ⟨_, _, _, ⟨y_p_elders, of_decide_eq_true (ba2 o_p_elders).1, of_decide_eq_true (ba2 o_p_elders).2, ⟨_, r_p_elders⟩⟩, b_p_elders, ok_ge (k := 0) F_p_elders TC⟩
  have C_p_closed : PCal l.prog w K mg base cC "closed" 1 (getSp cC "kept_closed") := ⟨_, _, _, ⟨y_p_closed, of_decide_eq_true (ba2 o_p_closed).1, of_decide_eq_true (ba2 o_p_closed).2, ⟨_, r_p_closed⟩⟩, b_p_closed, ok_gc (k := 0) F_p_closed TC⟩
  have C_p_hollow : PCal l.prog w K mg base cC "hollow" 1 (getSp cC "kept_hollow") := ⟨_, _, _, ⟨y_p_hollow, of_decide_eq_true (ba2 o_p_hollow).1, of_decide_eq_true (ba2 o_p_hollow).2, ⟨_, r_p_hollow⟩⟩, b_p_hollow, ok_gh (k := 0) F_p_hollow TC⟩
  have C_p_several : PCal l.prog w K mg base cC "several" 1 (getSp cC "kept_several") := ⟨_, _, _, ⟨y_p_several, of_decide_eq_true (ba2 o_p_several).1, of_decide_eq_true (ba2 o_p_several).2, ⟨_, r_p_several⟩⟩, b_p_several, ok_gs (k := 0) F_p_several TC⟩
  have G_words_of : FnOk l.prog w K mg base CX0 1 f_words_of _ ["line"] spWof := ok_wof (k := 0) F_words_of B
  have C_words_of : Cal l.prog w K mg base "words_of" 1 ["line"] spWof := ⟨_, _, g_words_of, k_words_of, b_words_of, G_words_of⟩
  have G_is_numeral : FnOk l.prog w K mg base CX0 1 f_is_numeral _ ["word"] spNml := ok_nml (k := 0) F_is_numeral B v_DIGITS
  have C_is_numeral : Cal l.prog w K mg base "is_numeral" 1 ["word"] spNml := ⟨_, _, g_is_numeral, k_is_numeral, b_is_numeral, G_is_numeral⟩
  have G_numbers_of : FnOk l.prog w K mg base CX0 2 f_numbers_of _ ["words"] spNms := ok_nms F_numbers_of B C_is_numeral
  have C_numbers_of : Cal l.prog w K mg base "numbers_of" 2 ["words"] spNms := ⟨_, _, g_numbers_of, k_numbers_of, b_numbers_of, G_numbers_of⟩
  have G_lines_with_words : FnOk l.prog w K mg base CX0 2 f_lines_with_words _ ["text"] spLww := ok_lww F_lines_with_words B M C_words_of
  have C_lines_with_words : Cal l.prog w K mg base "lines_with_words" 2 ["text"] spLww := ⟨_, _, g_lines_with_words, k_lines_with_words, b_lines_with_words, G_lines_with_words⟩
  have C_several_of : CalX l.prog w K mg base "several_of" 3 ["number", "words"] (spSvX c_BadText) := ⟨_, _, g_several_of, k_several_of, b_several_of, ok_svX F_several_of RA_BadText⟩
  have G_kind_parts : FnOk l.prog w K mg base CX0 3 f_kind_parts _ ["words"] spKpr := ok_kpr F_kind_parts C_numbers_of
  have C_kind_parts : Cal l.prog w K mg base "kind_parts" 3 ["words"] spKpr := ⟨_, _, g_kind_parts, k_kind_parts, b_kind_parts, G_kind_parts⟩
  have C_kind_of_line : CalX l.prog w K mg base "kind_of_line" 5 ["number", "words", "kind", "several"] (spKlX c_BadText) := ⟨_, _, g_kind_of_line, k_kind_of_line, b_kind_of_line, ok_klX F_kind_of_line RA_BadText C_kind_parts C_are_elders (PySem.W.mg_of X G u_MAX_KINDS)⟩
  have C_read_kinds : CalX l.prog w K mg base "read_kinds" 9 ["value"] (spRdkX cC c_BadText) := ⟨_, _, g_read_kinds, k_read_kinds, b_read_kinds, ok_rdkX F_read_kinds B M MC G_m_init b_m_init gC C_lines_with_words RA_BadText C_several_of C_kind_of_line⟩
  have G_law_deck : FnOk l.prog w K mg base CX0 1 f_law_deck _ ["_law_script"] (spDeck K) := ok_deck (k := 0) F_law_deck B.abs B.len
  have C_law_deck : Cal l.prog w K mg base "_law_deck" 1 ["_law_script"] (spDeck K) := ⟨_, _, g_law_deck, k_law_deck, b_law_deck, G_law_deck⟩
  have G_law_next : FnOk l.prog w K mg base CX0 1 f_law_next _ ["_law_deck_here", "_law_many"] spNext := ok_next (k := 0) F_law_next B.int B.len
  have C_law_next : Cal l.prog w K mg base "_law_next" 1 ["_law_deck_here", "_law_many"] spNext := ⟨_, _, g_law_next, k_law_next, b_law_next, G_law_next⟩
  have C_law_same : CalG l.prog w K mg base "_law_same" 7 ["_law_found", "_law_due_here"] (spSame 7) := ⟨_, _, g_law_same, k_law_same, b_law_same, ok_same F_law_same B b_law_same g_law_same 7⟩
  have G_law_odd : FnOk l.prog w K mg base CX0 2 f_law_odd _ ["_law_deck_here"] spOdd := ok_odd (k := 0) F_law_odd B F_law_next b_law_next g_law_next
  have C_law_odd : Cal l.prog w K mg base "_law_odd" 2 ["_law_deck_here"] spOdd := ⟨_, _, g_law_odd, k_law_odd, b_law_odd, G_law_odd⟩
  have G_law_some : FnOk l.prog w K mg base CX0 2 f_law_some _ ["_law_deck_here", "_law_many", "_law_most"] spSome := ok_some F_law_some B G_law_next k_law_next b_law_next g_law_next
  have C_law_some : Cal l.prog w K mg base "_law_some" 2 ["_law_deck_here", "_law_many", "_law_most"] spSome := ⟨_, _, g_law_some, k_law_some, b_law_some, G_law_some⟩
  have G_law_four : FnOk l.prog w K mg base CX0 3 f_law_four _ ["_law_deck_here", "_law_most"] spFour := ok_four F_law_four B G_law_next k_law_next b_law_next g_law_next G_law_some k_law_some b_law_some g_law_some
  have C_law_four : Cal l.prog w K mg base "_law_four" 3 ["_law_deck_here", "_law_most"] spFour := ⟨_, _, g_law_four, k_law_four, b_law_four, G_law_four⟩
  have G_law_number : FnOk l.prog w K mg base CX0 1 f_law_number _ ["_law_word"] spLm6 := ok_lm6 (k := 0) F_law_number B
  have C_law_number : Cal l.prog w K mg base "_law_number" 1 ["_law_word"] spLm6 := ⟨_, _, g_law_number, k_law_number, b_law_number, G_law_number⟩
  have G_law_line : FnOk l.prog w K mg base CX0 2 f_law_line _ ["_law_words"] spLl6 := ok_ll6 F_law_line B C_law_number
  have C_law_line : Cal l.prog w K mg base "_law_line" 2 ["_law_words"] spLl6 := ⟨_, _, g_law_line, k_law_line, b_law_line, G_law_line⟩
  have G_law_due : FnOk l.prog w K mg base CX0 3 f_law_due _ ["_law_value"] spDu46 := ok_du46 F_law_due B M C_law_line
  have C_law_due : Cal l.prog w K mg base "_law_due" 3 ["_law_value"] spDu46 := ⟨_, _, g_law_due, k_law_due, b_law_due, G_law_due⟩
  have G_law_told : FnOk l.prog w K mg base CX0 10 f_law_told _ ["_law_value"] spTo46 := ok_to46 F_law_told TC C_read_kinds g_BadText R_BadText.xf_ (R_BadText.fi_ "line" (by simp)) (R_BadText.fi_ "code" (by simp)) (of_decide_eq_true tM) C_p_elders C_p_closed C_p_hollow C_p_several
  have C_law_told : Cal l.prog w K mg base "_law_told" 10 ["_law_value"] spTo46 := ⟨_, _, g_law_told, k_law_told, b_law_told, G_law_told⟩
  have G_law_bent : FnOk l.prog w K mg base CX0 2 f_law_bent _ ["_law_deck_here", "_law_lines"] spBn46 := ok_bn46 F_law_bent B C_law_next
  have C_law_bent : Cal l.prog w K mg base "_law_bent" 2 ["_law_deck_here", "_law_lines"] spBn46 := ⟨_, _, g_law_bent, k_law_bent, b_law_bent, G_law_bent⟩
  exact ok_law F_law ⟨B, C_law_deck, C_law_next, C_law_same, C_law_odd, C_law_four, C_law_bent, C_law_told, C_law_due⟩
end Kc

set_option Elab.async false
set_option linter.all false
open PySem PySem.W PyProof.Rows
set_option maxRecDepth 100000 in
set_option maxHeartbeats 0 in
theorem PySem.Challenge.cw_kindstocome_k46_wrong_texts_of_kinds_holds : PySem.Challenge.rw_kindstocome_k46_wrong_texts_of_kinds.Holds := by
  w_on; o_law; k_head; (case hw => w_witness2)
  k_fill
  refine Kg.walkH (l := PySem.Challenge.rw_kindstocome_k46_wrong_texts_of_kinds) (n := 63) (k := 41) (x := "_law_script") (sp := Kc.spLaw) ?I rfl (by decide) rfl ⟨rfl, by decide, by decide⟩ (fun w h Y => PySem.W.kIn_of Y) ?F (fun K H a ns hl _ _ hS => ⟨a, ns, rfl, hS, hl, fun _ => rfl⟩)
  case I => first | rfl | decide +kernel | kernel_rfl
  case F =>
    intro w mg fa h KX G hmg
    refine' Kc.all_mk KX G hmg ?a_is_number ?l_is_number ?x_is_number ?k_is_number ?a_is_index ?l_is_index ?x_is_index ?k_is_index ?a_is_bool ?l_is_bool ?x_is_bool ?k_is_bool ?a_is_ascending ?l_is_ascending ?x_is_ascending ?k_is_ascending ?a_are_elders ?l_are_elders ?x_are_elders ?k_are_elders ?a_wrong_elders ?l_wrong_elders ?x_wrong_elders ?k_wrong_elders ?a_wrong_place ?l_wrong_place ?x_wrong_place ?k_wrong_place ?a_table_above ?l_table_above ?x_table_above ?k_table_above ?a_words_of ?l_words_of ?x_words_of ?k_words_of ?a_is_numeral ?l_is_numeral ?x_is_numeral ?k_is_numeral ?a_numbers_of ?l_numbers_of ?x_numbers_of ?k_numbers_of ?a_lines_with_words ?l_lines_with_words ?x_lines_with_words ?k_lines_with_words ?a_several_of ?l_several_of ?x_several_of ?k_several_of ?a_kind_parts ?l_kind_parts ?x_kind_parts ?k_kind_parts ?a_kind_of_line ?l_kind_of_line ?x_kind_of_line ?k_kind_of_line ?a_read_kinds ?l_read_kinds ?x_read_kinds ?k_read_kinds ?a_law_deck ?l_law_deck ?x_law_deck ?k_law_deck ?a_law_next ?l_law_next ?x_law_next ?k_law_next ?a_law_same ?l_law_same ?x_law_same ?k_law_same ?a_law_odd ?l_law_odd ?x_law_odd ?k_law_odd ?a_law_some ?l_law_some ?x_law_some ?k_law_some ?a_law_four ?l_law_four ?x_law_four ?k_law_four ?a_law_number ?l_law_number ?x_law_number ?k_law_number ?a_law_line ?l_law_line ?x_law_line ?k_law_line ?a_law_due ?l_law_due ?x_law_due ?k_law_due ?a_law_told ?l_law_told ?x_law_told ?k_law_told ?a_law_bent ?l_law_bent ?x_law_bent ?k_law_bent ?a_law ?l_law ?x_law ?k_law ?nC ?y_m_init ?l_m_init ?x_m_init ?k_m_init ?i_m_init ?y_p_elders ?r_p_elders ?o_p_elders ?l_p_elders ?x_p_elders ?k_p_elders ?y_p_closed ?r_p_closed ?o_p_closed ?l_p_closed ?x_p_closed ?k_p_closed ?y_p_hollow ?r_p_hollow ?o_p_hollow ?l_p_hollow ?x_p_hollow ?k_p_hollow ?y_p_several ?r_p_several ?o_p_several ?l_p_several ?x_p_several ?k_p_several ?tC ?tI ?n_BadText ?y_i_BadText ?l_i_BadText ?x_i_BadText ?k_i_BadText ?tB_BadText ?z_abs ?z_len ?z_int ?z_isinstance ?z_tuple ?z_list ?z_str ?z_bool ?z_dict ?z_zip ?z_all ?z_repr ?z_range ?z_set ?z_sorted ?z_enumerate ?u_MAX_KINDS ?u_DIGITS ?tM
    (case a_is_number => k_is)
    (case l_is_number => k_is)
    (case x_is_number => k_is)
    (case k_is_number => k_is)
    (case a_is_index => k_is)
    (case l_is_index => k_is)
    (case x_is_index => k_is)
    (case k_is_index => k_is)
    (case a_is_bool => k_is)
    (case l_is_bool => k_is)
    (case x_is_bool => k_is)
    (case k_is_bool => k_is)
    (case a_is_ascending => k_is)
    (case l_is_ascending => k_is)
    (case x_is_ascending => k_is)
    (case k_is_ascending => k_is)
    (case a_are_elders => k_is)
    (case l_are_elders => k_is)
    (case x_are_elders => k_is)
    (case k_are_elders => k_is)
    (case a_wrong_elders => k_is)
    (case l_wrong_elders => k_is)
    (case x_wrong_elders => k_is)
    (case k_wrong_elders => k_is)
    (case a_wrong_place => k_is)
    (case l_wrong_place => k_is)
    (case x_wrong_place => k_is)
    (case k_wrong_place => k_is)
    (case a_table_above => k_is)
    (case l_table_above => k_is)
    (case x_table_above => k_is)
    (case k_table_above => k_is)
    (case a_words_of => k_is)
    (case l_words_of => k_is)
    (case x_words_of => k_is)
    (case k_words_of => k_is)
    (case a_is_numeral => k_is)
    (case l_is_numeral => k_is)
    (case x_is_numeral => k_is)
    (case k_is_numeral => k_is)
    (case a_numbers_of => k_is)
    (case l_numbers_of => k_is)
    (case x_numbers_of => k_is)
    (case k_numbers_of => k_is)
    (case a_lines_with_words => k_is)
    (case l_lines_with_words => k_is)
    (case x_lines_with_words => k_is)
    (case k_lines_with_words => k_is)
    (case a_several_of => k_is)
    (case l_several_of => k_is)
    (case x_several_of => k_is)
    (case k_several_of => k_is)
    (case a_kind_parts => k_is)
    (case l_kind_parts => k_is)
    (case x_kind_parts => k_is)
    (case k_kind_parts => k_is)
    (case a_kind_of_line => k_is)
    (case l_kind_of_line => k_is)
    (case x_kind_of_line => k_is)
    (case k_kind_of_line => k_is)
    (case a_read_kinds => k_is)
    (case l_read_kinds => k_is)
    (case x_read_kinds => k_is)
    (case k_read_kinds => k_is)
    (case a_law_deck => k_is)
    (case l_law_deck => k_is)
    (case x_law_deck => k_is)
    (case k_law_deck => k_is)
    (case a_law_next => k_is)
    (case l_law_next => k_is)
    (case x_law_next => k_is)
    (case k_law_next => k_is)
    (case a_law_same => k_is)
    (case l_law_same => k_is)
    (case x_law_same => k_is)
    (case k_law_same => k_is)
    (case a_law_odd => k_is)
    (case l_law_odd => k_is)
    (case x_law_odd => k_is)
    (case k_law_odd => k_is)
    (case a_law_some => k_is)
    (case l_law_some => k_is)
    (case x_law_some => k_is)
    (case k_law_some => k_is)
    (case a_law_four => k_is)
    (case l_law_four => k_is)
    (case x_law_four => k_is)
    (case k_law_four => k_is)
    (case a_law_number => k_is)
    (case l_law_number => k_is)
    (case x_law_number => k_is)
    (case k_law_number => k_is)
    (case a_law_line => k_is)
    (case l_law_line => k_is)
    (case x_law_line => k_is)
    (case k_law_line => k_is)
    (case a_law_due => k_is)
    (case l_law_due => k_is)
    (case x_law_due => k_is)
    (case k_law_due => k_is)
    (case a_law_told => k_is)
    (case l_law_told => k_is)
    (case x_law_told => k_is)
    (case k_law_told => k_is)
    (case a_law_bent => k_is)
    (case l_law_bent => k_is)
    (case x_law_bent => k_is)
    (case k_law_bent => k_is)
    (case a_law => k_is)
    (case l_law => k_is)
    (case x_law => k_is)
    (case k_law => k_is)
    (case nC => k_is)
    (case y_m_init => k_is)
    (case l_m_init => k_is)
    (case x_m_init => k_is)
    (case k_m_init => k_is)
    (case i_m_init => first | k_is | kernel_rfl)
    (case y_p_elders => k_is)
    (case r_p_elders => k_is)
    (case o_p_elders => kernel_rfl)
    (case l_p_elders => k_is)
    (case x_p_elders => k_is)
    (case k_p_elders => k_is)
    (case y_p_closed => k_is)
    (case r_p_closed => k_is)
    (case o_p_closed => kernel_rfl)
    (case l_p_closed => k_is)
    (case x_p_closed => k_is)
    (case k_p_closed => k_is)
    (case y_p_hollow => k_is)
    (case r_p_hollow => k_is)
    (case o_p_hollow => kernel_rfl)
    (case l_p_hollow => k_is)
    (case x_p_hollow => k_is)
    (case k_p_hollow => k_is)
    (case y_p_several => k_is)
    (case r_p_several => k_is)
    (case o_p_several => kernel_rfl)
    (case l_p_several => k_is)
    (case x_p_several => k_is)
    (case k_p_several => k_is)
    (case tC => kernel_rfl)
    (case tI => kernel_rfl)
    (case n_BadText => k_is)
    (case y_i_BadText => k_is)
    (case l_i_BadText => k_is)
    (case x_i_BadText => k_is)
    (case k_i_BadText => k_is)
    (case tB_BadText => kernel_rfl)
    (case z_abs => k_is)
    (case z_len => k_is)
    (case z_int => k_is)
    (case z_isinstance => k_is)
    (case z_tuple => k_is)
    (case z_list => k_is)
    (case z_str => k_is)
    (case z_bool => k_is)
    (case z_dict => k_is)
    (case z_zip => k_is)
    (case z_all => k_is)
    (case z_repr => k_is)
    (case z_range => k_is)
    (case z_set => k_is)
    (case z_sorted => k_is)
    (case z_enumerate => k_is)
    (case u_MAX_KINDS => k_is)
    (case u_DIGITS => k_is)
    (case tM => kernel_rfl)
#print axioms PySem.Challenge.cw_kindstocome_k46_wrong_texts_of_kinds_holds

