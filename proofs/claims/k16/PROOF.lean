import PyProof.Rows.All
import Wide.All
import OpenK.AllK
import Wide.FinOn
import PySem.Challenge.RW_kindstocome_k16_places_reached
import HandS.ForMost
import HandS.EndBits
import PyProof.ReprRoads
import HandS.IsInst
import HandS.Zip
import HandS.Walk
import HandS.Strs
import HandS.SetFor
import HandS.Style
import HandS.Conv
import KE.GoesEnum
import PyProof.AutoSeq1
import HandS.SortRule
import HandS.TupSets
import HandS.SlotsOwn
import HandS.NamedTupGet
import PyProof.InstNe
import PyProof.CallStr
import HandS.Property
import HandS.TupAny
import HandS.FStr
import HandS.Text
import HandS.Lambda
import HandS.SortKw
import KE.KSortKey
import HandS.Deep
import KE.SortData
import HandS.Small
import HandS.ForExc
import HandS.SetBool
import HandS.Iter
import KE.KNest
set_option Elab.async false
set_option linter.all false
set_option maxRecDepth 100000
set_option maxHeartbeats 4000000
/-! Defs that are promised where no repr is under way (so that repr of lists, tuples, dicts tells the whole text). -/
namespace Kg
open PySem PySem.Spec PyProof.Rows L2
/-- a def keeps sp wherever no repr runs around it -/
structure FnG (P : Program) (w : World) (K : PySem.W.Frag) (mg : Str → Option Value) (base : Heap) (k : Nat) (f : Addr) (fd : FuncData) (ps : List Str) (sp : Sp) : Prop where
  len : ∀ vs H Q E, sp vs H Q E → vs.length = ps.length
  go : ∀ (A : Around) (out : List Env) (s : Shared) (H : Hp) (ar : Args) (us : List Value) (vs : List V) (Q : VK), A.guards = some [] → Room k A → Env0 P w K mg base A out s H →
    BindsTo s fd ar (ps.zip us) → Vals vs us → sp vs H Q E0 → codeAny (model P w) A (.call (.ref f) ar) (CR CX0 out P w H s Q E0) s
section
variable {P : Program} {w : World} {K : PySem.W.Frag} {mg : Str → Option Value} {base : Heap} {k : Nat} {f : Addr} {fd : FuncData} {ps : List Str} {sp : Sp}
theorem FnG.mono {j : Nat} (F : FnG P w K mg base j f fd ps sp) (h : j ≤ k) : FnG P w K mg base k f fd ps sp :=
  ⟨F.len, fun A out s H ar us vs Q g r => F.go A out s H ar us vs Q g (r.mono h)⟩
/-- the rule for such a def: as Fun.ok, the body may lean on the guards -/
theorem okG {x qual : Str} {st : Stmt} {N : List Str} (F : Fun K x qual st f fd) (S : FnScope N ps (defScope st)) (len : ∀ vs H Q E, sp vs H Q E → vs.length = ps.length)
    (bd : ∀ (cdv : Value) (A : Around) (out : List Env) (s : Shared) (H : Hp) (vs : List V) (Q : VK), (A.deeper (envOfC qual (defScope st) s.heap.objs.size f cdv)).guards = some [] → Room k (A.deeper (envOfC qual (defScope st) s.heap.objs.size f cdv)) → sp vs H Q E0 →
      ∃ t, PSs (cxOf CX0 P w K mg base N qual (defScope st) f cdv A out s H E0).nox (defBody st) t ∧ t { nx := fun _ H' => Q .non H', rt := Q } (start N vs) H) : FnG P w K mg base (k + 1) f fd ps sp := by
  obtain ⟨oc, od, kV, dc, pm, an, cdv, ct, osl, rfl, lk, hcd⟩ := F.ex
  refine ⟨len, fun A out s H ar us vs Q hgu hro e0 hbi rv hs => ?_⟩
  have old : ∀ b o, base.get? b = some o → s.heap.get? b = some o := fun b o e => (e0.bs b o e).1
  have kin := e0.mod.kin.keeps old
  obtain ⟨t, ht, hq⟩ := bd cdv A out s H vs Q hgu (hro.deeper _) hs
  have par : ∀ y ∈ ps.zip us, (defScope st).names.lookup y.1 = some .local ∨ ((defScope st).names.lookup y.1 = some .cell ∧ ((cellsFrom (s.heap.objs.size + 1) (defScope st).names []).lookup y.1).isSome = true) := by
    intro y hy
    cases S.par y.1 (List.of_mem_zip (a := y.1) (b := y.2) hy).1 with
    | inl z => exact .inl z
    | inr z => exact .inr ⟨z, PySem.W.cellsFrom_some _ _ _ (.inl z)⟩
  refine codeAny_call_function hro.depth (kin f _ lk) rfl S.co S.gen rfl (PySem.W.codeRec_of kin hcd) (hbi _ _ _ _ (wpAny_newFunctionEnv_cells S.kind par fun env he s1 x => ?_))
  subst he
  refine ⟨(e0.mod.nolimit.keeps old).keeps x.toInCall.keep, codeAny_func (wpAny_mono (ht.nox.run [] s1 (start N vs) H _ (inv_start S hro.hd e0 (len _ _ _ _ hs) rv x) hq) (fun fl s' z => ?_) fun _ _ z => z)⟩
  match fl, z with
  | .ret _, ⟨v, _, H', J, r, q⟩ => exact ⟨v, H', J.os, J.bare, J.base, J.hok, r, q⟩
  | .next, ⟨_, H', J, q⟩ => exact ⟨V.non, H', J.os, J.bare, J.base, J.hok, rfl, q⟩
  | .brk, ⟨_, _, _, q⟩ => exact q.elim
  | .cont, ⟨_, _, _, q⟩ => exact q.elim
end
section
variable {X : Cx} {k : Nat} {f : Addr} {fd : FuncData} {ps : List Str} {sp : Sp} {x : Str} {p pos : Pos} {e : Expr} {es : List Expr} {t : TA}
/-- f(e, ..) of such a def, where no repr runs -/
theorem pe_callG (F : FnG X.prog X.w X.K X.mg X.base k f fd ps sp) (hgu : X.A.guards = some []) (hr : Room k X.A) (hg : Gl X x) (hm : X.mg x = some (.ref f)) (hk : PySem.W.keepIn X.K (.ref f) = true) (hb : Binds X.K fd ps [])
    (ha : PA X (e :: es) t) (hdb : (x == ("__debug__" : Str)) = false := by decide) (he : starEach (e :: es) X.env = (false, eval e X.env) :: starEach es X.env := by rfl) (hpl : (backTo pos (starEach es X.env)).any (·.1) = false := by rfl) :
    PE X (.Call (.Name x p) (e :: es) [] pos) (tCall sp [] E0 t) := by
  refine ⟨fun pins s σ H Q I h => wpAny_Call_Name_kw (ld_glob I hg hm (PySem.W.callWith_K (h₀ := X.base) I.ok.mod.kin hk (thn (ha.run pos pins s σ H _ I h) fun us s1 ⟨vs, H1, I1, r, q⟩ => ⟨I1.kIn, ?_⟩) he hpl) hdb)⟩
  have q' : sp vs H1 Q E0 := by rw [← List.append_nil vs]; exact q
  have hl : us.length = ps.length := (Vals.length r).symm.trans (F.len _ _ _ _ q')
  have bi := hb s1 us I1.kIn (by rw [List.append_nil]; exact hl)
  rw [List.append_nil] at bi
  refine wpAny_call (codeAny_mono (F.go X.A X.stack s1 H1 ⟨us, []⟩ us vs Q hgu hr I1.env0 bi r q') fun rs s' z => ?_)
  match rs, z with
  | .ok (.ret _), z => exact I1.after z
  | .ok .next, z => exact z.elim
  | .ok .brk, z => exact z.elim
  | .ok .cont, z => exact z.elim
  | .error _, z => exact z.elim
end
/-! ### the law's end -/
theorem endG {P : Program} {w : World} {K : PySem.W.Frag} {mg mb : Str → Option Value} {k : Nat} {fa a : Addr} {fd : FuncData} {x : Str} {sp : Sp} {s₁ : Shared} {vs : List Value} {ns : List Int}
    (KX : K.In s₁.heap) (hns : s₁.heap.Ns mainGlobals mg) (hb : s₁.heap.Ns builtinsNs mb) (hbb : ∀ x : Str, x ≠ "__name__" → mb x = bootBuiltins x) (hlim : s₁.heap.NoLimit) (hg : s₁.gens = #[])
    (ha : s₁.heap.get? a = some { cls := .type "list", data := .seq vs.toArray }) (hi : IntsAre vs ns) (hl : ns.length ≤ sizeLine) (hr : Room k callerA)
    (F : ∀ base : Heap, K.In base → base.Ns mainGlobals mg → FnG P w K mg base k fa fd [x] sp) (hbind : ∀ (s : Shared) (u : Value), BindsTo s fd ⟨[u], []⟩ [(x, u)])
    (hsp : ∀ H : Hp, Only H → SqL K H a (ns.map V.int) → sp [.ref a] H (fun v _ => v = .bl true) E0) :
    codeAny (model P w) callerA (.call (.ref fa) ⟨[.ref a], []⟩) (fun r s' => r = .ok (.ret (.bool true)) ∧ OldK s₁.heap s'.heap ∧ s'.os = s₁.os ∧ AllBare s'.gens) s₁ := by
  have main : ∀ H : Hp, Only H → SqL K H a (ns.map V.int) → HOk P w H s₁.heap → (∀ b o, H b = some o → b = a ∧ K.lookup a = none) →
      codeAny (model P w) callerA (.call (.ref fa) ⟨[.ref a], []⟩) (fun r s' => r = .ok (.ret (.bool true)) ∧ OldK s₁.heap s'.heap ∧ s'.os = s₁.os ∧ AllBare s'.gens) s₁ := by
    intro H only sq ok one
    have notD : ∀ {b : Addr} {o : Obj} {es : Array DictEntry} {n : Nat}, s₁.heap.get? b = some o → o.data = .dict es n → H b = none := by
      intro b o es n e d
      cases q : H b with
      | none => rfl
      | some u =>
        rw [(one b u q).1, ha] at e
        rw [← Option.some.inj e] at d
        exact nomatch d
    have hid : ∀ {b : Addr} {m : Str → Option Value}, s₁.heap.Ns b m → (hidT s₁.heap H).Ns b m := by
      intro b m z
      obtain ⟨o, es, n, e, d, r⟩ := z
      exact ⟨o, es, n, hidT_get e (notD e d), d, r⟩
    have kb : K.In (hidT s₁.heap H) := by
      intro b o e
      refine hidT_get (KX b o e) ?_
      cases q : H b with
      | none => rfl
      | some u =>
        obtain ⟨z1, z2⟩ := one b u q
        rw [z1, z2] at e
        exact nomatch e
    obtain ⟨mc, l1, l2⟩ := hlim
    have env : Env0 P w K mg (hidT s₁.heap H) callerA [] s₁ H :=
      { frames := rfl, mod := ⟨kb, hid hns, ⟨mb, hid hb, hbb⟩, ⟨mc, hid l1, l2⟩⟩, bs := fun b o e => of_hidT e, bsz := Nat.le_of_eq (hidT_size _ _), funs := trivial, frf := fun b z => (nomatch (show b ∈ ([] : List Addr) from z)), hok := ok, bare := .of_eq hg }
    refine codeAny_mono ((F _ kb (hid hns)).go callerA [] s₁ H ⟨[.ref a], []⟩ [.ref a] [.ref a] _ rfl hr env (hbind s₁ (.ref a)) (.cons rfl .nil) (hsp H only sq)) fun r s' z => ?_
    match r, z with
    | .error _, z => exact z.elim
    | .ok .next, z => exact z.elim
    | .ok .brk, z => exact z.elim
    | .ok .cont, z => exact z.elim
    | .ok (.ret u), ⟨v, H', zo, zb, un, ok', rv, ev⟩ =>
      have ev' : v = .bl true := ev
      rw [ev'] at rv
      have eu : u = Value.bool true := rv
      refine ⟨by rw [eu], OldK.of_keep fun b o e => ?_, zo, zb⟩
      cases q : H b with
      | none => exact un.keep b o e q (fun y => nomatch (show b ∈ ([] : List Addr) from y)) (fun y => nomatch y)
      | some u2 =>
        cases only b with
        | inl y => rw [q] at y; exact nomatch y
        | inr y =>
          obtain ⟨ob, xs, y⟩ := y
          have y1 : ObjOk P w H s₁.heap b (.frz ob (.lst xs)) := ok b _ y
          have y2 : ObjOk P w H' s'.heap b (.frz ob (.lst xs)) := ok' b _ (un.frzs b ob _ y)
          have y3 : some o = some ob := e.symm.trans y1.1
          rw [Option.some.inj y3]
          exact y2.1
  have rv := vals_ints hi
  cases hk : K.lookup a with
  | none =>
    let H0 : Hp := fun b => if b = a then some (.frz { cls := .type "list", data := .seq vs.toArray } (.lst (ns.map V.int))) else none
    have at0 : ∀ b o, H0 b = some o → b = a ∧ o = .frz { cls := .type "list", data := .seq vs.toArray } (.lst (ns.map V.int)) := by
      intro b o e
      by_cases z : b = a
      · exact ⟨z, (Option.some.inj ((if_pos z).symm.trans e)).symm⟩
      · exact nomatch ((if_neg z).symm.trans e)
    refine main H0 (fun b => ?_) (.inl (.inr ⟨_, if_pos rfl⟩)) (fun b o e => ?_) (fun b o e => ⟨(at0 b o e).1, hk⟩)
    · cases q : H0 b with
      | none => exact .inl rfl
      | some o => exact .inr ⟨_, _, by rw [(at0 b o q).2]⟩
    · obtain ⟨z1, z2⟩ := at0 b o e
      rw [z1, z2]
      exact ⟨ha, by rw [List.length_map]; exact hl, vs, _, rv, ha⟩
  | some o =>
    have eo : ({ cls := .type "list", data := .seq vs.toArray } : Obj) = o := Option.some.inj (ha.symm.trans (KX a o hk))
    rw [← eo] at hk
    refine main (fun _ => none) (fun _ => .inl rfl) (.inr ⟨_, vs.toArray, _, hk, rfl, rfl, rfl, ?_, by simpa using rv⟩) (fun b o e => nomatch (show (none : Option HO) = some o from e)) (fun b o e => nomatch (show (none : Option HO) = some o from e))
    rw [List.size_toArray, hi.length]; exact hl
/-- what k_head leaves, from the law's promise; the script's bits are told -/
theorem walkG {l : PySem.W.OpenLaw} {n k : Nat} {q : Program} {loose : List Str} {XP : (Str → Option Value) → Heap → Prop} {YP : World → Heap → Prop} {d : DefRec} {K : Params → PySem.W.Frag} {sp : PySem.W.Frag → Sp} {x : Str}
    (hn : l.most = some n) (hn2 : n ≤ sizeLine) (hdf : d.params.defaults = []) (hr : Room k callerA) (hY : ∀ (w : World) (h : Heap), YP w h → (K w.params).In h)
    (F : ∀ (w : World) (mg : Str → Option Value) (fa : Addr) (h : Heap), (K w.params).In h → h.Ns mainGlobals mg → mg d.name = some (.ref fa) →
      ∃ fd : FuncData, (∀ (s : Shared) (u : Value), BindsTo s fd ⟨[u], []⟩ [(x, u)]) ∧ ∀ base : Heap, (K w.params).In base → base.Ns mainGlobals mg → FnG l.prog w (K w.params) mg base k fa fd [x] (sp (K w.params)))
    (hsp : ∀ (K : PySem.W.Frag) (H : Hp) (a : Addr) (ns : List Int), ns.length ≤ n → (∀ z ∈ ns, Builtin.Int.intBits z ≤ 1048576) → Only H → SqL K H a (ns.map V.int) → sp K [.ref a] H (fun v _ => v = .bl true) E0) :
    PySem.W.WalkO q loose XP YP l.row.toRowW d [] (fun f vs => PySem.call f vs) := by
  refine Att.attach_callB hn hdf fun w s₀ s₁ mg mb fa o pm cd dc a vs ns G Y ho hd hcd hmg hobj hints hlen hbits hgen => ?_
  obtain ⟨fd, hbi, hF⟩ := F w mg fa _ (hY w _ Y) G.T.g hmg
  exact endG (hY w _ Y) G.T.g G.T.b G.T.builtins G.T.nolimit hgen hobj hints (Nat.le_trans hlen hn2) hr hF hbi fun H hO hS => hsp (K w.params) H a ns hlen hbits hO hS
end Kg

set_option Elab.async false
set_option linter.all false
set_option maxRecDepth 100000
set_option maxHeartbeats 4000000
/-! Data: what the laws draw and compare. -/
namespace Kd
open PySem PySem.Spec PyProof.Rows L2 Kg
/-- all that was tracked stands as it was, but for the places of ds -/
def Keep (ds : Addr → Prop) (H H' : Hp) : Prop := ∀ c o, H c = some o → ¬ ds c → H' c = some o
theorem Keep.refl (ds : Addr → Prop) (H : Hp) : Keep ds H H := fun _ _ h _ => h
theorem Keep.trans {ds : Addr → Prop} {H H1 H2 : Hp} (a : Keep ds H H1) (b : Keep ds H1 H2) : Keep ds H H2 := fun c o h n => b c o (a c o h n) n
theorem Keep.of_same {ds : Addr → Prop} {H H' : Hp} (a : Same H H') : Keep ds H H' := fun c o h _ => a c o h
theorem same_new {H : Hp} {p : Addr} {o : HO} (h : H p = none) : Same H (upd H p o) := fun b x e => by
  rw [upd_ne (ne_of_none e h)]; exact e
theorem Keep.put {ds : Addr → Prop} {H : Hp} {p : Addr} {o : HO} (h : ds p) : Keep ds H (upd H p o) := fun c x e n => by
  rw [upd_ne (fun z => n (by rw [z]; exact h))]; exact e
/-! a value and the datum that it is; none of its objects stands at a place of av -/
mutual
inductive Da (av : Addr → Prop) (H : Hp) : V → PyData → Prop
  | non : Da av H .non .none
  | bl (b : Bool) : Da av H (.bl b) (.bool b)
  | int (i : Int) : Da av H (.int i) (.int i)
  | str (x : Str) : Da av H (.str x) (.str x)
  | lst {a : Addr} {xs : List V} {ds : List PyData} : ¬ av a → H a = some (.lst xs) → xs.length ≤ 1000 → DaAll av H xs ds → Da av H (.ref a) (.list ds)
  | tup {a : Addr} {xs : List V} {ds : List PyData} : ¬ av a → H a = some (.tup xs) → xs.length ≤ 1000 → DaAll av H xs ds → Da av H (.ref a) (.tuple ds)
  | dc0 {a : Addr} : ¬ av a → H a = some (.dK []) → Da av H (.ref a) (.dict [])
  | dc1 {a : Addr} : ¬ av a → H a = some (.dK [(Sum.inl 0, V.int 1)]) → Da av H (.ref a) (.dict [(.int 0, .int 1)])
inductive DaAll (av : Addr → Prop) (H : Hp) : List V → List PyData → Prop
  | nil : DaAll av H [] []
  | cons {v : V} {vs : List V} {d : PyData} {ds : List PyData} : Da av H v d → DaAll av H vs ds → DaAll av H (v :: vs) (d :: ds)
end
mutual
theorem Da.keep {av : Addr → Prop} {H H' : Hp} (k : Keep av H H') : ∀ {v : V} {d : PyData}, Da av H v d → Da av H' v d
  | _, _, .non => .non
  | _, _, .bl b => .bl b
  | _, _, .int i => .int i
  | _, _, .str x => .str x
  | _, _, .lst n h z r => .lst n (k _ _ h n) z (DaAll.keep k r)
  | _, _, .tup n h z r => .tup n (k _ _ h n) z (DaAll.keep k r)
  | _, _, .dc0 n h => .dc0 n (k _ _ h n)
  | _, _, .dc1 n h => .dc1 n (k _ _ h n)
theorem DaAll.keep {av : Addr → Prop} {H H' : Hp} (k : Keep av H H') : ∀ {vs : List V} {ds : List PyData}, DaAll av H vs ds → DaAll av H' vs ds
  | _, _, .nil => .nil
  | _, _, .cons h r => .cons (Da.keep k h) (DaAll.keep k r)
end
theorem Da.same {av : Addr → Prop} {H H' : Hp} {v : V} {d : PyData} (h : Da av H v d) (k : Same H H') : Da av H' v d := h.keep (.of_same k)
mutual
theorem Da.sub {av bv : Addr → Prop} {H : Hp} (k : ∀ a, bv a → av a) : ∀ {v : V} {d : PyData}, Da av H v d → Da bv H v d
  | _, _, .non => .non
  | _, _, .bl b => .bl b
  | _, _, .int i => .int i
  | _, _, .str x => .str x
  | _, _, .lst n h l r => .lst (fun z => n (k _ z)) h l (DaAll.sub k r)
  | _, _, .tup n h l r => .tup (fun z => n (k _ z)) h l (DaAll.sub k r)
  | _, _, .dc0 n h => .dc0 (fun z => n (k _ z)) h
  | _, _, .dc1 n h => .dc1 (fun z => n (k _ z)) h
theorem DaAll.sub {av bv : Addr → Prop} {H : Hp} (k : ∀ a, bv a → av a) : ∀ {vs : List V} {ds : List PyData}, DaAll av H vs ds → DaAll bv H vs ds
  | _, _, .nil => .nil
  | _, _, .cons h r => .cons (Da.sub k h) (DaAll.sub k r)
end
theorem DaAll.length {av : Addr → Prop} {H : Hp} : ∀ {vs : List V} {ds : List PyData}, DaAll av H vs ds → vs.length = ds.length
  | _, _, .nil => rfl
  | _, _, .cons _ r => congrArg (· + 1) (DaAll.length r)
theorem DaAll.get {av : Addr → Prop} {H : Hp} : ∀ {vs : List V} {ds : List PyData} {i : Nat} {v : V}, DaAll av H vs ds → vs[i]? = some v → ∃ d, ds[i]? = some d ∧ Da av H v d
  | _, _, _, _, .nil, e => by simp at e
  | _, _, 0, _, .cons h _, e => ⟨_, rfl, by simp at e; rw [← e]; exact h⟩
  | _, _, i + 1, v, .cons _ r, e => by
    obtain ⟨d, h1, h2⟩ := DaAll.get (i := i) (v := v) r (by simpa using e)
    exact ⟨d, by simpa using h1, h2⟩
/-- no place at all -/
def nil : Addr → Prop := fun _ => False
theorem Da.nil {av : Addr → Prop} {H : Hp} {v : V} {d : PyData} (h : Da av H v d) : Da Kd.nil H v d := h.sub fun _ z => z.elim
/-! ### kinds of data -/
def tyN : PyData → String
  | .none => "NoneType"
  | .bool _ => "bool"
  | .int _ => "int"
  | .str _ => "str"
  | .list _ => "list"
  | .tuple _ => "tuple"
  | .dict _ => "dict"
def isTup : PyData → Bool | .tuple _ => true | _ => false
def isLst : PyData → Bool | .list _ => true | _ => false
def isSeq : PyData → Bool | .tuple _ => true | .list _ => true | _ => false
def isStr : PyData → Bool | .str _ => true | _ => false
def isBool : PyData → Bool | .bool _ => true | _ => false
def isInt : PyData → Bool | .int _ => true | .bool _ => true | _ => false
def isDct : PyData → Bool | .dict _ => true | _ => false
theorem kt_tup (d : PyData) : kitB (tyN d) "tuple" = some (isTup d) := by cases d <;> kernel_rfl
theorem kt_lst (d : PyData) : kitB (tyN d) "list" = some (isLst d) := by cases d <;> kernel_rfl
theorem kt_str (d : PyData) : kitB (tyN d) "str" = some (isStr d) := by cases d <;> kernel_rfl
theorem kt_bool (d : PyData) : kitB (tyN d) "bool" = some (isBool d) := by cases d <;> kernel_rfl
theorem kt_int (d : PyData) : kitB (tyN d) "int" = some (isInt d) := by cases d <;> kernel_rfl
theorem kt_dct (d : PyData) : kitB (tyN d) "dict" = some (isDct d) := by cases d <;> kernel_rfl
theorem kt_seq {K : PySem.W.Frag} (d : PyData) : PySem.W.kitAny K (.type (tyN d)) [.type "tuple", .type "list"] = some (isSeq d) := by
  cases d with
  | tuple xs => exact kitAny_cons (b := true) (kit_ty (kt_tup (.tuple xs))) (fun z => nomatch z) (fun _ => rfl)
  | list xs => exact kitAny_cons (b := false) (kit_ty (kt_tup (.list xs))) (fun _ => kitAny_cons (b := true) (kit_ty (kt_lst (.list xs))) (fun z => nomatch z) (fun _ => rfl)) (fun z => nomatch z)
  | none => exact kitAny_cons (b := false) (kit_ty (kt_tup .none)) (fun _ => kitAny_cons (b := false) (kit_ty (kt_lst .none)) (fun _ => kitAny_nil) (fun z => nomatch z)) (fun z => nomatch z)
  | bool x => exact kitAny_cons (b := false) (kit_ty (kt_tup (.bool x))) (fun _ => kitAny_cons (b := false) (kit_ty (kt_lst (.bool x))) (fun _ => kitAny_nil) (fun z => nomatch z)) (fun z => nomatch z)
  | int x => exact kitAny_cons (b := false) (kit_ty (kt_tup (.int x))) (fun _ => kitAny_cons (b := false) (kit_ty (kt_lst (.int x))) (fun _ => kitAny_nil) (fun z => nomatch z)) (fun z => nomatch z)
  | str x => exact kitAny_cons (b := false) (kit_ty (kt_tup (.str x))) (fun _ => kitAny_cons (b := false) (kit_ty (kt_lst (.str x))) (fun _ => kitAny_nil) (fun z => nomatch z)) (fun z => nomatch z)
  | dict x => exact kitAny_cons (b := false) (kit_ty (kt_tup (.dict x))) (fun _ => kitAny_cons (b := false) (kit_ty (kt_lst (.dict x))) (fun _ => kitAny_nil) (fun z => nomatch z)) (fun z => nomatch z)
theorem Da.ty {K : PySem.W.Frag} {av : Addr → Prop} {H : Hp} {v : V} {d : PyData} (h : Da av H v d) : TyX K H v (.type (tyN d)) := by
  cases h with
  | non => exact .base .non
  | bl b => exact .base (.bl b)
  | int i => exact .base (.int i)
  | str x => exact .base (.str x)
  | lst _ e _ _ => exact .base (.lst e)
  | tup _ e _ _ => exact .base (.tup e)
  | dc0 _ e => exact .base (.dK e)
  | dc1 _ e => exact .base (.dK e)
theorem Da.non_iff {av : Addr → Prop} {H : Hp} {v : V} {d : PyData} (h : Da av H v d) : decide (v = .non) = (match d with | .none => true | _ => false) := by
  cases h with
  | non => rfl
  | _ => exact decide_eq_false (fun z => nomatch z)
/-! ### repr of the dicts that the laws draw -/
theorem shows0 : (PyData.dict []).shown.length ≤ sizeLine := by decide +kernel
theorem shows1 : (PyData.dict [(.int 0, .int 1)]).shown.length ≤ sizeLine := by decide +kernel
section
variable {X : Cx}
def rRepr : List V → Hp → VK → Prop := fun xs H Q => ∃ (av : Addr → Prop) (v : V) (kvs : List (PyData × PyData)), xs = [v] ∧ Da av H v (.dict kvs) ∧ Q (.str (PyData.dict kvs).shown) H
theorem call_reprD (hg : X.A.guards = some []) (hu : X.A.units + 64 < cLine) : CallR X (.builtin "repr") rRepr := by
  intro pins s σ H xs us Q I r h
  obtain ⟨av, v, kvs, rfl, hd, q⟩ := h
  obtain ⟨u, rfl, rx⟩ := vals1 r
  cases hd with
  | @dc0 a _ e =>
    cases rx
    obtain ⟨_, hsys, vs, kv, o, es, ep, ho, hex, hdt, _, prs, _⟩ := (show ObjOk X.prog X.w H s.heap a (.dK []) from I.hok a _ e)
    cases kv
    have rd : Reads s.heap (.ref a) (.dict []) [a] := by
      have el : es.toList = [] := by cases hh : es.toList with
        | nil => rfl
        | cons _ _ => rw [hh] at prs; cases prs
      exact Reads.dict (as := []) (bs := []) ho hex.1 hdt (by rw [el]; exact .nil) (by rw [el]; exact .nil)
    exact repr_of_reads' rd (by decide +kernel) (fun _ z => by rw [List.mem_singleton.mp z] at hsys; simp at hsys) hg (by show X.A.units + (PyData.depthKv [] + 1 + 1) < cLine; show X.A.units + (0 + 1 + 1) < cLine; omega) (fun _ _ z => z) (fun h' u tk k => ⟨.str (PyData.dict []).shown, H, I.kept (t' := tk) k, ⟨u, rfl⟩, q⟩) shows0
  | @dc1 a _ e =>
    cases rx
    obtain ⟨_, hsys, vs, kv, o, es, ep, ho, hex, hdt, _, prs, _⟩ := (show ObjOk X.prog X.w H s.heap a (.dK [(Sum.inl 0, V.int 1)]) from I.hok a _ e)
    cases kv with
    | @cons p qv l1 l2 hh tt =>
      cases tt
      obtain ⟨e1, t1, e2⟩ := hh
      obtain ⟨qk, qw⟩ := qv
      have e1' : qk = Sum.inl 0 := e1.symm
      have e2' : qw = Value.int 1 t1 := e2
      subst e1' e2'
      have rd : Reads s.heap (.ref a) (.dict [(.int 0, .int 1)]) [a] := by
        cases hl : es.toList with
        | nil => rw [hl] at prs; cases prs
        | cons en er =>
          rw [hl] at prs
          cases prs with
          | cons z1 z2 z3 =>
            cases z3
            obtain ⟨tk, z1'⟩ := Value.isInt_shape (k := 0) (v := en.key) z1
            refine Reads.dict (as := []) (bs := []) ho hex.1 hdt ?_ ?_
            · rw [hl]
              show ReadsAll s.heap [en.key] [.int 0] ([] ++ [])
              rw [z1']
              exact .cons (.int 0 tk) .nil
            · rw [hl]
              show ReadsAll s.heap [en.val] [.int 1] ([] ++ [])
              rw [z2]
              exact .cons (.int 1 t1) .nil
      exact repr_of_reads' rd (by decide +kernel) (fun _ z => by rw [List.mem_singleton.mp z] at hsys; simp at hsys) hg (by show X.A.units + (PyData.depthKv [(.int 0, .int 1)] + 1 + 1) < cLine; show X.A.units + (0 + 1 + 1) < cLine; omega) (fun _ _ z => z) (fun h' u tk k => ⟨.str (PyData.dict [(.int 0, .int 1)]).shown, H, I.kept (t' := tk) k, ⟨u, rfl⟩, q⟩) shows1
end
/-! ### zip of two tuples, as a walk -/
theorem walk_zipT {K : PySem.W.Frag} {a b : Addr} {xs ys : List V} {n : Nat} (hn : n = min xs.length ys.length) : Walk (RZ.ItzT K a b) n (fun H => SqT K H a xs ∧ SqT K H b ys) (YPair (fun i => xs[i]?) (fun i => ys[i]?)) := by
  subst hn
  refine ⟨fun i _ hi z => ⟨xs, ys, xs[i]'(by omega), ys[i]'(by omega), z.1, z.2, by simp [show i < xs.length by omega], by simp [show i < ys.length by omega]⟩, fun _ z => ⟨xs, ys, z.1, z.2, by omega⟩, fun i H v H' _ z y => ?_⟩
  obtain ⟨T, x1, x2, g1, g2, g3, g4, g5⟩ := y
  exact ⟨T, x1, x2, g1, g2, g3, g4 xs z.1, g5 ys z.2⟩
/-! ### sameness, as the laws ask it -/
mutual
def sameD : PyData → PyData → Bool
  | .tuple ds, .tuple es => sameA ds es
  | .list ds, .list es => sameA ds es
  | .none, .none => true
  | .str x, .str y => decide (x = y)
  | .bool a, .bool b => decide (a = b)
  | .int i, .int j => decide (i = j)
  | .dict a, .dict b => decide ((PyData.dict a).shown = (PyData.dict b).shown)
  | _, _ => false
def sameA : List PyData → List PyData → Bool
  | [], [] => true
  | d :: ds, e :: es => sameD d e && sameA ds es
  | _, _ => false
end
mutual
theorem sameD_refl : ∀ d : PyData, sameD d d = true
  | .none => by simp [sameD]
  | .bool b => by simp [sameD]
  | .int i => by simp [sameD]
  | .str x => by simp [sameD]
  | .list ds => by simp [sameD, sameA_refl ds]
  | .tuple ds => by simp [sameD, sameA_refl ds]
  | .dict a => by simp [sameD]
theorem sameA_refl : ∀ ds : List PyData, sameA ds ds = true
  | [] => by simp [sameA]
  | d :: ds => by simp [sameA, sameD_refl d, sameA_refl ds]
end
/-- the answers at each place -/
def sameL : List PyData → List PyData → List Bool
  | d :: ds, e :: es => sameD d e :: sameL ds es
  | _, _ => []
theorem sameL_len : ∀ (ds es : List PyData), (sameL ds es).length = min ds.length es.length
  | [], _ => by simp [sameL]
  | _ :: _, [] => by simp [sameL]
  | _ :: ds, _ :: es => by simp [sameL, sameL_len ds es]
theorem sameL_get : ∀ (ds es : List PyData) (i : Nat) (d e : PyData), ds[i]? = some d → es[i]? = some e → (sameL ds es)[i]? = some (sameD d e)
  | [], _, _, _, _, h, _ => by simp at h
  | _ :: _, [], _, _, _, _, h => by simp at h
  | a :: ds, b :: es, 0, d, e, h, h2 => by simp at h h2; simp [sameL, h, h2]
  | a :: ds, b :: es, i + 1, d, e, h, h2 => by simp at h h2; simp [sameL, sameL_get ds es i d e h h2]
theorem sameA_eq : ∀ (ds es : List PyData), sameA ds es = (decide (ds.length = es.length) && (sameL ds es).all id)
  | [], [] => by simp [sameA, sameL]
  | [], _ :: _ => by simp [sameA]
  | _ :: _, [] => by simp [sameA]
  | d :: ds, e :: es => by
    simp only [sameA, sameL, sameA_eq ds es, List.length_cons, List.all_cons, id]
    by_cases h : ds.length = es.length
    · simp [h]
    · simp [h]
end Kd

set_option Elab.async false
set_option linter.all false
set_option maxRecDepth 100000
set_option maxHeartbeats 4000000
namespace Kc
open PySem PySem.Spec PyProof.Rows L2 Kg Kd
/-! ### the text -/
def topS (i : Nat) : Stmt := PySem.Challenge.pw_kindstocome_k16_places_reached.main.body.getD i (.Pass ⟨0, 0, 0, 0⟩)
abbrev sDeck : Stmt := topS 30
abbrev sNext : Stmt := topS 31
abbrev nDeck : List Str := ["_law_script", "_law_cells", "_law_number"]
theorem scDeck : FnScope nDeck ["_law_script"] (defScope sDeck) := ⟨rfl, rfl, rfl, by decide +kernel, rfl, by decide +kernel, by decide +kernel⟩
theorem scNext : FnScope ["_law_deck_here", "_law_many", "_law_rest", "_law_turn", "_law_number", "_law_mixed"] ["_law_deck_here", "_law_many"] (defScope sNext) := ⟨rfl, rfl, rfl, by decide +kernel, rfl, by decide +kernel, by decide +kernel⟩
/-! ### heaps -/
/-- what a draw changes -/
def dk (d la : Addr) : Addr → Prop := fun a => a = d ∨ a = la
/-- a deck at d: its two lists at la and lb, its turn; b more draws may be made -/
structure DeckAt (H : Hp) (d la lb : Addr) (b : Nat) : Prop where
  ex : ∃ (xs ys : List Int) (t : Int), H d = some (.lst [.ref la, .ref lb, .int t]) ∧ H la = some (.lst (xs.map V.int)) ∧ H lb = some (.lst (ys.map V.int)) ∧ ys ≠ [] ∧ ys.length ≤ 100 ∧ 0 ≤ t ∧ t + b ≤ 1152921504606846976
  n1 : d ≠ la
  n2 : d ≠ lb
  n3 : la ≠ lb
theorem DeckAt.less {H : Hp} {d la lb : Addr} {b c : Nat} (D : DeckAt H d la lb b) (h : c ≤ b) : DeckAt H d la lb c := by
  obtain ⟨⟨xs, ys, t, h1, h2, h3, h4, h5, h6, h7⟩, n1, n2, n3⟩ := D
  exact ⟨⟨xs, ys, t, h1, h2, h3, h4, h5, h6, by omega⟩, n1, n2, n3⟩
theorem DeckAt.same {H H' : Hp} {d la lb : Addr} {b : Nat} (D : DeckAt H d la lb b) (h : Same H H') : DeckAt H' d la lb b := by
  obtain ⟨⟨xs, ys, t, h1, h2, h3, h4⟩, n1, n2, n3⟩ := D
  exact ⟨⟨xs, ys, t, h _ _ h1, h _ _ h2, h _ _ h3, h4⟩, n1, n2, n3⟩
theorem DeckAt.tracked {H : Hp} {d la lb : Addr} {b : Nat} (D : DeckAt H d la lb b) : H d ≠ none ∧ H la ≠ none ∧ H lb ≠ none := by
  obtain ⟨⟨xs, ys, t, h1, h2, h3, h4⟩, n1, n2, n3⟩ := D
  exact ⟨by rw [h1]; simp, by rw [h2]; simp, by rw [h3]; simp⟩
/-! ### promises -/
def spDeck (K : PySem.W.Frag) : Sp := fun vs H Q _ => ∃ (a : Addr) (ns : List Int), vs = [.ref a] ∧ SqL K H a (ns.map V.int) ∧ ns.length ≤ 63 ∧
  ∀ H' d la lb, Same H H' → H d = none → H la = none → H lb = none → DeckAt H' d la lb 1152921504606846976 → Q (.ref d) H'
def spNext : Sp := fun vs H Q _ => ∃ (d la lb : Addr) (m : Int) (b : Nat), vs = [.ref d, .int m] ∧ 0 < m ∧ m < 1073741824 ∧ DeckAt H d la lb (b + 1) ∧
  ∀ (v : Int) H', 0 ≤ v → v < m → DeckAt H' d la lb b → Keep (dk d la) H H' → Q (.int v) H'
theorem tk_map {α β : Type} {f : α → β} {l : List α} {i : Nat} {x : α} (h : l[i]? = some x) : (l.take (i + 1)).map f = (l.take i).map f ++ [f x] := by
  rw [List.take_add_one, h, List.map_append]; rfl
theorem map_get {α β : Type} {f : α → β} {l : List α} {i : Nat} {y : β} (h : (l.map f)[i]? = some y) : ∃ x, l[i]? = some x ∧ y = f x := by
  rw [List.getElem?_map] at h
  cases e : l[i]? with
  | none => rw [e] at h; cases h
  | some x => rw [e] at h; exact ⟨x, rfl, (Option.some.inj h).symm⟩
theorem ab_of (n : Int) : 0 ≤ (if n < 0 then -n else n) := by split <;> omega
section
variable {P : Program} {w : World} {K : PySem.W.Frag} {mg : Str → Option Value} {base : Heap}
theorem ok_deck {f : Addr} {fd : FuncData} {k : Nat} (F : Fun K "_law_deck" "_law_deck" sDeck f fd) (ma : mg "abs" = none) (ml : mg "len" = none) : FnOk P w K mg base CX0 (k + 1) f fd ["_law_script"] (spDeck K) := by
  refine F.ok scDeck (fun vs H Q E h => ?_) (fun cdv A outer s H vs Q E hr h => ?_)
  · obtain ⟨a, ns, rfl, _⟩ := h
    rfl
  · obtain ⟨a, ns, rfl, hS, hlen, q⟩ := h
    refine ⟨_, pss_cons (ps_setLc (i := 1) (own := [("_law_number", 2)]) (g := gName 2) rfl scDeck.nd rfl rfl (sw_true rfl rfl rfl (by decide +kernel)) (pi_list (pv 0))
        (blkOk_by (N := nDeck) (sc := defScope sDeck) (by decide +kernel)) (fun _ _ _ _ _ => pg_name (i := 2) scDeck.nd rfl (Or.inl rfl)) (fun _ _ _ _ _ => pts_nil)
        (fun _ _ _ _ _ => pe_callB call_abs (by rfl) ma boot_abs (pa_cons (pv 2) pa_nil)))
      (pss_one (ps_ret (pe_lst (pa_cons (pe_lc (own := [("_law_number", 2)]) (g := gName 2) rfl scDeck.nd (pi_list (pv 1)) (blkOk_by (N := nDeck) (sc := defScope sDeck) (by decide +kernel))
          (fun _ _ _ _ _ => pg_name (i := 2) scDeck.nd rfl (Or.inl rfl)) (fun _ _ _ _ _ => pts_one (pt_cmpR op_ge (pv 2) (pe_op op_pow pe_int pe_int) (nomark _))) (fun _ _ _ _ _ => pv 2))
        (pa_cons (pe_op op_cat (pv 1) (pe_lst (pa_cons (pe_op op_add (pe_callB call_len_seq (by rfl) ml PySem.boot_len (pa_cons (pv 1) pa_nil)) pe_int) pa_nil)))
        (pa_cons pe_int pa_nil)))))), ?_⟩
    -- the cells
    refine ⟨.ref a, rfl, a, rfl, ⟨_, hS⟩, fun D nD => ?_⟩
    refine lc_list (K := K) (a := a) (xs := ns.map V.int) (fun i H1 => Same H H1 ∧ H1 D = some (.lst ((ns.take i).map fun n => V.int (if n < 0 then -n else n)))) ⟨same_new nD, upd_same⟩ (fun i H1 _ p => p.1.seq hS) (fun i x H1 hx p => ?_) (fun H1 p => ?_)
    · obtain ⟨n, hn, rfl⟩ := map_get hx
      refine ⟨rfl, _, rfl, n, rfl, _, p.2, ?_, ?_, ?_⟩
      · rw [List.length_map, List.length_take]
        exact Nat.lt_of_le_of_lt (Nat.min_le_right _ _) (small1000 (by omega))
      · exact fun b o e => by rw [upd_ne (ne_of_none e nD)]; exact p.1 b o e
      · rw [upd_same, tk_map hn]
    · obtain ⟨s1, hD⟩ := p
      rw [List.length_map, List.take_length] at hD
      have hD' : H1 D = some (.lst ((ns.map fun n => if n < 0 then -n else n).map V.int)) := by rw [hD, List.map_map]; rfl
      generalize hc : (ns.map fun n : Int => if n < 0 then -n else n) = cs at hD'
      have hcl : cs.length = ns.length := by rw [← hc, List.length_map]
      -- the great ones
      refine ⟨.ref D, rfl, D, rfl, ⟨_, SqL.of hD'⟩, fun G nG => ?_⟩
      refine lc_list (K := K) (a := D) (xs := cs.map V.int) (fun i H2 => ∃ gs : List Int, gs.length ≤ i ∧ Same H1 H2 ∧ H2 G = some (.lst (gs.map V.int))) ⟨[], Nat.le_refl _, same_new nG, upd_same⟩ (fun i H2 _ p => by obtain ⟨_, _, p, _⟩ := p; exact p.seq (SqL.of hD')) (fun i x H2 hx p => ?_) (fun H2 p => ?_)
      · obtain ⟨gs, hg, s2, hG⟩ := p
        obtain ⟨n, hn, rfl⟩ := map_get hx
        have hi : i < cs.length := (List.getElem?_eq_some_iff.mp hn).1
        refine ⟨rfl, _, rfl, 10, 18, rfl, rfl, ⟨by decide, by decide, by decide⟩, n, _, rfl, rfl, _, rfl, ite2 (fun _ => ?_) (fun _ => ?_)⟩
        · refine ⟨_, rfl, _, hG, ?_, gs ++ [n], ?_, ?_, ?_⟩
          · rw [List.length_map]
            exact small1000 (by omega)
          · rw [List.length_append, List.length_singleton]; omega
          · exact fun b o e => by rw [upd_ne (ne_of_none e nG)]; exact s2 b o e
          · rw [upd_same, List.map_append]; rfl
        · exact ⟨gs, by omega, s2, hG⟩
      · obtain ⟨gs, hg, s2, hG⟩ := p
        rw [List.length_map] at hg
        have hD2 := s2 _ _ hD'
        -- the cells and one more
        refine ⟨.ref D, rfl, .ref D, rfl, D, _, rfl, .inl (SqL.of hD2), _, 5, rfl, rfl, ?_, fun l nl => ?_⟩
        · exact (show 1 ≤ sizeLine by decide)
        · have s3 : Same H2 (upd H2 l (.lst [.int (((cs.map V.int).length : Nat) + 5)])) := same_new nl
          refine ⟨D, l, _, _, rfl, rfl, s3 _ _ hD2, upd_same, ?_, fun c nc => ?_⟩
          · rw [List.length_map, List.length_singleton]
            exact Nat.le_of_lt (small1000 (by omega))
          · have s4 := same_new (o := HO.lst (cs.map V.int ++ [V.int (((cs.map V.int).length : Nat) + 5)])) nc
            refine ⟨(show 3 ≤ sizeLine by decide), fun d nd => ?_⟩
            have s5 := same_new (o := HO.lst [V.ref G, V.ref c, V.int 0]) nd
            have hG4 := s4 _ _ (s3 _ _ hG)
            refine q _ d G c (s1.trans (s2.trans (s3.trans (s4.trans s5)))) ?_ ?_ ?_ ⟨⟨gs, cs ++ [(cs.length : Int) + 5], 0, upd_same, ?_, ?_, ?_, ?_, ?_, ?_⟩, ?_, ?_, ?_⟩
            · exact (s1.trans (s2.trans (s3.trans s4))).free nd
            · exact s1.free nG
            · exact (s1.trans (s2.trans s3)).free nc
            · exact s5 _ _ hG4
            · rw [s5 _ _ upd_same, List.map_append, List.length_map]; rfl
            · intro z
              have := congrArg List.length z
              rw [List.length_append] at this
              simp at this
            · rw [List.length_append, List.length_singleton]; omega
            · exact Int.le_refl 0
            · show (0 : Int) + ((1152921504606846976 : Nat) : Int) ≤ 1152921504606846976
              decide
            · exact fun z => by rw [z, hG4] at nd; cases nd
            · exact fun z => by rw [z, upd_same] at nd; cases nd
            · exact fun z => by rw [← z, s3 _ _ hG] at nc; cases nc
end
end Kc

set_option Elab.async false
set_option linter.all false
set_option maxRecDepth 100000
set_option maxHeartbeats 4000000
namespace Kc
open PySem PySem.Spec PyProof.Rows L2 Kg Kd
section
variable {P : Program} {w : World} {K : PySem.W.Frag} {mg : Str → Option Value} {base : Heap}
theorem dp_ints {K : PySem.W.Frag} {H : Hp} : ∀ xs : List Int, DpAll K H (xs.map V.int) (xs.map PyData.int)
  | [] => .nil
  | x :: r => .cons (.int x) (dp_ints r)
theorem lay_ints : ∀ xs : List Int, PyData.canLayAll0 (xs.map PyData.int) = true
  | [] => rfl
  | x :: r => by
    show (PyData.canLay0 (.int x) && PyData.canLayAll0 (r.map PyData.int)) = true
    rw [lay_ints r]; rfl
theorem dep_ints : ∀ xs : List Int, PyData.depthAll (xs.map PyData.int) = 0
  | [] => rfl
  | x :: r => by
    show max (PyData.depth (.int x)) (PyData.depthAll (r.map PyData.int)) = 0
    rw [dep_ints r]; rfl
theorem shaped_ints (xs : List Int) : SeqAt.shaped (.list (xs.map PyData.int)) = true := by
  unfold SeqAt.shaped
  rw [Bool.and_eq_true]
  refine ⟨?_, decide_eq_true ?_⟩
  · show PyData.canLayAll0 (xs.map PyData.int) = true
    exact lay_ints xs
  · show PyData.depthAll (xs.map PyData.int) + 1 ≤ 64
    rw [dep_ints]; decide
theorem eqv_nil (xs : List Int) : PyData.eqv (.list (xs.map PyData.int)) (.list []) = xs.isEmpty := by
  cases xs with
  | nil => simp [PyData.eqv, PyData.eqvAll]
  | cons x r => simp [PyData.eqv, PyData.eqvAll]
theorem ok_next {f : Addr} {fd : FuncData} {k : Nat} (F : Fun K "_law_next" "_law_next" sNext f fd) (mi : mg "int" = none) (ml : mg "len" = none) : FnOk P w K mg base CX0 (k + 1) f fd ["_law_deck_here", "_law_many"] spNext := by
  refine F.ok scNext (fun vs H Q E h => ?_) (fun cdv A outer s H vs Q E hr h => ?_)
  · obtain ⟨d, la, lb, m, b, rfl, _⟩ := h
    rfl
  · obtain ⟨d, la, lb, m, b, rfl, hm0, hm1, D, q⟩ := h
    refine ⟨_, pss_cons (ps_while PassesOwn.never (pt_cmpR (op_neD hr.units) (pe_ix ix_list (pv 0) pe_int (fun _ _ => rfl)) (pe_lst pa_nil) (nomark _))
        (pss_cons (ps_set (i := 2) scNext.nd rfl (.inl rfl) (pe_ix ix_list (pe_ix ix_list (pv 0) pe_int (fun _ _ => rfl)) pe_int (fun _ _ => rfl)))
        (pss_cons (ps_if (pt_cmpR op_gt (pv 2) pe_int (nomark _))
            (pss_cons (ps_asg (pe_op op_fdivN (pv 2) (pv 1)) (pg_sub (pe_ix ix_list (pv 0) pe_int (fun _ _ => rfl)) pe_int set_list))
            (pss_one (ps_ret (pe_op op_mod (pe_callTy call_int1 (by rfl) mi PyProof.Rows.boot_int (pa_cons (pv 2) pa_nil)) (pv 1))))) pss_nil)
        (pss_one (ps_expr (pe_bm PySem.F.plainAttrs_list PySem.F.slot_list_pop PySem.F.type_list_pop mt_popAt (pe_ix ix_list (pv 0) pe_int (fun _ _ => rfl)) (pa_cons pe_int pa_nil)))))))
      (pss_cons (ps_asg (pe_op op_add (pe_ix ix_list (pv 0) pe_int (fun _ _ => rfl)) pe_int) (pg_sub (pv 0) pe_int set_list))
      (pss_cons (ps_set (i := 3) scNext.nd rfl (.inl rfl) (pe_ix ix_list (pv 0) pe_int (fun _ _ => rfl)))
      (pss_cons (ps_set (i := 4) scNext.nd rfl (.inl rfl) (pe_op op_mod (pe_callTy call_int1 (by rfl) mi PyProof.Rows.boot_int
          (pa_cons (pe_ix ix_list (pe_ix ix_list (pv 0) pe_int (fun _ _ => rfl)) (pe_op op_mod (pe_callTy call_int1 (by rfl) mi PyProof.Rows.boot_int (pa_cons (pv 3) pa_nil))
            (pe_callB call_len_seq (by rfl) ml PySem.boot_len (pa_cons (pe_ix ix_list (pv 0) pe_int (fun _ _ => rfl)) pa_nil))) (fun _ _ => rfl)) pa_nil)) pe_int))
      (pss_cons (ps_set (i := 5) scNext.nd rfl (.inl rfl) (pe_op op_mod (pe_callTy call_int1 (by rfl) mi PyProof.Rows.boot_int
          (pa_cons (pe_op op_add (pe_op op_add (pe_op op_mul (pv 4) (pe_op op_add pe_int (pe_op op_mul pe_int (pv 3)))) (pe_op op_mul (pe_op op_mul pe_int (pv 3)) (pv 3))) pe_int) pa_nil)) pe_int))
      (pss_one (ps_ret (pe_op op_mod (pe_op op_fdiv (pe_op op_mod (pe_callTy call_int1 (by rfl) mi PyProof.Rows.boot_int (pa_cons (pe_op op_mul (pv 5) (pv 5)) pa_nil)) pe_int) pe_int) (pv 1)))))))), ?_⟩
    obtain ⟨⟨xs, ys, t, h1, h2, h3, hy, hyl, ht0, ht⟩, n1, n2, n3⟩ := D
    refine ⟨fun n σ H1 => ∃ (xs : List Int) (y2 : Option V), n = xs.length ∧ σ = [some (.ref d), some (.int m), y2, none, none, none] ∧ H1 d = some (.lst [.ref la, .ref lb, .int t]) ∧ H1 la = some (.lst (xs.map V.int)) ∧ H1 lb = some (.lst (ys.map V.int)) ∧ Keep (dk d la) H H1,
      ⟨_, xs, none, rfl, rfl, h1, h2, h3, Keep.refl _ _⟩, ?_⟩
    rintro n σ H1 ⟨xs, y2, rfl, rfl, g1, g2, g3, kp⟩
    -- the test
    refine ⟨_, rfl, d, _, 0, .ref la, rfl, rfl, SqL.of g1, atI_nat (j := 0) rfl, (show 0 ≤ sizeLine by decide), fun e ne => ?_⟩
    have s1 : Same H1 (upd H1 e (.lst [])) := same_new ne
    have g1' := s1 _ _ g1
    have g2' := s1 _ _ g2
    have g3' := s1 _ _ g3
    refine ⟨.list (xs.map PyData.int), .list [], .lst (SqL.of g2') (dp_ints xs), .lst (SqL.of upd_same) .nil, shaped_ints xs, by decide +kernel, _, rfl, ?_⟩
    rw [eqv_nil]
    have kp' : Keep (dk d la) H (upd H1 e (.lst [])) := kp.trans (Keep.of_same s1)
    generalize (upd H1 e (.lst [])) = H2 at g1' g2' g3' kp'
    cases xs with
    | cons x r =>
      refine iteT ⟨fun σ' H' => ∃ (y2 : Option V), σ' = [some (.ref d), some (.int m), y2, none, none, none] ∧ H' d = some (.lst [.ref la, .ref lb, .int t]) ∧ H' la = some (.lst (r.map V.int)) ∧ H' lb = some (.lst (ys.map V.int)) ∧ Keep (dk d la) H H',
        fun σ' H' ⟨y2, e1, e2, e3, e4, e5⟩ => ⟨r.length, Nat.lt_succ_self _, r, y2, rfl, e1, e2, e3, e4, e5⟩, ?_⟩
      -- rest
      refine ⟨_, rfl, d, _, 0, .ref la, rfl, rfl, SqL.of g1', atI_nat (j := 0) rfl, la, _, 0, .int x, rfl, rfl, SqL.of g2', atI_nat (j := 0) rfl, ?_⟩
      refine ⟨_, rfl, x, 0, rfl, rfl, _, rfl, ite2 (fun hx => ?_) (fun hx => ?_)⟩
      · have hx' : 0 < x := of_decide_eq_true hx
        refine ⟨_, rfl, _, rfl, x, m, rfl, rfl, ⟨by omega, by omega⟩, _, rfl, d, _, 0, .ref la, rfl, rfl, SqL.of g1', atI_nat (j := 0) rfl, la, _, 0, 0, rfl, rfl, g2', by simp [ixN], ?_⟩
        refine ⟨_, rfl, .inl ⟨x, rfl, _, rfl, x, m, rfl, rfl, hm0, ?_⟩⟩
        refine q _ _ (Int.emod_nonneg _ (by omega)) (Int.emod_lt_of_pos _ hm0) ⟨⟨x.fdiv m :: r, ys, t, ?_, ?_, ?_, hy, hyl, ht0, by omega⟩, n1, n2, n3⟩ (kp'.trans (Keep.put (by simp [dk])))
        · rw [upd_ne n1]; exact g1'
        · rw [upd_same]; rfl
        · rw [upd_ne n3.symm]; exact g3'
      · refine ⟨_, rfl, d, _, 0, .ref la, rfl, rfl, SqL.of g1', atI_nat (j := 0) rfl, .inl ⟨rfl, _, SqL.of g2'⟩, la, _, 0, 0, .int x, rfl, rfl, g2', by decide, by decide, by simp [seqIndex?], rfl, ?_⟩
        refine ⟨_, rfl, ?_, ?_, ?_, kp'.trans (Keep.put (by simp [dk]))⟩
        · rw [upd_ne n1]; exact g1'
        · rw [upd_same]; rfl
        · rw [upd_ne n3.symm]; exact g3'
    | nil =>
      refine iteF ?_
      -- the turn goes on
      refine ⟨_, rfl, d, _, 2, .int t, rfl, rfl, SqL.of g1', atI_nat (j := 2) rfl, t, 1, rfl, rfl, _, rfl, d, _, 2, 2, rfl, rfl, g1', by simp [ixN], ?_⟩
      have kp3 : Keep (dk d la) H (upd H2 d (.lst [.ref la, .ref lb, .int (t + 1)])) := kp'.trans (Keep.put (by simp [dk]))
      have e1 : (upd H2 d (.lst [.ref la, .ref lb, .int (t + 1)])) d = some (.lst [.ref la, .ref lb, .int (t + 1)]) := upd_same
      have e2 : (upd H2 d (.lst [.ref la, .ref lb, .int (t + 1)])) la = some (.lst (([] : List Int).map V.int)) := by rw [upd_ne n1.symm]; exact g2'
      have e3 : (upd H2 d (.lst [.ref la, .ref lb, .int (t + 1)])) lb = some (.lst (ys.map V.int)) := by rw [upd_ne n2.symm]; exact g3'
      generalize hH : (upd H2 d (.lst [.ref la, .ref lb, .int (t + 1)])) = H3 at kp3 e1 e2 e3
      have hH' : (upd H2 d (.lst (([.ref la, .ref lb, .int t] : List V).set 2 (.int (t + 1))))) = H3 := hH
      rw [hH']
      refine ⟨_, rfl, d, _, 2, .int (t + 1), rfl, rfl, SqL.of e1, atI_nat (j := 2) rfl, ?_⟩
      have hpos : 0 < ys.length := by
        cases ys with
        | nil => exact absurd rfl hy
        | cons y r => simp
      have hj : ((t + 1) % (ys.length : Int)).toNat < ys.length := by
        have z1 := Int.emod_lt_of_pos (t + 1) (show (0 : Int) < ys.length by omega)
        have z2 := Int.emod_nonneg (t + 1) (show (ys.length : Int) ≠ 0 by omega)
        omega
      refine ⟨_, rfl, d, _, 1, .ref lb, rfl, rfl, SqL.of e1, atI_nat (j := 1) rfl, _, rfl, .inl ⟨t + 1, rfl, _, rfl, d, _, 1, .ref lb, rfl, rfl, SqL.of e1, atI_nat (j := 1) rfl, lb, _, rfl, .inl (SqL.of e3), t + 1, _, rfl, rfl, ?_,
        lb, _, _, .int ys[((t + 1) % (ys.length : Int)).toNat], rfl, rfl, SqL.of e3, ?_, .inl ⟨_, rfl, _, 2147483629, rfl, rfl, (by show (0 : Int) < 2147483629; decide), ?_⟩⟩⟩
      · rw [List.length_map]; omega
      · have z2 := Int.emod_nonneg (t + 1) (show (ys.length : Int) ≠ 0 by omega)
        rw [List.length_map]
        exact at_of (j := ((t + 1) % (ys.length : Int)).toNat) (by omega) (by rw [List.getElem?_map, List.getElem?_eq_getElem hj]; rfl)
      generalize ys[((t + 1) % (ys.length : Int)).toNat] = y0
      have b1 := Int.emod_nonneg y0 (show (2147483629 : Int) ≠ 0 by decide)
      have b2 := Int.emod_lt_of_pos y0 (show (0 : Int) < 2147483629 by decide)
      obtain ⟨nu, enu, b1, b2⟩ : ∃ nu : Int, (fun i j : Int => V.int (i % j)) y0 2147483629 = V.int nu ∧ 0 ≤ nu ∧ nu < 2147483629 := ⟨_, rfl, b1, b2⟩
      rw [enu]
      refine ⟨_, rfl, _, rfl, 68111, t + 1, rfl, rfl, .inl ⟨by decide, by decide⟩, 50331, _, rfl, rfl, nu, _, rfl, rfl, .inl ⟨by omega, by omega⟩, _, rfl, 41287, t + 1, rfl, rfl, .inl ⟨by decide, by decide⟩, _, rfl, _, t + 1, rfl, rfl, .inr ⟨by omega, by omega⟩, _, _, rfl, rfl, _, 19, rfl, rfl, .inl ⟨_, rfl, _, 2147483587, rfl, rfl, (by show (0 : Int) < 2147483587; decide), ?_⟩⟩
      generalize nu * (50331 + 68111 * (t + 1)) + 41287 * (t + 1) * (t + 1) + 19 = big
      have c1 := Int.emod_nonneg big (show (2147483587 : Int) ≠ 0 by decide)
      have c2 := Int.emod_lt_of_pos big (show (0 : Int) < 2147483587 by decide)
      obtain ⟨mi', emi, c1, c2⟩ : ∃ nu : Int, (fun i j : Int => V.int (i % j)) big 2147483587 = V.int nu ∧ 0 ≤ nu ∧ nu < 2147483587 := ⟨_, rfl, c1, c2⟩
      rw [emi]
      refine ⟨_, rfl, _, rfl, mi', mi', rfl, rfl, .inl ⟨by omega, by omega⟩, .inl ⟨_, rfl, _, 2147483579, rfl, rfl, (by show (0 : Int) < 2147483579; decide), _, 16, rfl, rfl, ⟨by decide, by decide⟩, _, rfl, _, m, rfl, rfl, hm0, ?_⟩⟩
      exact q _ _ (Int.emod_nonneg _ (by omega)) (Int.emod_lt_of_pos _ hm0) ⟨⟨[], ys, t + 1, e1, e2, e3, hy, hyl, by omega, by omega⟩, n1, n2, n3⟩ kp3
end
end Kc

set_option Elab.async false
set_option linter.all false
set_option maxRecDepth 100000
set_option maxHeartbeats 4000000
namespace Kc
open PySem PySem.Spec PyProof.Rows L2 Kg Kd
abbrev sSame : Stmt := topS 32
abbrev nSame : List Str := ["_law_found", "_law_due", "_law_one", "_law_other"]
theorem scSame : FnScope nSame ["_law_found", "_law_due"] (defScope sSame) := ⟨rfl, rfl, rfl, by decide +kernel, rfl, by decide +kernel, by decide +kernel⟩
/-- the built-in names that the laws use are the built-ins -/
structure Bl (mg : Str → Option Value) : Prop where
  abs : mg "abs" = none
  len : mg "len" = none
  int : mg "int" = none
  isi : mg "isinstance" = none
  tuple : mg "tuple" = none
  list : mg "list" = none
  str : mg "str" = none
  bool : mg "bool" = none
  dict : mg "dict" = none
  zip : mg "zip" = none
  all : mg "all" = none
  repr : mg "repr" = none
  range : mg "range" = none
def spSame (n : Nat) : Sp := fun vs H Q _ => ∃ (x y : V) (d e : PyData), vs = [x, y] ∧ Da Kd.nil H x d ∧ Da Kd.nil H y e ∧ e.depth < n ∧ ∀ H', Same H H' → Q (.bl (sameD d e)) H'
theorem dep_mem : ∀ {es : List PyData} {i : Nat} {e : PyData}, es[i]? = some e → e.depth ≤ PyData.depthAll es
  | [], i, e, h => by simp at h
  | a :: es, 0, e, h => by
    simp at h
    rw [← h]
    show a.depth ≤ max a.depth (PyData.depthAll es)
    omega
  | a :: es, i + 1, e, h => by
    have z := dep_mem (es := es) (i := i) (e := e) (by simpa using h)
    show e.depth ≤ max a.depth (PyData.depthAll es)
    omega
section
variable {P : Program} {w : World} {K : PySem.W.Frag} {mg : Str → Option Value} {base : Heap}
theorem ok_same1 {f : Addr} {fd : FuncData} {n : Nat} (F : Fun K "_law_same" "_law_same" sSame f fd) (B : Bl mg) (bS : Binds K fd ["_law_found", "_law_due"] []) (gS : mg "_law_same" = some (.ref f))
    (G : FnG P w K mg base n f fd ["_law_found", "_law_due"] (spSame n)) : FnG P w K mg base (n + 1) f fd ["_law_found", "_law_due"] (spSame (n + 1)) := by
  refine okG F scSame (fun vs H Q E h => ?_) (fun cdv A out s H vs Q hgu hr h => ?_)
  · obtain ⟨x, y, d, e, rfl, _⟩ := h
    rfl
  · obtain ⟨x, y, d, e, rfl, hx, hy, hn, q⟩ := h
    refine ⟨_, pss_cons (ps_if (pt_val (pe_callB call_isiT (by rfl) B.isi boot_isinstance (pa_cons (pv 1) (pa_cons (pe_tup (pa_cons (pe_bltn (v := .ty "tuple") (by rfl) B.tuple PyProof.Rows.boot_tuple rfl) (pa_cons (pe_bltn (v := .ty "list") (by rfl) B.list PyProof.Rows.boot_list rfl) pa_nil))) pa_nil))))
        (pss_cons (ps_if (PW.pt (pw_or (pt_cmpR op_ne (pe_callB call_isi (by rfl) B.isi boot_isinstance (pa_cons (pv 1) (pa_cons (pe_bltn (v := .ty "tuple") (by rfl) B.tuple PyProof.Rows.boot_tuple rfl) pa_nil))) (pe_callB call_isi (by rfl) B.isi boot_isinstance (pa_cons (pv 0) (pa_cons (pe_bltn (v := .ty "tuple") (by rfl) B.tuple PyProof.Rows.boot_tuple rfl) pa_nil))) (nomark _))
            (pw_or1 (pt_cmpR op_ne (pe_callB call_isi (by rfl) B.isi boot_isinstance (pa_cons (pv 1) (pa_cons (pe_bltn (v := .ty "list") (by rfl) B.list PyProof.Rows.boot_list rfl) pa_nil))) (pe_callB call_isi (by rfl) B.isi boot_isinstance (pa_cons (pv 0) (pa_cons (pe_bltn (v := .ty "list") (by rfl) B.list PyProof.Rows.boot_list rfl) pa_nil))) (nomark _)))))
          (pss_one (ps_ret pe_bl)) pss_nil)
        (pss_one (ps_ret (pe_and (pe_cmpR op_eq (pe_callB call_len_seq (by rfl) B.len PySem.boot_len (pa_cons (pv 0) pa_nil)) (pe_callB call_len_seq (by rfl) B.len PySem.boot_len (pa_cons (pv 1) pa_nil)) (nomark _))
          (pe_one (pe_callB (cr_all rfl) (by rfl) B.all boot_all (pa_cons (pe_lc (own := [("_law_one", 2), ("_law_other", 3)]) (g := gTup K 2 (gCons (gName 2) (gCons (gName 3) gNil))) rfl scSame.nd (RZ.pi_zipA (by rfl) B.zip (pa_cons (pv 0) (pa_cons (pv 1) pa_nil))) (blkOk_by (N := nSame) (sc := defScope sSame) (by decide +kernel))
            (fun _ _ _ _ _ => pg_tup rfl (pgs_cons (pg_name (i := 2) scSame.nd rfl (.inl rfl)) (pgs_cons (pg_name (i := 3) scSame.nd rfl (.inl rfl)) pgs_nil))) (fun _ _ _ _ _ => pts_nil)
            (fun _ _ _ _ _ => pe_callG G hgu hr (by rfl) gS F.kp bS (pa_cons (pv 2) (pa_cons (pv 3) pa_nil)))) pa_nil)))))))
        pss_nil)
      (pss_cons (ps_if (pt_cmpR op_isN (pv 1) pe_non (nomark _)) (pss_one (ps_ret (pe_cmpR op_isN (pv 0) pe_non (nomark _)))) pss_nil)
      (pss_cons (ps_if (pt_val (pe_callB call_isi (by rfl) B.isi boot_isinstance (pa_cons (pv 1) (pa_cons (pe_bltn (v := .ty "str") (by rfl) B.str PyProof.Rows.boot_str rfl) pa_nil))))
        (pss_one (ps_ret (pe_and (pe_callB call_isi (by rfl) B.isi boot_isinstance (pa_cons (pv 0) (pa_cons (pe_bltn (v := .ty "str") (by rfl) B.str PyProof.Rows.boot_str rfl) pa_nil))) (pe_one (pe_cmpR op_eq (pv 0) (pv 1) (nomark _)))))) pss_nil)
      (pss_cons (ps_if (PW.pt (pw_or (pt_val (pe_callB call_isi (by rfl) B.isi boot_isinstance (pa_cons (pv 1) (pa_cons (pe_bltn (v := .ty "bool") (by rfl) B.bool PyProof.Rows.boot_bool rfl) pa_nil)))) (pw_or1 (pt_val (pe_callB call_isi (by rfl) B.isi boot_isinstance (pa_cons (pv 0) (pa_cons (pe_bltn (v := .ty "bool") (by rfl) B.bool PyProof.Rows.boot_bool rfl) pa_nil)))))))
        (pss_one (ps_ret (pe_and (pe_callB call_isi (by rfl) B.isi boot_isinstance (pa_cons (pv 0) (pa_cons (pe_bltn (v := .ty "bool") (by rfl) B.bool PyProof.Rows.boot_bool rfl) pa_nil))) (pe_and (pe_callB call_isi (by rfl) B.isi boot_isinstance (pa_cons (pv 1) (pa_cons (pe_bltn (v := .ty "bool") (by rfl) B.bool PyProof.Rows.boot_bool rfl) pa_nil))) (pe_one (pe_cmpR op_eq (pv 0) (pv 1) (nomark _))))))) pss_nil)
      (pss_cons (ps_if (pt_val (pe_callB call_isi (by rfl) B.isi boot_isinstance (pa_cons (pv 1) (pa_cons (pe_bltn (v := .ty "int") (by rfl) B.int PyProof.Rows.boot_int rfl) pa_nil))))
        (pss_one (ps_ret (pe_and (pe_callB call_isi (by rfl) B.isi boot_isinstance (pa_cons (pv 0) (pa_cons (pe_bltn (v := .ty "int") (by rfl) B.int PyProof.Rows.boot_int rfl) pa_nil))) (pe_one (pe_cmpR op_eq (pv 0) (pv 1) (nomark _)))))) pss_nil)
      (pss_one (ps_ret (pe_and (pe_callB call_isi (by rfl) B.isi boot_isinstance (pa_cons (pv 1) (pa_cons (pe_bltn (v := .ty "dict") (by rfl) B.dict PyProof.Rows.boot_dict rfl) pa_nil))) (pe_and (pe_callB call_isi (by rfl) B.isi boot_isinstance (pa_cons (pv 0) (pa_cons (pe_bltn (v := .ty "dict") (by rfl) B.dict PyProof.Rows.boot_dict rfl) pa_nil)))
        (pe_one (pe_cmpR op_eq (pe_callB (call_reprD hgu hr.units) (by rfl) B.repr PyProof.Rows.boot_repr (pa_cons (pv 0) pa_nil)) (pe_callB (call_reprD hgu hr.units) (by rfl) B.repr PyProof.Rows.boot_repr (pa_cons (pv 1) pa_nil)) (nomark _))))))))))), ?_⟩
    refine ⟨y, rfl, (show 2 ≤ sizeLine by decide), fun tp ntp => ?_⟩
    have s1 : Same H (upd H tp (.tup [.ty "tuple", .ty "list"])) := same_new ntp
    have hx1 := hx.same s1
    have hy1 := hy.same s1
    refine ⟨y, tp, _, _, _, isSeq e, rfl, upd_same, .cons (.ty _) (.cons (.ty _) .nil), hy1.ty, kt_seq e, _, rfl, ?_⟩
    generalize upd H tp (.tup [.ty "tuple", .ty "list"]) = H1 at s1 hx1 hy1 ⊢
    have q1 : ∀ H', Same H1 H' → Q (.bl (sameD d e)) H' := fun H' z => q H' (s1.trans z)
    clear q hx hy s1
    have r1 := Same.refl H1
    cases e with
    | none =>
      refine iteF ⟨_, rfl, rfl, _, rfl, ?_⟩
      rw [hy1.non_iff]
      refine iteT ⟨_, rfl, rfl, ?_⟩
      rw [hx1.non_iff]
      cases d <;> exact q1 _ r1
    | str z =>
      refine iteF ⟨_, rfl, rfl, _, rfl, ?_⟩
      rw [hy1.non_iff]
      refine iteF ⟨_, rfl, _, _, _, _, true, rfl, .ty _, hy1.ty, kit_ty (kt_str _), _, rfl, iteT ?_⟩
      refine ⟨_, rfl, _, _, _, _, isStr d, rfl, .ty _, hx1.ty, kit_ty (kt_str _), _, rfl, ?_⟩
      cases hx1 with
      | str z2 =>
        cases hy1
        refine iteT ⟨_, rfl, _, rfl, rfl, ?_⟩
        have e1 : decide (V.str z2 = V.str z) = decide (z2 = z) := by
          by_cases h : z2 = z
          · rw [h]; simp
          · rw [decide_eq_false h, decide_eq_false (fun c => h (V.str.inj c))]
        rw [e1]
        exact q1 _ r1
      | _ => exact iteF (q1 _ r1)
    | bool z =>
      refine iteF ⟨_, rfl, rfl, _, rfl, ?_⟩
      rw [hy1.non_iff]
      refine iteF ⟨_, rfl, _, _, _, _, false, rfl, .ty _, hy1.ty, kit_ty (kt_str _), _, rfl, iteF ?_⟩
      refine ⟨_, rfl, _, _, _, _, true, rfl, .ty _, hy1.ty, kit_ty (kt_bool _), _, rfl, iteT (iteT ?_)⟩
      refine ⟨_, rfl, _, _, _, _, isBool d, rfl, .ty _, hx1.ty, kit_ty (kt_bool _), _, rfl, ?_⟩
      cases hx1 with
      | bl z2 =>
        refine iteT ⟨_, rfl, _, _, _, _, true, rfl, .ty _, hy1.ty, kit_ty (kt_bool _), _, rfl, iteT ?_⟩
        cases hy1
        refine ⟨_, rfl, _, rfl, rfl, ?_⟩
        have e1 : decide (V.bl z2 = V.bl z) = decide (z2 = z) := by
          by_cases h : z2 = z
          · rw [h]; simp
          · rw [decide_eq_false h, decide_eq_false (fun c => h (V.bl.inj c))]
        rw [e1]
        exact q1 _ r1
      | _ => exact iteF (q1 _ r1)
    | int z =>
      refine iteF ⟨_, rfl, rfl, _, rfl, ?_⟩
      rw [hy1.non_iff]
      refine iteF ⟨_, rfl, _, _, _, _, false, rfl, .ty _, hy1.ty, kit_ty (kt_str _), _, rfl, iteF ?_⟩
      refine ⟨_, rfl, _, _, _, _, false, rfl, .ty _, hy1.ty, kit_ty (kt_bool _), _, rfl, iteF ?_⟩
      refine ⟨_, rfl, _, _, _, _, isBool d, rfl, .ty _, hx1.ty, kit_ty (kt_bool _), _, rfl, ?_⟩
      cases hx1 with
      | bl z2 =>
        refine iteT ⟨_, rfl, _, _, _, _, true, rfl, .ty _, Da.ty (Da.bl (av := Kd.nil) z2), kit_ty (kt_bool (.bool z2)), _, rfl, iteT ?_⟩
        exact ⟨_, rfl, _, _, _, _, false, rfl, .ty _, hy1.ty, kit_ty (kt_bool _), _, rfl, iteF (q1 _ r1)⟩
      | int z2 =>
        refine iteF ⟨_, rfl, _, _, _, _, true, rfl, .ty _, hy1.ty, kit_ty (kt_int _), _, rfl, iteT ?_⟩
        refine ⟨_, rfl, _, _, _, _, true, rfl, .ty _, Da.ty (Da.int (av := Kd.nil) z2), kit_ty (kt_int (.int z2)), _, rfl, iteT ?_⟩
        cases hy1
        refine ⟨_, rfl, _, rfl, rfl, ?_⟩
        have e1 : decide (V.int z2 = V.int z) = decide (z2 = z) := by
          by_cases h : z2 = z
          · rw [h]; simp
          · rw [decide_eq_false h, decide_eq_false (fun c => h (V.int.inj c))]
        rw [e1]
        exact q1 _ r1
      | non => exact iteF ⟨_, rfl, _, _, _, _, true, rfl, .ty _, hy1.ty, kit_ty (kt_int _), _, rfl, iteT ⟨_, rfl, _, _, _, _, false, rfl, .ty _, Da.ty (Da.non (av := Kd.nil)), kit_ty (kt_int .none), _, rfl, iteF (q1 _ r1)⟩⟩
      | str z2 => exact iteF ⟨_, rfl, _, _, _, _, true, rfl, .ty _, hy1.ty, kit_ty (kt_int _), _, rfl, iteT ⟨_, rfl, _, _, _, _, false, rfl, .ty _, Da.ty (Da.str (av := Kd.nil) z2), kit_ty (kt_int (.str z2)), _, rfl, iteF (q1 _ r1)⟩⟩
      | lst a1 a2 a3 a4 => exact iteF ⟨_, rfl, _, _, _, _, true, rfl, .ty _, hy1.ty, kit_ty (kt_int _), _, rfl, iteT ⟨_, rfl, _, _, _, _, false, rfl, .ty _, Da.ty (Da.lst a1 a2 a3 a4), kit_ty (kt_int (.list _)), _, rfl, iteF (q1 _ r1)⟩⟩
      | tup a1 a2 a3 a4 => exact iteF ⟨_, rfl, _, _, _, _, true, rfl, .ty _, hy1.ty, kit_ty (kt_int _), _, rfl, iteT ⟨_, rfl, _, _, _, _, false, rfl, .ty _, Da.ty (Da.tup a1 a2 a3 a4), kit_ty (kt_int (.tuple _)), _, rfl, iteF (q1 _ r1)⟩⟩
      | dc0 a1 a2 => exact iteF ⟨_, rfl, _, _, _, _, true, rfl, .ty _, hy1.ty, kit_ty (kt_int _), _, rfl, iteT ⟨_, rfl, _, _, _, _, false, rfl, .ty _, Da.ty (Da.dc0 a1 a2), kit_ty (kt_int (.dict _)), _, rfl, iteF (q1 _ r1)⟩⟩
      | dc1 a1 a2 => exact iteF ⟨_, rfl, _, _, _, _, true, rfl, .ty _, hy1.ty, kit_ty (kt_int _), _, rfl, iteT ⟨_, rfl, _, _, _, _, false, rfl, .ty _, Da.ty (Da.dc1 a1 a2), kit_ty (kt_int (.dict _)), _, rfl, iteF (q1 _ r1)⟩⟩
    | dict z =>
      refine iteF ⟨_, rfl, rfl, _, rfl, ?_⟩
      rw [hy1.non_iff]
      refine iteF ⟨_, rfl, _, _, _, _, false, rfl, .ty _, hy1.ty, kit_ty (kt_str _), _, rfl, iteF ?_⟩
      refine ⟨_, rfl, _, _, _, _, false, rfl, .ty _, hy1.ty, kit_ty (kt_bool _), _, rfl, iteF ?_⟩
      refine ⟨_, rfl, _, _, _, _, isBool d, rfl, .ty _, hx1.ty, kit_ty (kt_bool _), _, rfl, ?_⟩
      by_cases hb : isBool d = true
      · cases d with
        | bool z2 => exact iteT ⟨_, rfl, _, _, _, _, true, rfl, .ty _, hx1.ty, kit_ty (kt_bool (.bool z2)), _, rfl, iteT ⟨_, rfl, _, _, _, _, false, rfl, .ty _, hy1.ty, kit_ty (kt_bool _), _, rfl, iteF (q1 _ r1)⟩⟩
        | _ => exact nomatch hb
      · rw [Bool.not_eq_true] at hb
        rw [hb]
        refine iteF ⟨_, rfl, _, _, _, _, false, rfl, .ty _, hy1.ty, kit_ty (kt_int _), _, rfl, iteF ?_⟩
        refine ⟨_, rfl, _, _, _, _, true, rfl, .ty _, hy1.ty, kit_ty (kt_dct _), _, rfl, iteT ?_⟩
        refine ⟨_, rfl, _, _, _, _, isDct d, rfl, .ty _, hx1.ty, kit_ty (kt_dct _), _, rfl, ?_⟩
        cases d with
        | dict z2 =>
          refine iteT ⟨_, rfl, Kd.nil, _, _, rfl, hx1, _, rfl, Kd.nil, _, _, rfl, hy1, rfl, ?_⟩
          have e1 : decide (V.str (PyData.dict z2).shown = V.str (PyData.dict z).shown) = sameD (.dict z2) (.dict z) := by
            show _ = decide ((PyData.dict z2).shown = (PyData.dict z).shown)
            by_cases h : (PyData.dict z2).shown = (PyData.dict z).shown
            · rw [h]; simp
            · rw [decide_eq_false h, decide_eq_false (fun c => h (V.str.inj c))]
          rw [e1]
          exact q1 _ r1
        | _ => exact iteF (q1 _ r1)
    | tuple es =>
      refine iteT ⟨_, rfl, _, _, _, _, true, rfl, .ty _, hy1.ty, kit_ty (kt_tup _), _, rfl, _, _, _, _, isTup d, rfl, .ty _, hx1.ty, kit_ty (kt_tup _), rfl, _, rfl, ?_⟩
      by_cases hb : isTup d = true
      · cases d with
        | tuple ds =>
          refine iteF ⟨_, rfl, _, _, _, _, false, rfl, .ty _, hy1.ty, kit_ty (kt_lst (.tuple es)), _, rfl, _, _, _, _, false, rfl, .ty _, hx1.ty, kit_ty (kt_lst (.tuple ds)), rfl, _, rfl, iteF ?_⟩
          cases hx1 with
          | @tup a xs _ na ha hal hA =>
            cases hy1 with
            | @tup b ys _ nb hb2 hbl hB =>
              refine ⟨_, rfl, a, xs, rfl, .inr (SqT.of ha), _, rfl, b, ys, rfl, .inr (SqT.of hb2), rfl, _, rfl, ?_⟩
              have l1 := hA.length
              have l2 := hB.length
              refine ite2 (fun c => ?_) (fun c => ?_)
              · have c' : xs.length = ys.length := by
                  have := V.int.inj (of_decide_eq_true c)
                  omega
                refine ⟨_, rfl, _, rfl, a, b, xs, ys, rfl, .inr ⟨SqT.of ha, SqT.of hb2, fun D nD => ?_⟩⟩
                refine lc_it (walk_zipT (n := xs.length) (by omega)) (fun i H2 => Same H1 H2 ∧ H2 D = some (.lst (((sameL ds es).take i).map V.bl))) ⟨same_new nD, upd_same⟩ (fun i H2 _ p => ⟨SqT.of (p.1 _ _ ha), SqT.of (p.1 _ _ hb2)⟩) (fun i v H2 H3 hi p yy => ?_) (fun H2 p => ?_)
                · obtain ⟨T, v1, v2, rfl, nT, rfl, f1, f2⟩ := yy
                  obtain ⟨d1, g1, k1⟩ := hA.get f1
                  obtain ⟨e1, g2, k2⟩ := hB.get f2
                  have s3 : Same H1 (upd H2 T (.tup [v1, v2])) := p.1.trans (same_new nT)
                  refine ⟨T, _, rfl, SqT.of upd_same, rfl, v1, _, rfl, v2, _, rfl, rfl, rfl, ?_⟩
                  refine ⟨_, rfl, _, rfl, v1, v2, d1, e1, rfl, k1.same s3, k2.same s3, ?_, fun H4 s4 => ⟨((sameL ds es).take i).map V.bl, ?_, ?_, ?_, ?_⟩⟩
                  · have z := dep_mem g2
                    have z2 : PyData.depthAll es + 1 < n + 1 := hn
                    omega
                  · exact s4 _ _ (same_new nT _ _ p.2)
                  · rw [List.length_map, List.length_take]
                    exact Nat.lt_of_le_of_lt (Nat.min_le_left _ _) (small1000 (by omega))
                  · exact fun bb o z => by rw [upd_ne (ne_of_none z nD)]; exact s4 _ _ (s3 _ _ z)
                  · rw [upd_same, tk_map (sameL_get ds es i d1 e1 g1 g2)]
                · have e3 : (sameL ds es).take xs.length = sameL ds es := List.take_of_length_le (by rw [sameL_len]; omega)
                  rw [e3] at p
                  refine ⟨D, _, rfl, SqL.of p.2, ?_⟩
                  have e4 : sameD (.tuple ds) (.tuple es) = (sameL ds es).all id := by
                    show sameA ds es = _
                    rw [sameA_eq, decide_eq_true (show ds.length = es.length by omega)]
                    exact Bool.true_and _
                  rw [← e4]
                  exact q1 _ p.1
              · have c' : ds.length ≠ es.length := fun z => c (decide_eq_true (congrArg V.int (by omega)))
                have e4 : sameD (.tuple ds) (.tuple es) = false := by
                  show sameA ds es = _
                  rw [sameA_eq, decide_eq_false c']
                  exact Bool.false_and _
                rw [← e4]
                exact q1 _ r1
        | _ => exact nomatch hb
      · rw [Bool.not_eq_true] at hb
        rw [hb]
        refine iteT (iteT ?_)
        have e4 : sameD d (.tuple es) = false := by
          cases d with
          | tuple ds => exact nomatch hb
          | _ => rfl
        rw [← e4]
        exact q1 _ r1
    | list es =>
      refine iteT ⟨_, rfl, _, _, _, _, false, rfl, .ty _, hy1.ty, kit_ty (kt_tup _), _, rfl, _, _, _, _, isTup d, rfl, .ty _, hx1.ty, kit_ty (kt_tup _), rfl, _, rfl, ?_⟩
      by_cases hb : isLst d = true
      · cases d with
        | list ds =>
          refine iteF ⟨_, rfl, _, _, _, _, true, rfl, .ty _, hy1.ty, kit_ty (kt_lst (.list es)), _, rfl, _, _, _, _, true, rfl, .ty _, hx1.ty, kit_ty (kt_lst (.list ds)), rfl, _, rfl, iteF ?_⟩
          cases hx1 with
          | @lst a xs _ na ha hal hA =>
            cases hy1 with
            | @lst b ys _ nb hb2 hbl hB =>
              refine ⟨_, rfl, a, xs, rfl, .inl (SqL.of ha), _, rfl, b, ys, rfl, .inl (SqL.of hb2), rfl, _, rfl, ?_⟩
              have l1 := hA.length
              have l2 := hB.length
              refine ite2 (fun c => ?_) (fun c => ?_)
              · have c' : xs.length = ys.length := by
                  have := V.int.inj (of_decide_eq_true c)
                  omega
                refine ⟨_, rfl, _, rfl, a, b, xs, ys, rfl, .inl ⟨SqL.of ha, SqL.of hb2, fun D nD => ?_⟩⟩
                refine lc_it (walk_zip (n := xs.length) (xs := xs) (ys := ys) (by omega)) (fun i H2 => Same H1 H2 ∧ H2 D = some (.lst (((sameL ds es).take i).map V.bl))) ⟨same_new nD, upd_same⟩ (fun i H2 _ p => ⟨SqL.of (p.1 _ _ ha), SqL.of (p.1 _ _ hb2)⟩) (fun i v H2 H3 hi p yy => ?_) (fun H2 p => ?_)
                · obtain ⟨T, v1, v2, rfl, nT, rfl, f1, f2⟩ := yy
                  obtain ⟨d1, g1, k1⟩ := hA.get f1
                  obtain ⟨e1, g2, k2⟩ := hB.get f2
                  have s3 : Same H1 (upd H2 T (.tup [v1, v2])) := p.1.trans (same_new nT)
                  refine ⟨T, _, rfl, SqT.of upd_same, rfl, v1, _, rfl, v2, _, rfl, rfl, rfl, ?_⟩
                  refine ⟨_, rfl, _, rfl, v1, v2, d1, e1, rfl, k1.same s3, k2.same s3, ?_, fun H4 s4 => ⟨((sameL ds es).take i).map V.bl, ?_, ?_, ?_, ?_⟩⟩
                  · have z := dep_mem g2
                    have z2 : PyData.depthAll es + 1 < n + 1 := hn
                    omega
                  · exact s4 _ _ (same_new nT _ _ p.2)
                  · rw [List.length_map, List.length_take]
                    exact Nat.lt_of_le_of_lt (Nat.min_le_left _ _) (small1000 (by omega))
                  · exact fun bb o z => by rw [upd_ne (ne_of_none z nD)]; exact s4 _ _ (s3 _ _ z)
                  · rw [upd_same, tk_map (sameL_get ds es i d1 e1 g1 g2)]
                · have e3 : (sameL ds es).take xs.length = sameL ds es := List.take_of_length_le (by rw [sameL_len]; omega)
                  rw [e3] at p
                  refine ⟨D, _, rfl, SqL.of p.2, ?_⟩
                  have e4 : sameD (.list ds) (.list es) = (sameL ds es).all id := by
                    show sameA ds es = _
                    rw [sameA_eq, decide_eq_true (show ds.length = es.length by omega)]
                    exact Bool.true_and _
                  rw [← e4]
                  exact q1 _ p.1
              · have c' : ds.length ≠ es.length := fun z => c (decide_eq_true (congrArg V.int (by omega)))
                have e4 : sameD (.list ds) (.list es) = false := by
                  show sameA ds es = _
                  rw [sameA_eq, decide_eq_false c']
                  exact Bool.false_and _
                rw [← e4]
                exact q1 _ r1
        | _ => exact nomatch hb
      · rw [Bool.not_eq_true] at hb
        have e4 : sameD d (.list es) = false := by
          cases d with
          | list ds => exact nomatch hb
          | _ => rfl
        rw [e4] at q1
        by_cases ht : isTup d = true
        · rw [ht]
          exact iteT (iteT (q1 _ r1))
        · rw [Bool.not_eq_true] at ht
          rw [ht]
          refine iteF ⟨_, rfl, _, _, _, _, true, rfl, .ty _, hy1.ty, kit_ty (kt_lst (.list es)), _, rfl, _, _, _, _, isLst d, rfl, .ty _, hx1.ty, kit_ty (kt_lst _), rfl, _, rfl, ?_⟩
          rw [hb]
          exact iteT (q1 _ r1)
theorem ok_same {f : Addr} {fd : FuncData} (F : Fun K "_law_same" "_law_same" sSame f fd) (B : Bl mg) (bS : Binds K fd ["_law_found", "_law_due"] []) (gS : mg "_law_same" = some (.ref f)) :
    ∀ n : Nat, FnG P w K mg base n f fd ["_law_found", "_law_due"] (spSame n)
  | 0 => ⟨fun vs H Q E h => by obtain ⟨x, y, d, e, _, _, _, z, _⟩ := h; exact absurd z (Nat.not_lt_zero _), fun A out s H ar us vs Q _ _ _ _ _ h => by obtain ⟨x, y, d, e, _, _, _, z, _⟩ := h; exact absurd z (Nat.not_lt_zero _)⟩
  | n + 1 => ok_same1 F B bS gS (ok_same F B bS gS n)
end
end Kc

set_option Elab.async false
set_option linter.all false
set_option maxRecDepth 100000
set_option maxHeartbeats 4000000
/-! Displays of data: an expression that makes a datum anew. -/
namespace Kd
open PySem PySem.Spec PyProof.Rows L2 Kg
def trk (H : Hp) : Addr → Prop := fun a => H a ≠ none
theorem trk_mono {H H' : Hp} (s : Same H H') : ∀ a, trk H a → trk H' a := fun a h z => h (s.free z)
theorem Keep.free {ds : Addr → Prop} {H H' : Hp} (k : Keep ds H H') (d : ∀ a, ds a → H' a ≠ none) {a : Addr} (h : H' a = none) : H a = none := by
  cases q : H a with
  | none => rfl
  | some o =>
    by_cases z : ds a
    · exact absurd h (d a z)
    · rw [k a o q z] at h; exact nomatch h
theorem pe_imp {X : Cx} {e : Expr} {t t' : TE} (h : PE X e t) (i : ∀ σ H Q, t' σ H Q → t σ H Q) : PE X e t' := ⟨fun pins s σ H Q I z => h.run pins s σ H Q I (i σ H Q z)⟩
theorem pa_imp {X : Cx} {es : List Expr} {t t' : TA} (h : PA X es t) (i : ∀ σ H Q, t' σ H Q → t σ H Q) : PA X es t' := ⟨fun pos pins s σ H Q I z => h.run pos pins s σ H Q I (i σ H Q z)⟩
/-- a datum, made anew -/
def tDat (d : PyData) : TE := fun _ H Q => ∀ v H', Same H H' → Da (trk H) H' v d → Q v H'
def tDats (ds : List PyData) : TA := fun _ H Q => ∀ vs H', Same H H' → DaAll (trk H) H' vs ds → Q vs H'
section
variable {X : Cx}
theorem pd_non {j pos} : PE X (.Constant .none j pos) (tDat .none) := pe_imp pe_non fun _ H _ z => z _ H (Same.refl H) .non
theorem pd_bl {b : Bool} {j pos} : PE X (.Constant (.bool b) j pos) (tDat (.bool b)) := pe_imp pe_bl fun _ H _ z => z _ H (Same.refl H) (.bl b)
theorem pd_int {i : Int} {j pos} : PE X (.Constant (.int i) j pos) (tDat (.int i)) := pe_imp pe_int fun _ H _ z => z _ H (Same.refl H) (.int i)
theorem pd_str {x : Str} {j pos} : PE X (.Constant (.str x) j pos) (tDat (.str x)) := pe_imp pe_str fun _ H _ z => z _ H (Same.refl H) (.str x)
theorem pd_neg {i : Int} {j p pos} : PE X (.UnaryOp .USub (.Constant (.int i) j p) pos) (tDat (.int (-i))) := pe_imp (pe_un un_neg pe_int) fun _ H _ z => ⟨i, rfl, z _ H (Same.refl H) (.int (-i))⟩
theorem pd_pow {a b : Int} {j p j2 p2 pos} (h : CPow a b) : PE X (.BinOp (.Constant (.int a) j p) .Pow (.Constant (.int b) j2 p2) pos) (tDat (.int (a ^ b.toNat))) := pe_imp (pe_op op_pow pe_int pe_int) fun _ H _ z => ⟨a, b, rfl, rfl, h, z _ H (Same.refl H) (.int (a ^ b.toNat))⟩
theorem pds_nil : PA X [] (tDats []) := pa_imp pa_nil fun _ H _ z => z _ H (Same.refl H) .nil
theorem pds_cons {e : Expr} {es : List Expr} {d : PyData} {ds : List PyData} (h : PE X e (tDat d)) (r : PA X es (tDats ds)) (hs : starEach (e :: es) X.env = (false, eval e X.env) :: starEach es X.env := by rfl) : PA X (e :: es) (tDats (d :: ds)) :=
  pa_imp (pa_cons h r hs) fun _ H _ z v H1 s1 hv vs H2 s2 hvs => z _ H2 (s1.trans s2) (.cons (hv.same s2) (hvs.sub (trk_mono s1)))
theorem pd_tup {es : List Expr} {ds : List PyData} {x1} {pos : Pos} (h : PA X es (tDats ds)) (hl : ds.length ≤ 1000 := by decide) : PE X (.Tuple es x1 pos) (tDat (.tuple ds)) :=
  pe_imp (pe_tup h) fun _ H _ z vs H1 s1 hvs => ⟨by rw [hvs.length]; exact Nat.le_of_lt (small1000 hl), fun p np => z _ _ (s1.trans (same_new np)) (.tup (fun c => c (s1.free np)) upd_same (by rw [hvs.length]; exact hl) (hvs.keep (.of_same (same_new np))))⟩
theorem pd_lst {es : List Expr} {ds : List PyData} {pos : Pos} (h : PA X es (tDats ds)) (hl : ds.length ≤ 1000 := by decide) : PE X (.List es pos) (tDat (.list ds)) :=
  pe_imp (pe_lst h) fun _ H _ z vs H1 s1 hvs => ⟨by rw [hvs.length]; exact Nat.le_of_lt (small1000 hl), fun p np => z _ _ (s1.trans (same_new np)) (.lst (fun c => c (s1.free np)) upd_same (by rw [hvs.length]; exact hl) (hvs.keep (.of_same (same_new np))))⟩
theorem pd_d0 {pos : Pos} : PE X (.Dict [] [] pos) (tDat (.dict [])) := pe_imp pe_dnewK fun _ H _ z p np => z _ _ (same_new np) (.dc0 (fun c => c np) upd_same)
theorem pd_d1 {j p j2 p2 pos} : PE X (.Dict [some (.Constant (.int 0) j p)] [.Constant (.int 1) j2 p2] pos) (tDat (.dict [(.int 0, .int 1)])) := by
  refine pe_imp (pe_disp (pps_cons pe_int pe_int pps_nil) (by rfl) (by rfl) (fun z => by cases z) (show 1 ≤ 15 by decide)) fun σ H Q z p np => ?_
  refine ⟨upd_same, [(Sum.inl 0, V.int 1)], rfl, by decide, ?_⟩
  refine z _ _ (fun b o e => ?_) (.dc1 (fun c => c np) (upd_same.trans ?_))
  · rw [upd_ne (ne_of_none e np), upd_ne (ne_of_none e np)]; exact e
  · rfl
end
/-! ### what is tracked stands apart from what is not -/
mutual
theorem Da.apart {av bv : Addr → Prop} {H : Hp} (k : ∀ a, bv a → H a = none) : ∀ {v : V} {d : PyData}, Da av H v d → Da bv H v d
  | _, _, .non => .non
  | _, _, .bl b => .bl b
  | _, _, .int i => .int i
  | _, _, .str x => .str x
  | _, _, .lst _ h l r => .lst (fun z => nomatch (k _ z).symm.trans h) h l (DaAll.apart k r)
  | _, _, .tup _ h l r => .tup (fun z => nomatch (k _ z).symm.trans h) h l (DaAll.apart k r)
  | _, _, .dc0 _ h => .dc0 (fun z => nomatch (k _ z).symm.trans h) h
  | _, _, .dc1 _ h => .dc1 (fun z => nomatch (k _ z).symm.trans h) h
theorem DaAll.apart {av bv : Addr → Prop} {H : Hp} (k : ∀ a, bv a → H a = none) : ∀ {vs : List V} {ds : List PyData}, DaAll av H vs ds → DaAll bv H vs ds
  | _, _, .nil => .nil
  | _, _, .cons h r => .cons (Da.apart k h) (DaAll.apart k r)
end
/-! ### displays that lean on something that stays -/
def Stays (pre : L2.St → Hp → Prop) : Prop := ∀ σ H H', Same H H' → pre σ H → pre σ H'
def tDatP (pre : L2.St → Hp → Prop) (d : PyData) : TE := fun σ H Q => pre σ H ∧ ∀ v H', Same H H' → Da (trk H) H' v d → Q v H'
def tDatsP (pre : L2.St → Hp → Prop) (ds : List PyData) : TA := fun σ H Q => pre σ H ∧ ∀ vs H', Same H H' → DaAll (trk H) H' vs ds → Q vs H'
section
variable {X : Cx} {pre : L2.St → Hp → Prop}
theorem pdp_of {e : Expr} {d : PyData} (h : PE X e (tDat d)) : PE X e (tDatP pre d) := pe_imp h fun _ _ _ z => z.2
theorem pdps_nil : PA X [] (tDatsP pre []) := pa_imp pds_nil fun _ _ _ z => z.2
theorem pdps_cons {e : Expr} {es : List Expr} {d : PyData} {ds : List PyData} (st : Stays pre) (h : PE X e (tDatP pre d)) (r : PA X es (tDatsP pre ds)) (hs : starEach (e :: es) X.env = (false, eval e X.env) :: starEach es X.env := by rfl) : PA X (e :: es) (tDatsP pre (d :: ds)) :=
  pa_imp (pa_cons h r hs) fun σ H _ z => ⟨z.1, fun v H1 s1 hv => ⟨st σ H H1 s1 z.1, fun vs H2 s2 hvs => z.2 _ H2 (s1.trans s2) (.cons (hv.same s2) (hvs.sub (trk_mono s1)))⟩⟩
theorem pdp_tup {es : List Expr} {ds : List PyData} {x1} {pos : Pos} (h : PA X es (tDatsP pre ds)) (hl : ds.length ≤ 1000 := by first | decide | simp) : PE X (.Tuple es x1 pos) (tDatP pre (.tuple ds)) :=
  pe_imp (pe_tup h) fun _ H _ z => ⟨z.1, fun vs H1 s1 hvs => ⟨by rw [hvs.length]; exact Nat.le_of_lt (small1000 hl), fun p np => z.2 _ _ (s1.trans (same_new np)) (.tup (fun c => c (s1.free np)) upd_same (by rw [hvs.length]; exact hl) (hvs.keep (.of_same (same_new np))))⟩⟩
theorem pdp_lst {es : List Expr} {ds : List PyData} {pos : Pos} (h : PA X es (tDatsP pre ds)) (hl : ds.length ≤ 1000 := by first | decide | simp) : PE X (.List es pos) (tDatP pre (.list ds)) :=
  pe_imp (pe_lst h) fun _ H _ z => ⟨z.1, fun vs H1 s1 hvs => ⟨by rw [hvs.length]; exact Nat.le_of_lt (small1000 hl), fun p np => z.2 _ _ (s1.trans (same_new np)) (.lst (fun c => c (s1.free np)) upd_same (by rw [hvs.length]; exact hl) (hvs.keep (.of_same (same_new np))))⟩⟩
end
end Kd

set_option Elab.async false
set_option linter.all false
set_option maxRecDepth 100000
set_option maxHeartbeats 4000000
/-! Further rules: enumerate of a tuple, extend by a tuple, set of a list of ints. -/
namespace Kr
open PySem PySem.Spec PyProof.Rows L2 Kg Kd
/-! ### xs.extend(t), t a tuple -/
theorem ext_tup (l b : Addr) (xs ys : Array Value) (n m : Nat) (dd : Option Addr) (sl : Array (Option Value)) (c0 : ¬(!xs.isEmpty && Builtin.List.listTooLong (xs.size + ys.size)) = true) (c1 : xs.size ≤ sizeLine) (c2 : xs.size + ys.size ≤ sizeLine + 1) :
    Meets (Builtin.«list.extend» ⟨[.ref l, .ref b], []⟩) (fun _ R s => s.heap.get? l = some { cls := .type "list", dict := none, data := .seq xs n, slots := #[] } ∧ s.heap.get? b = some ⟨.type "tuple", dd, .seq ys m, sl⟩ ∧
      R (.ok (.ret Value.none)) { s with heap := s.heap.update l (Obj.mapSeq fun x => x ++ ys), toks := s.toks }) := by
  refine .of_wp fun prog w A R s z => ?_
  obtain ⟨h0, g, d, tk, os⟩ := s
  obtain ⟨zl, zb, z⟩ := z
  have f1 := AutoSeq1.idx_int
  have f2 := AutoSeq1.sub_tuple_tuple
  have f3 := AutoSeq1.sub_list_list
  have f4 := AutoSeq1.sub_tuple_list
  have f5 := AutoSeq1.sub_list_tuple
  have big : (xs ++ ys).size ≤ sizeLine + 1 := by rw [Array.size_append]; exact c2
  wp_walk using (wpAny_updateSeq zl rfl (hz := c1) (_hz' := big)), wpAny_loadPart' zl, wpAny_loadPart' zb
  exact ⟨_, rfl, z⟩
section
variable {X : Cx}
def rExtT (K : PySem.W.Frag) : V → List V → Hp → VK → Prop := fun x vs H Q => ∃ l b xs zs, x = .ref l ∧ vs = [.ref b] ∧ H l = some (.lst xs) ∧ SqT K H b zs ∧ xs.length + zs.length ≤ sizeLine ∧ Q .non (upd H l (.lst (xs ++ zs)))
theorem mt_extT : MtM X "list.extend" (rExtT X.K) := by
  intro pins s σ H x vs v us Q I rx rv h
  obtain ⟨l, b, xs, zs, rfl, rfl, hH, hB, hz, q⟩ := h
  cases rx
  obtain ⟨u, rfl, ru⟩ := rv.one
  cases ru
  obtain ⟨z, its, n, r, hl, e⟩ := I.lstM hH
  obtain ⟨its2, r2, ⟨ob, e2, c2, m, d2⟩, z2⟩ := I.tuple hB
  obtain ⟨oc, od, dt, sl⟩ := ob
  have c2' : oc = .type "tuple" := c2
  have d2' : dt = .seq its2.toArray m := d2
  subst c2' d2'
  have l2 := r2.length
  have fit : its.toArray.size + its2.toArray.size ≤ sizeLine := by rw [List.size_toArray, List.size_toArray]; omega
  refine call_meets F.slot_list_extend ⟨_, e, rfl⟩ F.entry_list_extend (F.args_list_extend_2 _ _) (ext_tup l b its.toArray its2.toArray n m od sl (by rw [notLongL fit, Bool.and_false]; exact Bool.false_ne_true) (by rw [List.size_toArray]; omega) (by omega)) ⟨e, e2, ?_⟩
  exact ⟨.non, _, I.lset (its' := its ++ its2) hH e (by simp) (r.append r2) (by rw [List.length_append]; exact hz), rfl, q⟩
end
/-! ### enumerate(t), t a tuple -/
theorem enum_new {v : Value} {o : Obj} {H : Heap → Prop} (B : Begins v o H) :
    Meets (Builtin.«enumerate.__new__» ⟨[.type "enumerate", v], []⟩) (fun _ R s => H s.heap ∧
      R (.ok (.ret (.ref (s.heap.push o).objs.size))) { s with heap := (s.heap.push o).push { cls := .type "enumerate", data := .fields #[.none, .bool false, .ref s.heap.objs.size, rawInt 0, .none, .none] } }) := by
  refine .of_wp fun prog w A R s z => ?_
  obtain ⟨h0, g, d, tk, os⟩ := s
  obtain ⟨z1, z⟩ := z
  have hsub := sub_enumerate
  have it : ∀ {A' : Around} {E : Value → Shared → Prop} {Q : Value → Shared → Prop}, Q (.ref h0.objs.size) ⟨h0.push o, g, d, tk, os⟩ → wpAny (model prog w) A' (pyIter v) Q E ⟨h0, g, d, tk, os⟩ := fun q => B.iter prog w _ _ ⟨h0, g, d, tk, os⟩ _ z1 q
  wp_walk using it
  refine wpAny_stack_any fun st => wpAny_pure ?_
  split
  · rename_i c _ _ _ _ _
    cases (c == Value.type "enumerate")
    · (wp_walk using it); exact ⟨_, rfl, z⟩
    · (wp_walk using it); exact ⟨_, rfl, z⟩
  · (wp_walk using it); exact ⟨_, rfl, z⟩
theorem call_enumT {prog : Program} {w : World} {A : Around} {E : Value → Shared → Prop} {s : Shared} {t : Addr} {items : Array Value} {Q : Value → Shared → Prop} (ht : s.heap.IsTuple t items)
    (h : ∀ h', IsEnum h' (s.heap.objs.size + 1) s.heap.objs.size 0 .none → h'.IsTupleIter s.heap.objs.size t 0 → h'.objs.size = s.heap.objs.size + 2 → (∀ b o, s.heap.get? b = some o → h'.get? b = some o) → Q (.ref (s.heap.objs.size + 1)) { s with heap := h' }) :
    wpAny (model prog w) A (call (.type "enumerate") [.ref t]) Q E s := by
  refine callType_new F.called_enumerate (by decide) (F.typeCall_enumerate_1 _) (F.newCall_enumerate_1 _) (fun obj => F.args_object_init_2 obj _) F.entry_enumerate_new (enum_new (begins_tuple t items)) ⟨ht, ?_⟩
  have sz : (s.heap.push { cls := .type "tuple_iterator", data := .fields #[.ref t, .int 0 0] }).objs.size = s.heap.objs.size + 1 := Heap.size_push ..
  show _ ∧ _
  rw [sz]
  have at1 := Heap.get?_push_size (s.heap.push { cls := .type "tuple_iterator", data := .fields #[.ref t, .int 0 0] }) (o := { cls := .type "enumerate", data := .fields #[.none, .bool false, .ref s.heap.objs.size, rawInt 0, .none, .none] }) rfl
  rw [sz] at at1
  exact ⟨⟨_, at1, rfl⟩, h _ at1 ⟨_, Heap.get?_push_of_some _ (Heap.get?_push_size _ rfl), rfl, rfl⟩ (by rw [Heap.size_push, sz]) fun b o z => Heap.get?_push_of_some _ (Heap.get?_push_of_some _ z)⟩
/-- the tuple at a, each item in a new pair -/
def IteT (K : PySem.W.Frag) (a : Addr) : It where
  go := fun i H => ∃ (xs : List V) (x : V), SqT K H a xs ∧ xs[i]? = some x
  yld := fun i H v H' => ∃ T x, v = .ref T ∧ H T = none ∧ H' = upd H T (.tup [.int (i : Nat), x]) ∧ ∀ xs, SqT K H a xs → xs[i]? = some x
  stop := fun i H => ∃ xs : List V, SqT K H a xs ∧ xs.length = i
theorem turn_enumT {P : Program} {w : World} {K : PySem.W.Frag} {elts : List Expr} {kk : Nat} {tp : Pos} (a e it : Addr) (hae : a ≠ e) (hai : a ≠ it) (hei : e ≠ it) :
    Turn P w K (.Tuple elts kk tp) (IteT K a) [e, it] e (fun i h => (∃ old, IsEnum h e it ((i : Nat) : Int) old) ∧ h.IsTupleIter it a i) where
  mem := by simp
  obj := fun i h st b hb => by
    obtain ⟨⟨old, z1⟩, ⟨o, z2, z3, z4⟩⟩ := st
    cases hb with
    | head => exact ⟨_, z1, fun v q => nomatch q⟩
    | tail _ hb =>
      rw [List.mem_singleton.mp hb]
      exact ⟨o, z2, fun v q => by rw [z4] at q; exact nomatch q⟩
  keep := fun i h h' st k => by
    obtain ⟨⟨old, z1⟩, z2⟩ := st
    exact ⟨⟨old, k e (by simp) _ z1⟩, z2.at fun o q => k it (by simp) o q⟩
  item := by
    intro X e1 e2 e3 hc i pins s σ H E I hf st hg
    subst e1 e2 e3
    obtain ⟨⟨old, z1⟩, z2⟩ := st
    obtain ⟨xs, x, hq, hx⟩ := hg
    obtain ⟨its, rv, p, _⟩ := I.tuple hq
    obtain ⟨u, hu, ru⟩ := rv.get hx
    have lt : i < its.toArray.size := by
      rw [List.size_toArray, ← rv.length]
      exact (List.getElem?_eq_some_iff.mp hx).1
    have le : e < s.heap.objs.size := Heap.lt_size z1
    have li : it < s.heap.objs.size := by
      obtain ⟨_, z, _⟩ := z2
      exact Heap.lt_size z
    have D := Draws.tuple (prog := X.prog) (w := X.w) (A := X.A.in1) (I.ok.hd hc) it a hai its.toArray
    refine wpAny_pyNext_enum_itemD D z1 ⟨z2, p⟩ lt hei (by simp [hei, hae.symm]) fun x' h' tk px out st' new sz k => ?_
    have ex : x' = u := by
      have q : its.toArray[i]? = some u := by simpa using hu
      exact Option.some.inj (px.symm.trans q)
    subst ex
    refine ⟨_, rfl, wpAny_letOwnedTupleGo_enum (s := { s with heap := h', toks := tk + 1 }) out fun h'' z3 sb => ?_⟩
    have new2 : h''.get? s.heap.objs.size = some { cls := .type "tuple", data := .seq #[.int i tk, x'] } := (sb.2 _ (Nat.ne_of_gt le)).trans new
    have J : Inv X pins σ (upd H s.heap.objs.size (.tup [.int (i : Nat), x])) { s with heap := h'', toks := tk + 1 } :=
      I.turnedNew (ch := [e, it]) (fun b ob hb q => (sb.2 b (fun z => hb (by simp [z]))).trans (k b ob (fun z => hb (by simp [z])) (fun z => hb (by simp [z])) q)) hf (Nat.le_refl _)
        ⟨(show 2 ≤ sizeLine by decide), [.int i tk, x'], .cons ⟨_, rfl⟩ (.cons ru .nil), ⟨_, new2, rfl, _, rfl⟩⟩
    refine ⟨.ref s.heap.objs.size, _, J, rfl, ⟨_, x, rfl, I.hok.fresh (Nat.le_refl _), rfl, fun ys hy => by rw [I.tuple_inj hy hq]; exact hx⟩, ⟨⟨x', ?_⟩, st'.1.at fun o q => (sb.2 it hei.symm).trans q⟩, fun b hb => ?_⟩
    · rw [show ((i + 1 : Nat) : Int) = (i : Int) + 1 by omega]; exact z3
    · have lb : b < s.heap.objs.size := by
        cases hb with
        | head => exact le
        | tail _ hb => rw [List.mem_singleton.mp hb]; exact li
      rw [upd_ne (Nat.ne_of_lt lb)]
      exact (hf b hb).1
  done := by
    intro X e1 e2 e3 hc i pins s σ H E I hf st hg
    subst e1 e2 e3
    obtain ⟨⟨old, z1⟩, z2⟩ := st
    obtain ⟨xs, hq, hx⟩ := hg
    obtain ⟨its, rv, p, _⟩ := I.tuple hq
    have D := Draws.tuple (prog := X.prog) (w := X.w) (A := X.A.in1) (I.ok.hd hc) it a hai its.toArray
    have ei : i = its.toArray.size := by rw [List.size_toArray, ← rv.length, hx]
    rw [ei] at z2
    obtain ⟨f0, f1, f2, f3, f4, f5⟩ := hf it (by simp)
    exact wpAny_pyNext_enum_endD D z1 ⟨z2, p⟩ fun h' eb => ⟨rfl, I.turned (t' := s.toks) (fun b o hb q => eb b o hb q) f0 f1 f3 f4 f5⟩
  self := fun A i s Q E st h => by
    obtain ⟨⟨_, z⟩, _⟩ := st
    exact wpAny_pyIter_enum z h
def iEnumT (K : PySem.W.Frag) (ta : TA) : TI := fun σ H R => ta σ H fun vs H1 => ∃ a xs, vs = [.ref a] ∧ SqT K H1 a xs ∧ R (IteT K a) H1
theorem pi_enumT {X : Cx} {e : Expr} {ta : TA} {p pos tp : Pos} {elts : List Expr} {kk : Nat} (hg : Gl X "enumerate") (hm : X.mg "enumerate" = none) (ha : PA X [e] ta) (hs : starEach [e] X.env = [(false, eval e X.env)] := by rfl) :
    PI X (.Tuple elts kk tp) (.Call (.Name "enumerate" p) [e] [] pos) (iEnumT X.K ta) := by
  refine ⟨fun pins s σ H R I h => Call_ (ld_blt I hg hm boot_enumerate (PyProof.Rows.callWith_type1 (thn (ha.run pos pins s σ H _ I h) fun us s1 ⟨vs, H1, I1, r1, a, xs, ex, hq, q⟩ => ?_) hs rfl))⟩
  subst ex
  obtain ⟨u, rfl, ru⟩ := vals1 r1
  cases ru
  obtain ⟨its, rv, p', _⟩ := I1.tuple hq
  have la : a < s1.heap.objs.size := by
    obtain ⟨_, z, _⟩ := p'
    exact Heap.lt_size z
  refine call_enumT (show s1.heap.IsTuple a its.toArray from p') fun h' he hi sz k => wpAny_pyIter_enum he ?_
  refine ⟨s1.heap.objs.size + 1, [s1.heap.objs.size + 1, s1.heap.objs.size], _, _, H1, rfl, I1.kept (t' := s1.toks) k, turn_enumT a (s1.heap.objs.size + 1) s1.heap.objs.size (Nat.ne_of_lt (Nat.lt_succ_of_lt la)) (Nat.ne_of_lt la) (Nat.succ_ne_self _), ⟨⟨.none, he⟩, hi⟩, fun b hb => ?_, q⟩
  have ge : s1.heap.objs.size ≤ b := by
    cases hb with
    | head => exact Nat.le_succ _
    | tail _ hb => rw [List.mem_singleton.mp hb]; exact Nat.le_refl _
  exact I1.fpOk ge (I1.hok.fresh ge)
theorem walk_enumT {K : PySem.W.Frag} {a : Addr} {xs : List V} : Walk (IteT K a) xs.length (fun H => SqT K H a xs) (YPair (fun i => some (.int (i : Nat))) (fun i => xs[i]?)) := by
  refine ⟨fun i _ hi z => ⟨xs, xs[i], z, by simp [hi]⟩, fun _ z => ⟨xs, z, rfl⟩, fun i H v H' _ z y => ?_⟩
  obtain ⟨T, x, g1, g2, g3, g4⟩ := y
  exact ⟨T, .int (i : Nat), x, g1, g2, g3, rfl, g4 xs z⟩
end Kr

set_option Elab.async false
set_option linter.all false
set_option maxRecDepth 100000
set_option maxHeartbeats 4000000
/-! set(xs) of a list of ints. -/
namespace Kr
open PySem PySem.Spec PyProof.Rows L2 Kg Kd
abbrev emp (w : World) : Obj := { cls := .type "set", dict := none, data := .set #[] 0 (.fresh 0 0 (!w.params.followText "set-order")) }
section
variable {P : Program} {w : World} {A : Around} {E : Value → Shared → Prop} {s : Shared}
/-- the filling of the new set from a list -/
theorem set_fill {l : Addr} {items : Array Value} {ns : List Int} {R : Result → Shared → Prop} (hh : A.handled = none) (hl : s.heap.IsList l items) (hi : IntsAre items.toList ns) (hb : ns.length + 1 < scanBound)
    (h : ∀ h' tk c, SetR w h' s.heap.objs.size (fun j => decide (j ∈ ns)) c → c ≤ ns.length → (∀ b o, s.heap.get? b = some o → h'.get? b = some o) → R (.ok (.ret .none)) { s with heap := h', toks := tk }) :
    codeAny (model P w) A (.builtin "set.update.loop" ⟨[.ref s.heap.objs.size, .ref (s.heap.objs.size + 1)], []⟩) R { s with heap := (s.heap.push (emp w)).push { cls := .type "list_iterator", data := .fields #[.ref l, .int 0 0] } } := by
  have sz : items.size = ns.length := by rw [← Array.length_toList]; exact IntsAre.length hi
  obtain ⟨ol, zl, zc, nl, zd⟩ := hl
  have ll : l < s.heap.objs.size := Heap.lt_size zl
  have at1 : (s.heap.push (emp w)).get? s.heap.objs.size = some (emp w) := Heap.get?_push_size _ rfl
  have s1 : (s.heap.push (emp w)).objs.size = s.heap.objs.size + 1 := Heap.size_push ..
  have at2 := Heap.get?_push_size (s.heap.push (emp w)) (o := { cls := .type "list_iterator", data := .fields #[.ref l, .int 0 0] }) rfl
  rw [s1] at at2
  have keepL : ∀ b o, s.heap.get? b = some o → ((s.heap.push (emp w)).push { cls := .type "list_iterator", data := .fields #[.ref l, .int 0 0] }).get? b = some o := fun b o z => Heap.get?_push_of_some _ (Heap.get?_push_of_some _ z)
  have val : ∀ (i : Nat) (v : Value), items[i]? = some v → ∃ k t, ns[i]? = some k ∧ v = .int k t := by
    intro i v z
    have lt : i < ns.length := sz ▸ (Array.getElem?_eq_some_iff.mp z).1
    obtain ⟨t, e⟩ := IntsAre.int_at hi i v (by rw [Array.getElem?_toList]; exact z)
    rw [List.getD_eq_getElem?_getD, List.getElem?_eq_getElem lt] at e
    exact ⟨ns[i], t, List.getElem?_eq_getElem lt, e⟩
  have W := (Walks.list (prog := P) (w := w) (A := A.in1) hh (s.heap.objs.size + 1) l (Nat.ne_of_lt (Nat.lt_succ_of_lt ll)) items).toS
  have nS : s.heap.objs.size ∉ [s.heap.objs.size + 1, l] := by
    intro z
    rcases List.mem_cons.mp z with z | z
    · exact Nat.ne_of_lt (Nat.lt_succ_self _) z
    · exact Nat.ne_of_gt ll (List.mem_singleton.mp z)
  refine set_update_ints W s.heap.objs.size nS ns sz hb val (items.size - 0) 0 { s with heap := (s.heap.push (emp w)).push { cls := .type "list_iterator", data := .fields #[.ref l, .int 0 0] } } rfl (Nat.zero_le _)
    ⟨⟨_, at2, rfl, rfl⟩, ⟨ol, keepL l ol zl, zc, nl, zd⟩⟩ ⟨0, Nat.le_refl 0, setR_new_at (Heap.get?_push_of_some _ at1)⟩ fun s' c mv hc hS => ?_
  obtain ⟨h', g', d', t', o'⟩ := s'
  have e1 : g' = s.gens := mv.gens
  have e2 : d' = s.drawn := mv.drawn
  have e3 : o' = s.os := mv.os
  subst e1 e2 e3
  refine h h' t' c hS (by omega) fun b o z => mv.heap b o (fun y => ?_) (keepL b o z)
  have lb := Heap.lt_size z
  rcases List.mem_cons.mp y with y | y
  · exact Nat.ne_of_lt lb y
  · exact Nat.ne_of_lt (Nat.lt_succ_of_lt lb) (List.mem_singleton.mp y)
set_option maxHeartbeats 3200000 in
theorem call_setL {l : Addr} {items : Array Value} {ns : List Int} {Q : Value → Shared → Prop} (hh : A.handled = none) (hl : s.heap.IsList l items) (hi : IntsAre items.toList ns) (hb : ns.length + 1 < scanBound)
    (h : ∀ h' tk c, SetR w h' s.heap.objs.size (fun j => decide (j ∈ ns)) c → c ≤ ns.length → (∀ b o, s.heap.get? b = some o → h'.get? b = some o) → Q (.ref s.heap.objs.size) { s with heap := h', toks := tk }) :
    wpAny (model P w) A (call (.type "set") [.ref l]) Q E s := by
  obtain ⟨c0, tl, mro⟩ := F.called_set.mro
  have made := F.called_set.made
  have sub0 := F.called_set.sub
  have nt := F.called_set.notType
  have cc := F.called_set.canCreate
  have tc := F.typeCall_set_1 (.ref l)
  refine wpAny_call (codeAny_of_tree ?_)
  show wpAny _ _ (callAny (.type "set") _) _ _ _
  refine wpAny_pure ⟨Code.quiet_builtin _ (by decide +kernel), codeAny_builtin F.entry_type_call ?_⟩
  rw [Around.under_plain (weight_type_call_type "set" [.ref l] []) rfl]
  repeat (any_goals (first | assumption | wp_step))
  refine codeAny_mono (code_set_led1 (.ref l) (E := E) (Q₁ := fun ob s₁ => ob = .ref s.heap.objs.size ∧ s₁ = { s with heap := s.heap.push (emp w) }) ⟨rfl, rfl⟩) fun r s₁ hr => ?_
  match r, hr with
  | .error e, hr => exact hr
  | .ok .next, hr => exact hr.elim
  | .ok .brk, hr => exact hr.elim
  | .ok .cont, hr => exact hr.elim
  | .ok (.ret ob), hr =>
    obtain ⟨rfl, rfl⟩ := hr
    have at1 : (s.heap.push (emp w)).get? s.heap.objs.size = some (emp w) := Heap.get?_push_size _ rfl
    have ty : Shared.TypeIs { s with heap := s.heap.push (emp w) } (.ref s.heap.objs.size) "set" := ⟨_, at1, rfl⟩
    have il := F.called_set.init.lookup
    have ib := F.called_set.init.bind (.ref s.heap.objs.size)
    repeat (any_goals (first | assumption | wp_step))
    refine codeAny_mono (codeAny_call_builtin (R := wants (fun r s₂ => r = .none ∧ ∃ h' tk c, s₂ = { s with heap := h', toks := tk } ∧ SetR w h' s.heap.objs.size (fun j => decide (j ∈ ns)) c ∧ c ≤ ns.length ∧ ∀ b o, s.heap.get? b = some o → h'.get? b = some o) E)
      F.called_set.init.plain F.entry_set_init (check_set_init_1 ty ?_)) fun r₂ s₂ hr₂ => ?_
    · obtain ⟨⟨oc, od, dt, sl⟩, zl, zc, nl, zd⟩ := id hl
      have zc' : oc = .type "list" := zc
      have zd' : dt = .seq items nl := zd
      subst zc' zd'
      have zl' : (s.heap.push (emp w)).get? l = some { cls := .type "list", dict := od, data := .seq items nl, slots := sl } := Heap.get?_push_of_some _ zl
      have n1 := F.sub_list_set
      have n2 := F.sub_list_frozenset
      have n3 : (Value.type "list" == Value.type "dict") = false := by decide
      unfold Builtin.«set.__init__» noKeywords Builtin.Frozenset.updateFrom
      generalize hPI : pyIter = PI
      wp_walk
      subst hPI
      refine wpAny_pyIter_list (items := items) ⟨_, zl', rfl, nl, rfl⟩ ?_
      refine wpAny_bind (wpAny_runValue ?_)
      have e1 : (s.heap.push (emp w)).objs.size = s.heap.objs.size + 1 := Heap.size_push ..
      rw [e1]
      refine set_fill (s := s) (hh := by simp [hh]) hl hi hb fun h' tk c hS hc hk => ?_
      show wpAny _ _ _ _ _ _
      exact wpAny_pure (wpAny_pure ⟨rfl, h', tk, c, rfl, hS, hc, hk⟩)
    · match r₂, hr₂ with
      | .error e, hr₂ => exact hr₂
      | .ok .next, hr₂ => exact hr₂.elim
      | .ok .brk, hr₂ => exact hr₂.elim
      | .ok .cont, hr₂ => exact hr₂.elim
      | .ok (.ret _), hr₂ =>
        obtain ⟨rfl, h', tk, c, rfl, hS, hc, hk⟩ := hr₂
        repeat (any_goals (first | assumption | wp_step))
        exact h _ _ _ hS hc hk
end
/-- set(xs): a list or a tuple of ints -/
def rSetI (K : PySem.W.Frag) (w : World) : List V → Hp → VK → Prop := fun xs H Q => ∃ (l : Addr) (ns : List Int), xs = [.ref l] ∧ (SqL K H l (ns.map V.int) ∨ SqT K H l (ns.map V.int)) ∧ ns.length ≤ 1000 ∧
  ∀ p c, H p = none → c ≤ ns.length → Q (.ref p) (upd H p (SetO w p (fun j => decide (j ∈ ns)) c))
theorem cr_setI {X : Cx} (hc : X.calm = true) : CallR X (.type "set") (rSetI X.K X.w) := by
  intro pins s σ H xs us Q I r h
  obtain ⟨l, ns, rfl, hq, hl, q⟩ := h
  obtain ⟨u, rfl, ru⟩ := vals1 r
  cases ru
  have room : ns.length + 1 < scanBound := by unfold scanBound; omega
  have fin : ∀ (h' : Heap) (tk c : Nat), SetR X.w h' s.heap.objs.size (fun j => decide (j ∈ ns)) c → c ≤ ns.length → (∀ b o, s.heap.get? b = some o → h'.get? b = some o) → EP X pins σ Q (.ref s.heap.objs.size) { s with heap := h', toks := tk } := by
    intro h' tk c hS hc hk
    exact ⟨.ref s.heap.objs.size, _, I.laid (t' := tk) hk (Nat.le_refl _) (setO_new hS), rfl, q _ c (I.hok.fresh (Nat.le_refl _)) hc⟩
  rcases hq with hq | hq
  · obtain ⟨its, rv, p, _⟩ := I.list hq
    exact call_setL (I.ok.hd hc) p.isList (by simpa using RZ.intsAre_vals rv) room fin
  · obtain ⟨its, rv, p, _⟩ := I.tuple hq
    exact call_set_tupI ns (I.ok.hd hc) (show s.heap.IsTuple l its.toArray from p) (by simpa using RZ.intsAre_vals rv) room fin
end Kr

set_option Elab.async false
set_option linter.all false
set_option maxRecDepth 100000
set_option maxHeartbeats 4000000
/-! Things that never change once they stand: tuples, made objects. -/
namespace Kf
open PySem PySem.Spec PyProof.Rows L2 Kg Kd
/-- what never changes -/
def Fz : HO → Prop
  | .tup _ => True
  | .ins _ _ _ => True
  | .own _ => True
  | _ => False
/-- all tuples and objects stand as they were -/
def KF (H H' : Hp) : Prop := ∀ a o, H a = some o → Fz o → H' a = some o
theorem KF.refl (H : Hp) : KF H H := fun _ _ h _ => h
theorem KF.trans {H H1 H2 : Hp} (a : KF H H1) (b : KF H1 H2) : KF H H2 := fun c o h f => b c o (a c o h f) f
theorem KF.of_same {H H' : Hp} (s : Same H H') : KF H H' := fun c o h _ => s c o h
theorem KF.put {H : Hp} {l : Addr} {o u : HO} (h : H l = some o) (n : ¬ Fz o) : KF H (upd H l u) := fun a x e f => by
  rw [upd_ne (fun z => n (by rw [z, h] at e; rw [Option.some.inj e]; exact f))]; exact e
theorem KF.putL {H : Hp} {l : Addr} {xs : List V} {u : HO} (h : H l = some (.lst xs)) : KF H (upd H l u) := KF.put h (fun z => z)
theorem KF.new {H : Hp} {l : Addr} {u : HO} (h : H l = none) : KF H (upd H l u) := .of_same (same_new h)
theorem KF.tup {H H' : Hp} (k : KF H H') {a : Addr} {xs : List V} (h : H a = some (.tup xs)) : H' a = some (.tup xs) := k a _ h trivial
theorem KF.ins {H H' : Hp} (k : KF H H') {a C dx : Addr} {fs : List (Str × V)} (h : H a = some (.ins C dx fs)) : H' a = some (.ins C dx fs) := k a _ h trivial
mutual
inductive Tu (H : Hp) : V → PyData → Prop
  | non : Tu H .non .none
  | bl (b : Bool) : Tu H (.bl b) (.bool b)
  | int (i : Int) : Tu H (.int i) (.int i)
  | str (x : Str) : Tu H (.str x) (.str x)
  | tup {a : Addr} {xs : List V} {ds : List PyData} : H a = some (.tup xs) → xs.length ≤ 1000 → TuAll H xs ds → Tu H (.ref a) (.tuple ds)
inductive TuAll (H : Hp) : List V → List PyData → Prop
  | nil : TuAll H [] []
  | cons {v : V} {vs : List V} {d : PyData} {ds : List PyData} : Tu H v d → TuAll H vs ds → TuAll H (v :: vs) (d :: ds)
end
mutual
theorem Tu.keep {H H' : Hp} (k : KF H H') : ∀ {v : V} {d : PyData}, Tu H v d → Tu H' v d
  | _, _, .non => .non
  | _, _, .bl b => .bl b
  | _, _, .int i => .int i
  | _, _, .str x => .str x
  | _, _, .tup h z r => .tup (k.tup h) z (TuAll.keep k r)
theorem TuAll.keep {H H' : Hp} (k : KF H H') : ∀ {vs : List V} {ds : List PyData}, TuAll H vs ds → TuAll H' vs ds
  | _, _, .nil => .nil
  | _, _, .cons h r => .cons (Tu.keep k h) (TuAll.keep k r)
end
theorem Tu.same {H H' : Hp} {v : V} {d : PyData} (h : Tu H v d) (k : Same H H') : Tu H' v d := h.keep (.of_same k)
mutual
theorem Tu.da {H : Hp} : ∀ {v : V} {d : PyData}, Tu H v d → Da Kd.nil H v d
  | _, _, .non => .non
  | _, _, .bl b => .bl b
  | _, _, .int i => .int i
  | _, _, .str x => .str x
  | _, _, .tup h z r => .tup (fun z => z) h z (TuAll.da r)
theorem TuAll.da {H : Hp} : ∀ {vs : List V} {ds : List PyData}, TuAll H vs ds → DaAll Kd.nil H vs ds
  | _, _, .nil => .nil
  | _, _, .cons h r => .cons (Tu.da h) (TuAll.da r)
end
mutual
theorem Tu.dp {K : PySem.W.Frag} {H : Hp} : ∀ {v : V} {d : PyData}, Tu H v d → Dp K H v d
  | _, _, .non => .non
  | _, _, .bl b => .bl b
  | _, _, .int i => .int i
  | _, _, .str x => .str x
  | _, _, .tup h z r => .tup (SqT.of h) (TuAll.dp r)
theorem TuAll.dp {K : PySem.W.Frag} {H : Hp} : ∀ {vs : List V} {ds : List PyData}, TuAll H vs ds → DpAll K H vs ds
  | _, _, .nil => .nil
  | _, _, .cons h r => .cons (Tu.dp h) (TuAll.dp r)
end
theorem TuAll.length {H : Hp} : ∀ {vs : List V} {ds : List PyData}, TuAll H vs ds → vs.length = ds.length
  | _, _, .nil => rfl
  | _, _, .cons _ r => congrArg (· + 1) (TuAll.length r)
theorem TuAll.get {H : Hp} : ∀ {vs : List V} {ds : List PyData} {i : Nat} {v : V}, TuAll H vs ds → vs[i]? = some v → ∃ d, ds[i]? = some d ∧ Tu H v d
  | _, _, _, _, .nil, e => by simp at e
  | _, _, 0, _, .cons h _, e => ⟨_, rfl, by simp at e; rw [← e]; exact h⟩
  | _, _, i + 1, v, .cons _ r, e => by
    obtain ⟨d, h1, h2⟩ := TuAll.get (i := i) (v := v) r (by simpa using e)
    exact ⟨d, by simpa using h1, h2⟩
theorem TuAll.get' {H : Hp} : ∀ {vs : List V} {ds : List PyData} {i : Nat} {d : PyData}, TuAll H vs ds → ds[i]? = some d → ∃ v, vs[i]? = some v ∧ Tu H v d
  | _, _, _, _, .nil, e => by simp at e
  | _, _, 0, _, .cons h _, e => ⟨_, rfl, by simp at e; rw [← e]; exact h⟩
  | _, _, i + 1, d, .cons _ r, e => by
    obtain ⟨d, h1, h2⟩ := TuAll.get' (i := i) (d := d) r (by simpa using e)
    exact ⟨d, by simpa using h1, h2⟩
theorem TuAll.append {H : Hp} : ∀ {vs us : List V} {ds es : List PyData}, TuAll H vs ds → TuAll H us es → TuAll H (vs ++ us) (ds ++ es)
  | _, _, _, _, .nil, h => h
  | _, _, _, _, .cons a r, h => .cons a (TuAll.append r h)
/-! ### numbers -/
def iV (n : Nat) : V := .int (n : Nat)
def iD (n : Nat) : PyData := .int (n : Nat)
/-- a tuple of kinds, as data -/
def pdI (l : List Nat) : PyData := .tuple (l.map iD)
/-- elders, as data -/
def pdE (es : List (List Nat)) : PyData := .tuple (es.map pdI)
theorem tus_ints {H : Hp} : ∀ l : List Nat, TuAll H (l.map iV) (l.map iD)
  | [] => .nil
  | n :: l => .cons (.int (n : Nat)) (tus_ints l)
theorem tus_inv {H : Hp} : ∀ {l : List Nat} {vs : List V}, TuAll H vs (l.map iD) → vs = l.map iV
  | [], _, .nil => rfl
  | n :: l, _, .cons h r => by
    cases h
    rw [tus_inv r]; rfl
theorem tu_ints {H : Hp} {a : Addr} {l : List Nat} (h : H a = some (.tup (l.map iV))) (hl : l.length ≤ 1000) : Tu H (.ref a) (pdI l) := .tup h (by rw [List.length_map]; exact hl) (tus_ints l)
theorem tu_inv {H : Hp} {v : V} {l : List Nat} (h : Tu H v (pdI l)) : ∃ a, v = .ref a ∧ H a = some (.tup (l.map iV)) ∧ l.length ≤ 1000 := by
  unfold pdI at h
  cases h with
  | @tup a xs _ h1 h2 h3 =>
    have e := tus_inv h3
    subst e
    exact ⟨a, rfl, h1, by rwa [List.length_map] at h2⟩
theorem map_iV (l : List Nat) : l.map iV = (l.map fun n => ((n : Nat) : Int)).map V.int := by rw [List.map_map]; rfl
/-! ### the order -/
theorem asc_uniq : ∀ {l m : List Nat}, l.Pairwise (· < ·) → m.Pairwise (· < ·) → (∀ x, x ∈ l ↔ x ∈ m) → l = m
  | [], [], _, _, _ => rfl
  | [], b :: m, _, _, h => absurd ((h b).mpr (List.mem_cons_self ..)) (by simp)
  | a :: l, [], _, _, h => absurd ((h a).mp (List.mem_cons_self ..)) (by simp)
  | a :: l, b :: m, hl, hm, h => by
    rw [List.pairwise_cons] at hl hm
    have e : a = b := by
      rcases List.mem_cons.mp ((h a).mp (List.mem_cons_self ..)) with z | z
      · exact z
      · rcases List.mem_cons.mp ((h b).mpr (List.mem_cons_self ..)) with y | y
        · exact y.symm
        · have := hm.1 a z; have := hl.1 b y; omega
    subst e
    congr 1
    refine asc_uniq hl.2 hm.2 fun x => ⟨fun z => ?_, fun z => ?_⟩
    · rcases List.mem_cons.mp ((h x).mp (List.mem_cons_of_mem _ z)) with y | y
      · have := hl.1 x z; omega
      · exact y
    · rcases List.mem_cons.mp ((h x).mpr (List.mem_cons_of_mem _ z)) with y | y
      · have := hm.1 x z; omega
      · exact y
theorem asc_len : ∀ {l : List Nat} {n lo : Nat}, l.Pairwise (· < ·) → (∀ x ∈ l, lo ≤ x ∧ x < n) → l.length ≤ n - lo
  | [], _, _, _, _ => by simp
  | a :: l, n, lo, hl, h => by
    rw [List.pairwise_cons] at hl
    have z := asc_len (l := l) (n := n) (lo := a + 1) hl.2 (fun x hx => ⟨hl.1 x hx, (h x (List.mem_cons_of_mem _ hx)).2⟩)
    have y := h a (List.mem_cons_self ..)
    rw [List.length_cons]; omega
theorem rg_filter {n : Nat} {p : Nat → Bool} : ((List.range n).filter p).Pairwise (· < ·) := (List.pairwise_lt_range (n := n)).filter _
/-- ints from 0 on are numbers -/
theorem to_nats : ∀ {l : List Int}, (∀ x ∈ l, 0 ≤ x) → ∃ m : List Nat, l = m.map (fun n => ((n : Nat) : Int))
  | [], _ => ⟨[], rfl⟩
  | a :: l, h => by
    obtain ⟨m, e⟩ := to_nats (l := l) (fun x hx => h x (List.mem_cons_of_mem _ hx))
    have := h a (List.mem_cons_self ..)
    exact ⟨a.toNat :: m, by rw [e, List.map_cons]; congr 1; omega⟩
theorem asc_map {m : List Nat} (h : (m.map (fun n => ((n : Nat) : Int))).Pairwise (· < ·)) : m.Pairwise (· < ·) := by
  rw [List.pairwise_map] at h
  exact h.imp (fun z => by omega)
/-! ### kinds -/
/-- whether k lies under j -/
def abv (es : List (List Nat)) (k : Nat) (j : Nat) : Bool := decide (j = k) || (es.getD k []).attach.any (fun e => if h : e.1 < k then abv es e.1 j else false)
termination_by k
theorem abv_eq (es : List (List Nat)) (k j : Nat) : abv es k j = true ↔ j = k ∨ ∃ e ∈ es.getD k [], e < k ∧ abv es e j = true := by
  rw [abv, Bool.or_eq_true, decide_eq_true_iff, List.any_eq_true]
  constructor
  · rintro (h | ⟨⟨e, he⟩, _, h2⟩)
    · exact .inl h
    · by_cases c : e < k
      · rw [dif_pos c] at h2; exact .inr ⟨e, he, c, h2⟩
      · rw [dif_neg c] at h2; exact nomatch h2
  · rintro (h | ⟨e, he, c, h2⟩)
    · exact .inl h
    · exact .inr ⟨⟨e, he⟩, List.mem_attach .., by rw [dif_pos c]; exact h2⟩
theorem abv_le (es : List (List Nat)) : ∀ k j, abv es k j = true → j ≤ k := by
  intro k
  induction k using Nat.strongRecOn with
  | _ k ih =>
    intro j h
    rcases (abv_eq es k j).mp h with h | ⟨e, _, c, h⟩
    · omega
    · have := ih e c j h; omega
/-- the kinds under which k lies -/
def lot (es : List (List Nat)) (k : Nat) : List Nat := (List.range es.length).filter (abv es k)
theorem lot_mem {es : List (List Nat)} {k j : Nat} (hk : k < es.length) : j ∈ lot es k ↔ abv es k j = true := by
  unfold lot
  rw [List.mem_filter, List.mem_range]
  exact ⟨fun h => h.2, fun h => ⟨by have := abv_le es k j h; omega, h⟩⟩
theorem lot_asc (es : List (List Nat)) (k : Nat) : (lot es k).Pairwise (· < ·) := rg_filter
theorem lot_len (es : List (List Nat)) (k : Nat) : (lot es k).length ≤ es.length := by
  unfold lot
  have := List.length_filter_le (abv es k) (List.range es.length)
  rwa [List.length_range] at this
/-- right elders -/
structure Eld (es : List (List Nat)) (sv : Bool) : Prop where
  lo : 1 ≤ es.length
  hi : es.length ≤ 6
  asc : ∀ (k : Nat) (l : List Nat), es[k]? = some l → l.Pairwise (· < ·)
  low : ∀ (k : Nat) (l : List Nat), es[k]? = some l → ∀ x ∈ l, x < k
  one : ∀ (k : Nat) (l : List Nat), es[k]? = some l → sv = false → l.length ≤ 1
/-- right closed or hollow kinds -/
structure Som (n : Nat) (l : List Nat) : Prop where
  asc : l.Pairwise (· < ·)
  low : ∀ x ∈ l, x < n
theorem Som.len {n : Nat} {l : List Nat} (h : Som n l) : l.length ≤ n := by
  have := asc_len (lo := 0) h.asc (fun x hx => ⟨Nat.zero_le _, h.low x hx⟩)
  omega
theorem Som.filter {n : Nat} {p : Nat → Bool} : Som n ((List.range n).filter p) := ⟨rg_filter, fun x hx => List.mem_range.mp (List.mem_filter.mp hx).1⟩
theorem Eld.som {es : List (List Nat)} {sv : Bool} (h : Eld es sv) {k : Nat} {l : List Nat} (e : es[k]? = some l) : Som k l := ⟨h.asc k l e, h.low k l e⟩
end Kf

set_option Elab.async false
set_option linter.all false
set_option maxRecDepth 100000
set_option maxHeartbeats 4000000
/-! sorted: tuples of ints of any lengths, pairs of an int and such a tuple, sets of such tuples. -/
namespace Ku
open PySem PySem.Spec PyProof.Rows L2 Kg Kd SrtO Srt
/-! ### the order of tuples -/
abbrev lx := HT.lexLt
theorem lx_cons (x y : Int) (xs ys : List Int) : lx (x :: xs) (y :: ys) = if x = y then lx xs ys else decide (x < y) := rfl
theorem lx_irrefl : ∀ l : List Int, lx l l = false
  | [] => rfl
  | a :: l => by rw [lx_cons, if_pos rfl]; exact lx_irrefl l
theorem lx_tri : ∀ l m : List Int, l = m ∨ lx l m = true ∨ lx m l = true
  | [], [] => .inl rfl
  | [], _ :: _ => .inr (.inl rfl)
  | _ :: _, [] => .inr (.inr rfl)
  | a :: l, b :: m => by
    rw [lx_cons, lx_cons]
    rcases Int.lt_trichotomy a b with h | h | h
    · exact .inr (.inl (by rw [if_neg (by omega)]; exact decide_eq_true h))
    · subst h
      rw [if_pos rfl, if_pos rfl]
      rcases lx_tri l m with e | e | e
      · exact .inl (by rw [e])
      · exact .inr (.inl e)
      · exact .inr (.inr e)
    · exact .inr (.inr (by rw [if_neg (by omega)]; exact decide_eq_true h))
theorem lx_trans : ∀ {l m n : List Int}, lx l m = true → lx m n = true → lx l n = true
  | [], [], _, h, _ => nomatch h
  | [], _ :: _, [], _, h => nomatch h
  | [], _ :: _, _ :: _, _, _ => rfl
  | _ :: _, [], _, h, _ => nomatch h
  | _ :: _, _ :: _, [], _, h => nomatch h
  | a :: l, b :: m, c :: n, h, k => by
    rw [lx_cons] at h k ⊢
    by_cases e : a = b
    · rw [if_pos e] at h
      by_cases e2 : b = c
      · rw [if_pos e2] at k
        rw [if_pos (by omega)]
        exact lx_trans h k
      · rw [if_neg e2] at k
        rw [if_neg (by omega)]
        exact decide_eq_true (by have := of_decide_eq_true k; omega)
    · rw [if_neg e] at h
      have h' := of_decide_eq_true h
      by_cases e2 : b = c
      · rw [if_neg (by omega)]; exact decide_eq_true (by omega)
      · rw [if_neg e2] at k
        have k' := of_decide_eq_true k
        rw [if_neg (by omega)]; exact decide_eq_true (by omega)
theorem lx_asym {l m : List Int} (h : lx l m = true) : lx m l = false := by
  cases e : lx m l with
  | false => rfl
  | true => have := lx_trans h e; rw [lx_irrefl] at this; cases this
theorem swo_lx {α : Type} (k : α → List Int) : Swo fun v u => lx (k v) (k u) := by
  refine ⟨fun x y h => lx_asym h, fun x y z h1 h2 => ?_⟩
  cases e : lx (k z) (k x) with
  | false => rfl
  | true =>
    rcases lx_tri (k y) (k x) with g | g | g
    · rw [g, e] at h2; cases h2
    · rw [g] at h1; cases h1
    · have := lx_trans e g; rw [h2] at this; cases this
/-- first the int, then the tuple -/
def lp (p q : Int × List Int) : Bool := lx (p.1 :: p.2) (q.1 :: q.2)
theorem swo_lp {α : Type} (k : α → Int × List Int) : Swo fun v u => lp (k v) (k u) := swo_lx fun v => (k v).1 :: (k v).2
section
variable {prog : Program} {w : World} {A : Around} {E : Value → Shared → Prop} {s : Shared} {Q : Bool → Shared → Prop}
theorem lex_var {b : Bool} : ∀ {xs ys : List Value} {ns ms : List Int} (i : Nat) (fin : Bool), IntsAre xs ns → IntsAre ys ms → fin = decide (ns.length < ms.length) → Q (lx ns ms) s → PySem.W.KatLex prog w A b fin Q (xs.zip ys) i s
  | _, _, _, _, i, fin, .nil, .nil, e, h => PySem.W.kat_nil (by rw [e]; exact h)
  | _, _, _, _, i, fin, .nil, .cons _ _ _, e, h => PySem.W.kat_nil (by rw [e]; exact h)
  | _, _, _, _, i, fin, .cons _ _ _, .nil, e, h => PySem.W.kat_nil (by rw [e]; exact h)
  | _, _, _, _, i, fin, .cons (vs := xs) (ns := ns) x t r, .cons (vs := ys) (ns := ms) y u q, e, h => by
    rw [lx_cons] at h
    refine PySem.W.kat_cons (SeqAt.EqAt.int_int x t y u prog w _ _ ?_)
    refine PySem.W.kat_go (fun e1 => ?_) (fun e1 => ?_)
    · have ex : x = y := by simpa using e1
      rw [if_pos ex] at h
      exact PySem.W.kat_yes (lex_var (i + 1) fin r q (by rw [e]; simp) h)
    · have ex : ¬ x = y := by simpa using e1
      rw [if_neg ex] at h
      exact PySem.W.kat_no (TS.oneLt_ints _ h)
theorem tup_cmp {vs : List Value} {k : Value → List Int} (hp : ∀ v ∈ vs, TS.TupInts s.heap v (k v)) : SrtO.Cmp prog w A s (tuples' true) (fun p => p.1 ∈ vs) (lt2 fun v u => lx (k v) (k u)) := by
  intro p q hm hm'
  obtain ⟨a, xs, e, ⟨o, ho, hc, n, hd⟩, i1⟩ := hp _ hm
  obtain ⟨a', ys, e', ⟨o', ho', hc', n', hd'⟩, i2⟩ := hp _ hm'
  show wpAny (model prog w) A (keyLt' (tuples' true) p.1 q.1) (fun r s' => s' = s ∧ r = lx (k p.1) (k q.1)) (fun _ _ => False) s
  generalize k p.1 = ns at i1 ⊢
  generalize k q.1 = ms at i2 ⊢
  rw [e, e']
  refine PySem.W.kat_lt ho hd ho' hd' (lex_var 0 _ i1 i2 ?_ ⟨rfl, rfl⟩)
  have l1 := i1.length
  have l2 := i2.length
  rw [Array.length_toList] at l1 l2
  rw [l1, l2]
theorem firsts_tup {h : Heap} {k : Value → List Int} : ∀ vs : List Value, (∀ v ∈ vs, TS.TupInts h v (k v) ∧ k v ≠ []) → ∃ fs, PySem.W.KatTups h vs fs ∧ fs.length = vs.length ∧ ∀ f, f ∈ fs → ∃ n t, f = Value.int n t
  | [], _ => ⟨[], PySem.W.KatTups.nil, rfl, fun f hf => by simp at hf⟩
  | v :: vs, x => by
    obtain ⟨fs, kk, hl, hi⟩ := firsts_tup vs fun u hu => x u (List.mem_cons_of_mem _ hu)
    obtain ⟨⟨a, xs, rfl, ⟨o, ho, hc, n, hdt⟩, i⟩, hn⟩ := x v (List.mem_cons_self ..)
    obtain ⟨y, ys, e⟩ : ∃ y ys, xs.toList = y :: ys := by
      cases q : xs.toList with
      | nil => rw [q] at i; generalize k (.ref a) = kk at i hn; cases i; exact absurd rfl hn
      | cons y ys => exact ⟨y, ys, rfl⟩
    obtain ⟨m, t, hy⟩ := i.all y (by rw [e]; exact List.mem_cons_self ..)
    refine ⟨y :: fs, PySem.W.KatTups.cons ho hc hdt ?_ kk, by simp [hl], ?_⟩
    · have z := congrArg (fun l : List Value => l[0]?) e
      simpa using z
    · intro f hf
      rcases List.mem_cons.mp hf with rfl | hf
      · exact ⟨m, t, hy⟩
      · exact hi f hf
theorem tups_sortable {a : Addr} {vs : List Value} {k : Value → List Int} (h0 : 0 < vs.length) (hp : ∀ v ∈ vs, TS.TupInts s.heap v (k v) ∧ k v ≠ []) (ha : ∀ o, s.heap.get? a = some o → o.cls ≠ .type "tuple") : SortableO prog w A s a vs fun v u => lx (k v) (k u) := by
  intro h' keep
  have hp' : ∀ v ∈ vs, TS.TupInts h' v (k v) ∧ k v ≠ [] := fun v hm => ⟨(hp v hm).1.keeps fun b o e c => keep b o (fun z => by subst z; exact ha o e c) e, (hp v hm).2⟩
  obtain ⟨fs, h1, h2, h3⟩ := firsts_tup vs hp'
  refine ⟨tuples' true, fun Q E hq => ?_, tup_cmp fun v hv => (hp' v hv).1⟩
  refine PySem.W.kat_kind (T := .type "int") h1 (by omega) (fun f hm => ?_) (by rfl) ?_
  · obtain ⟨x, t, rfl⟩ := h3 f hm
    exact PySem.W.Looks.now
  · have e : (Value.type "int" != Value.type "tuple") = true := by first | decide +kernel | rfl | decide
    rw [e]
    exact hq
theorem reads_ints {h : Heap} : ∀ {vs : List Value} {ns : List Int}, IntsAre vs ns → ∃ as, ReadsAll h vs (ns.map PyData.int) as
  | _, _, .nil => ⟨_, .nil⟩
  | _, _, .cons x t r => by
    obtain ⟨as, q⟩ := reads_ints r
    exact ⟨_, .cons (.int x t) q⟩
theorem reads_tup {h : Heap} {v : Value} {ns : List Int} (x : TS.TupInts h v ns) : ∃ as, Reads h v (.tuple (ns.map PyData.int)) as := by
  obtain ⟨a, xs, rfl, ⟨o, ho, hc, n, hd⟩, i⟩ := x
  obtain ⟨as, q⟩ := reads_ints (h := h) i
  exact ⟨_, .tuple ho hc hd q⟩
theorem lay_ints : ∀ xs : List Int, PyData.canLayAll0 (xs.map PyData.int) = true
  | [] => rfl
  | x :: r => by
    show (PyData.canLay0 (.int x) && PyData.canLayAll0 (r.map PyData.int)) = true
    rw [lay_ints r]; rfl
theorem dep_ints : ∀ xs : List Int, PyData.depthAll (xs.map PyData.int) = 0
  | [] => rfl
  | x :: r => by
    show max (PyData.depth (.int x)) (PyData.depthAll (r.map PyData.int)) = 0
    rw [dep_ints r]; rfl
theorem eqv_ints : ∀ l m : List Int, PyData.eqvAll (l.map PyData.int) (m.map PyData.int) = decide (l = m)
  | [], [] => by simp [PyData.eqvAll]
  | [], _ :: _ => by simp [PyData.eqvAll]
  | _ :: _, [] => by simp [PyData.eqvAll]
  | a :: l, b :: m => by
    have z := eqv_ints l m
    simp only [List.map_cons, PyData.eqvAll, z, PyData.eqv]
    by_cases h : a = b
    · subst h; simp
    · simp [h]
theorem eqAt_tup {v u : Value} {ns ms : List Int} (x : TS.TupInts s.heap v ns) (y : TS.TupInts s.heap u ms) (hu : A.units + 1 < cLine) : SeqAt.EqAt A s v u (decide (ns = ms)) := by
  obtain ⟨as, r1⟩ := reads_tup x
  obtain ⟨bs, r2⟩ := reads_tup y
  have z := SeqAt.eqAt_reads _ _ A s v u as bs r1 r2 (lay_ints ns) (lay_ints ms) (by
    show A.units + min (PyData.depthAll (ns.map PyData.int) + 1) (PyData.depthAll (ms.map PyData.int) + 1) < cLine
    rw [dep_ints, dep_ints]; exact hu)
  rw [PyData.eqv, eqv_ints] at z
  exact z
/-- a pair of an int and a tuple of ints -/
def IsNT (h : Heap) (v : Value) (p : Int × List Int) : Prop := ∃ a o t b n, v = .ref a ∧ h.get? a = some o ∧ o.cls = .type "tuple" ∧ o.data = .seq #[.int p.1 t, .ref b] n ∧ TS.TupInts h (.ref b) p.2
theorem IsNT.keeps {h h' : Heap} {v : Value} {p : Int × List Int} (x : IsNT h v p) (k : ∀ b o, h.get? b = some o → o.cls = .type "tuple" → h'.get? b = some o) : IsNT h' v p := by
  obtain ⟨a, o, t, b, n, e, ho, hc, hd, y⟩ := x
  exact ⟨a, o, t, b, n, e, k _ _ ho hc, hc, hd, y.keeps k⟩
theorem nt_cmp {vs : List Value} {k : Value → Int × List Int} (hu : A.units + 1 < cLine) (hp : ∀ v ∈ vs, IsNT s.heap v (k v)) : SrtO.Cmp prog w A s (tuples' true) (fun p => p.1 ∈ vs) (lt2 fun v u => lp (k v) (k u)) := by
  intro p q hm hm'
  have h1 := hp _ hm
  have h2 := hp _ hm'
  show wpAny (model prog w) A (keyLt' (tuples' true) p.1 q.1) (fun r s' => s' = s ∧ r = lp (k p.1) (k q.1)) (fun _ _ => False) s
  generalize k p.1 = x at h1 ⊢
  generalize k q.1 = y at h2 ⊢
  obtain ⟨a, o, t, b, n, e, ho, hc, hd, hb⟩ := h1
  obtain ⟨a', o', t', b', n', e', ho', hc', hd', hb'⟩ := h2
  rw [e, e']
  refine PySem.W.kat_lt ho hd ho' hd' ?_
  show PySem.W.KatLex prog w A true (decide (2 < 2)) _ [(.int x.1 t, .int y.1 t'), (.ref b, .ref b')] 0 s
  refine PySem.W.kat_cons (SeqAt.EqAt.int_int x.1 t y.1 t' prog w _ _ ?_)
  refine PySem.W.kat_go (fun e1 => ?_) (fun e1 => ?_)
  · have ex : x.1 = y.1 := by simpa using e1
    have el : lp x y = lx x.2 y.2 := by unfold lp; rw [lx_cons, if_pos ex]
    rw [el]
    refine PySem.W.kat_yes (PySem.W.kat_cons (eqAt_tup hb hb' hu prog w _ _ ?_))
    refine PySem.W.kat_go (fun e2 => ?_) (fun e2 => ?_)
    · have ey := of_decide_eq_true e2
      exact PySem.W.kat_yes (PySem.W.kat_nil ⟨rfl, by rw [ey, lx_irrefl]; rfl⟩)
    · obtain ⟨c, xs, ec, tc, ic⟩ := hb
      obtain ⟨c', xs', ec', tc', ic'⟩ := hb'
      cases ec
      cases ec'
      exact PySem.W.kat_no (PySem.W.kat_one _ _ (HT.lt_tupInts tc tc' ic ic' (by omega) ⟨rfl, rfl⟩))
  · have ex : ¬ x.1 = y.1 := by simpa using e1
    have el : lp x y = decide (x.1 < y.1) := by unfold lp; rw [lx_cons, if_neg ex]
    rw [el]
    exact PySem.W.kat_no (TS.oneLt_ints _ ⟨rfl, rfl⟩)
theorem firsts_nt {h : Heap} {k : Value → Int × List Int} : ∀ vs : List Value, (∀ v ∈ vs, IsNT h v (k v)) → ∃ fs, PySem.W.KatTups h vs fs ∧ fs.length = vs.length ∧ ∀ f, f ∈ fs → ∃ n t, f = Value.int n t
  | [], _ => ⟨[], PySem.W.KatTups.nil, rfl, fun f hf => by simp at hf⟩
  | v :: vs, x => by
    obtain ⟨fs, kk, hl, hi⟩ := firsts_nt vs fun u hu => x u (List.mem_cons_of_mem _ hu)
    obtain ⟨a, o, t, b, n, e, ho, hc, hd, _⟩ := x v (List.mem_cons_self ..)
    rw [e]
    refine ⟨.int (k v).1 t :: fs, PySem.W.KatTups.cons ho hc hd rfl kk, by simp [hl], ?_⟩
    intro f hf
    rcases List.mem_cons.mp hf with rfl | hf
    · exact ⟨_, t, rfl⟩
    · exact hi f hf
theorem nts_sortable {a : Addr} {vs : List Value} {k : Value → Int × List Int} (hu : A.units + 1 < cLine) (h0 : 0 < vs.length) (hp : ∀ v ∈ vs, IsNT s.heap v (k v)) (ha : ∀ o, s.heap.get? a = some o → o.cls ≠ .type "tuple") : SortableO prog w A s a vs fun v u => lp (k v) (k u) := by
  intro h' keep
  have hp' : ∀ v ∈ vs, IsNT h' v (k v) := fun v hm => (hp v hm).keeps fun b o e c => keep b o (fun z => by subst z; exact ha o e c) e
  obtain ⟨fs, h1, h2, h3⟩ := firsts_nt vs hp'
  refine ⟨tuples' true, fun Q E hq => ?_, nt_cmp hu hp'⟩
  refine PySem.W.kat_kind (T := .type "int") h1 (by omega) (fun f hm => ?_) (by rfl) ?_
  · obtain ⟨x, t, rfl⟩ := h3 f hm
    exact PySem.W.Looks.now
  · have e : (Value.type "int" != Value.type "tuple") = true := by first | decide +kernel | rfl | decide
    rw [e]
    exact hq
end
/-! ### as rules of the layer -/
section
variable {X : Cx} {pins : List (Addr × Obj)} {σ : L2.St} {H : Hp} {s : Shared} {Q : VK}
theorem cr_by {a : Addr} {xs : List V} {lt : V → V → Bool} (O : Swo lt) (I : Inv X pins σ H s) (hs : SqL X.K H a xs) (hx : ∀ x ∈ xs, ∃ t, x = V.ref t)
    (hS : ∀ its : List Value, Vals xs its → 2 ≤ its.length → ∀ (h₁ : Heap) (d : Addr), h₁.get? d = some (seqObj "list" its.toArray 0) → (∀ b o, s.heap.get? b = some o → b ≠ d ∧ h₁.get? b = some o) → SortableO X.prog X.w X.A.in1.in1 { s with heap := h₁ } d its (fun u v => lt (backV u) (backV v)))
    (q : ∀ ys p, SrtO.Srtd lt ys → SrtO.Stb lt ys xs → H p = none → Q (.ref p) (upd H p (.lst ys))) : wpAny (model X.prog X.w) X.A (call (.builtin "sorted") [.ref a]) (EP X pins σ Q) X.xe s := by
  obtain ⟨its, rv, hl, hz⟩ := I.list hs
  obtain ⟨e1, e2⟩ := refs_back rv hx
  have O' : Swo fun u v => lt (backV u) (backV v) := ⟨fun x y => O.asym _ _, fun x y z => O.tr _ _ _⟩
  refine sorted_ord O' hl.isList (by rw [← rv.length]; exact hz) (fun h2 h₁ d hd kk => hS its rv h2 h₁ d hd kk) fun out h1 h2 => ?_
  have h3 : ∀ u ∈ out, ∃ a, u = Value.ref a := fun u hu => e2 u (h2.perm.mem_iff.mp hu)
  obtain ⟨n, hn⟩ := sortedAll_at s.heap its out.toArray
  have hb : SrtO.Stb lt (out.map backV) xs := by
    rw [e1]
    exact SrtO.Stb.map O backV h2
  refine ⟨.ref _, upd H (s.heap.objs.size + 1) (.lst (out.map backV)), I.laid (t' := s.toks) (fun b o e => sortedAll_old e) (Nat.le_succ _) ⟨?_, out, n, vals_back h3, hn⟩, rfl, q _ _ (SrtO.srtd_map h1) hb (I.hok.fresh (Nat.le_succ _))⟩
  rw [hb.len]
  exact hz
/-- sorted(xs), tuples of ints, none of them empty -/
def rSortL (K : PySem.W.Frag) : List V → Hp → VK → Prop := fun vs H Q => ∃ (a : Addr) (xs : List V) (k : V → List Int), vs = [V.ref a] ∧ SqL K H a xs ∧ (∀ x ∈ xs, k x ≠ [] ∧ ∃ t, x = V.ref t ∧ SqT K H t ((k x).map V.int)) ∧
  ∀ ys p, SrtO.Srtd (fun x y => lx (k x) (k y)) ys → SrtO.Stb (fun x y => lx (k x) (k y)) ys xs → H p = none → Q (.ref p) (upd H p (.lst ys))
theorem not_tup {h₁ : Heap} {d : Addr} {its : List Value} (hd : h₁.get? d = some (seqObj "list" its.toArray 0)) : ∀ o, h₁.get? d = some o → o.cls ≠ .type "tuple" := fun o e => by
  have e' : some o = some (seqObj "list" its.toArray 0) := e.symm.trans hd
  cases e'
  intro c
  exact absurd (Value.type.inj c) (by decide)
theorem cr_sortL : CallR X (.builtin "sorted") (rSortL X.K) := by
  intro pins s σ H vs us Q I r h
  obtain ⟨a, xs, k, rfl, hs, hx, q⟩ := h
  obtain ⟨u, rfl, ru⟩ := vals1 r
  obtain rfl : u = Value.ref a := ru
  refine cr_by (swo_lx k) I hs (fun x hm => by obtain ⟨_, t, e, _⟩ := hx x hm; exact ⟨t, e⟩) (fun its rv h2 h₁ d hd kk => ?_) q
  obtain ⟨e1, e2⟩ := refs_back rv (fun x hm => by obtain ⟨_, t, e, _⟩ := hx x hm; exact ⟨t, e⟩)
  refine tups_sortable (s := { s with heap := h₁ }) (k := fun u => k (backV u)) (by omega) (fun v hv => ?_) (not_tup hd)
  obtain ⟨t, rfl⟩ := e2 v hv
  have hm : V.ref t ∈ xs := by rw [e1]; exact List.mem_map.mpr ⟨_, hv, rfl⟩
  obtain ⟨nk, t', e, ht⟩ := hx _ hm
  cases e
  exact ⟨(tupI_raw I ht).keeps fun b o e _ => (kk b o e).2, nk⟩
/-- sorted(xs), pairs of an int and a tuple of ints -/
def rSortP (K : PySem.W.Frag) : List V → Hp → VK → Prop := fun vs H Q => ∃ (a : Addr) (xs : List V) (k : V → Int × List Int), vs = [V.ref a] ∧ SqL K H a xs ∧ (∀ x ∈ xs, ∃ t b, x = V.ref t ∧ H t = some (.tup [.int (k x).1, .ref b]) ∧ SqT K H b ((k x).2.map V.int)) ∧
  ∀ ys p, SrtO.Srtd (fun x y => lp (k x) (k y)) ys → SrtO.Stb (fun x y => lp (k x) (k y)) ys xs → H p = none → Q (.ref p) (upd H p (.lst ys))
theorem in2_units {A : Around} (h : A.units + 64 < cLine) : A.in1.in1.units + 1 < cLine := by
  have e : A.in1.in1.units ≤ A.units + 2 := by first | exact Nat.le_refl _ | (simp [Around.in1]; omega) | decide
  omega
theorem cr_sortP (hu : X.A.units + 64 < cLine) : CallR X (.builtin "sorted") (rSortP X.K) := by
  intro pins s σ H vs us Q I r h
  obtain ⟨a, xs, k, rfl, hs, hx, q⟩ := h
  obtain ⟨u, rfl, ru⟩ := vals1 r
  obtain rfl : u = Value.ref a := ru
  refine cr_by (swo_lp k) I hs (fun x hm => by obtain ⟨t, _, e, _⟩ := hx x hm; exact ⟨t, e⟩) (fun its rv h2 h₁ d hd kk => ?_) q
  obtain ⟨e1, e2⟩ := refs_back rv (fun x hm => by obtain ⟨t, _, e, _⟩ := hx x hm; exact ⟨t, e⟩)
  refine nts_sortable (s := { s with heap := h₁ }) (k := fun u => k (backV u)) (in2_units hu) (by omega) (fun v hv => ?_) (not_tup hd)
  obtain ⟨t, rfl⟩ := e2 v hv
  have hm : V.ref t ∈ xs := by rw [e1]; exact List.mem_map.mpr ⟨_, hv, rfl⟩
  obtain ⟨t', b, e, ht, hb⟩ := hx _ hm
  cases e
  obtain ⟨_, its2, r2, o, ho, hc, n, hd'⟩ := I.hok _ _ ht
  obtain ⟨u1, u2, rfl, ri, rj⟩ := vals2 r2
  obtain ⟨t1, rfl⟩ := ri
  cases (show u2 = Value.ref b from rj)
  exact (show IsNT s.heap (.ref t) (k (V.ref t)) from ⟨t, o, t1, b, n, rfl, ho, hc, hd', tupI_raw I hb⟩).keeps fun b o e _ => (kk b o e).2
end
end Ku

set_option Elab.async false
set_option linter.all false
set_option maxRecDepth 100000
set_option maxHeartbeats 4000000
/-! sorted of a set of tuples of ints, none of them empty. -/
namespace Ku
open PySem PySem.Spec PyProof.Rows L2 Kg Kd SrtO Srt
/-- the key at an address -/
def kOf (L : List (Addr × List Int)) : Value → List Int
  | .ref a => ((L.find? fun p => p.1 == a).map (·.2)).getD []
  | _ => []
theorem kOf_at {L : List (Addr × List Int)} (one : ∀ q ∈ L, ∀ r ∈ L, q.1 = r.1 → q = r) {p : Addr × List Int} (hp : p ∈ L) : kOf L (.ref p.1) = p.2 := by
  show ((L.find? fun q => q.1 == p.1).map (·.2)).getD [] = p.2
  cases e : L.find? fun q => q.1 == p.1 with
  | none => exact absurd (List.find?_eq_none.mp e p hp) (by simp)
  | some q =>
    have h1 := List.mem_of_find?_eq_some e
    have h2 := List.find?_some e
    have h3 : q = p := one q h1 p hp (by simpa using h2)
    rw [h3]; rfl
theorem strict_of {L : List (Addr × List Int)} (nd : (L.map (·.2)).Nodup) (h : L.Pairwise (fun q r => lx r.2 q.2 = false)) : L.Pairwise (fun q r => lx q.2 r.2 = true) := by
  have n2 : L.Pairwise (fun q r => q.2 ≠ r.2) := List.pairwise_map.mp nd
  refine (h.and n2).imp (fun {q r} z => ?_)
  rcases lx_tri q.2 r.2 with e | e | e
  · exact absurd e z.2
  · exact e
  · rw [z.1] at e; cases e
section
variable {P : Program} {w : World} {A : Around} {E : Value → Shared → Prop} {s : Shared}
theorem sorted_set {a : Addr} {L : List (Addr × List Int)} {es : Array (Int × Value)} {ep : Nat} {t : SetTable} {Q : Value → Shared → Prop} (R : SetTR P w s.heap a L es ep t) (hh : A.handled = none) (hB : ∀ p ∈ L, p.2 ≠ [])
    (hQ : ∀ s' p (out : Array Value) (c : Nat) (L' : List (Addr × List Int)), (∀ b o, s.heap.get? b = some o → s'.heap.get? b = some o) → s'.gens = s.gens → s'.os = s.os → s.heap.objs.size ≤ p →
      s'.heap.get? p = some (seqObj "list" out c) → out.toList = L'.map (fun q => Value.ref q.1) → L'.Perm L → L'.Pairwise (fun q r => lx q.2 r.2 = true) → Q (.ref p) s') :
    wpAny (model P w) A (call (.builtin "sorted") [.ref a]) Q E s := by
  obtain ⟨o, ho, hex, hd⟩ := R.ob
  have hsz := R.size
  have hfew := R.few
  refine Calls.call_function_entry kind_sorted plain_sorted entry_sorted (args_sorted1 _) ?_
  unfold Builtin.«sorted»
  refine wpAny_bind (m := checkCount "sorted" 1 1 _) (wpAny_pure ?_)
  refine wpAny_bind (collect_set (A := A.in1) hh ⟨o, ho, hex.1, hd⟩ R.fits (by unfold scanBound; omega) R.tab.ris R.led fun s1 vs k1 hz g1 o1 pm => ?_)
  have hes : es.toList.map (·.2) = L.map fun q => Value.ref q.1 := by
    rw [R.rows]
    unfold rowsOf
    rw [List.map_map] <;> rfl
  rw [hes] at pm
  have ord : ∀ vs : List Value, (∀ v ∈ vs, ∃ q ∈ L, v = Value.ref q.1) → ∃ L1 : List (Addr × List Int), vs = L1.map (fun q => Value.ref q.1) ∧ ∀ q ∈ L1, q ∈ L := by
    intro vs
    induction vs with
    | nil => intro _; exact ⟨[], rfl, fun q hq => (by cases hq)⟩
    | cons v vs ih =>
      intro hv
      obtain ⟨q, hq, e⟩ := hv v List.mem_cons_self
      obtain ⟨L1, e1, hs⟩ := ih fun u hu => hv u (List.mem_cons_of_mem _ hu)
      refine ⟨q :: L1, by rw [List.map_cons, e, e1], fun r hr => ?_⟩
      rcases List.mem_cons.mp hr with z | z
      · rw [z]; exact hq
      · exact hs r z
  have one : ∀ q ∈ L, ∀ r ∈ L, q.1 = r.1 → q = r := fun q hq r hr e => by
    have a1 := R.tup q hq
    have a2 := R.tup r hr
    rw [e] at a1
    have e2 : q.2 = r.2 := a1.inj a2
    exact Prod.ext e e2
  have perm_of : ∀ L1 : List (Addr × List Int), (∀ q ∈ L1, q ∈ L) → (L1.map (fun q => Value.ref q.1)).Perm (L.map fun q => Value.ref q.1) → L1.Perm L := by
    intro L1 hs pm1
    have nL : L.Nodup := nodup_of_map R.nd
    have nref : (L.map fun q => Value.ref q.1).Nodup := by
      refine List.pairwise_map.mpr (List.Pairwise.imp_of_mem (fun {q r} hq hr hne e => ?_) nL)
      injection e with e
      exact hne (one q hq r hr e)
    have n1 : L1.Nodup := nodup_of_map (pm1.nodup_iff.mpr nref)
    refine (List.perm_ext_iff_of_nodup n1 nL).mpr fun q => ⟨hs q, fun hq => ?_⟩
    have hm : Value.ref q.1 ∈ L1.map (fun q => Value.ref q.1) := pm1.mem_iff.mpr (List.mem_map.mpr ⟨q, hq, rfl⟩)
    obtain ⟨r, hr, e⟩ := List.mem_map.mp hm
    injection e with e
    rw [← one r (hs r hr) q hq e]
    exact hr
  have hvl : vs.length < 64 := by rw [pm.length_eq, List.length_map]; exact hfew
  have hvz : vs.length ≤ sizeLine := by rw [sizeLine_eq]; omega
  refine wpAny_bind (wpAny_newList ?_ hvz)
  have hoL : (s1.heap.push (seqObj "list" vs.toArray 0)).get? s1.heap.objs.size = some (seqObj "list" vs.toArray 0) := Heap.get?_push_size _ rfl
  have tk : ∀ q ∈ L, TS.TupInts (s1.heap.push (seqObj "list" vs.toArray 0)) (.ref q.1) q.2 := fun q hq => tupInts_of (P := P) (w := w) (isT_keep (R.tup q hq) fun b u e => Heap.get?_push_of_some _ (k1 b u e))
  have x : ∀ v ∈ vs, TS.TupInts (s1.heap.push (seqObj "list" vs.toArray 0)) v (kOf L v) ∧ kOf L v ≠ [] := fun v hv => by
    obtain ⟨q, hq, e⟩ := List.mem_map.mp (pm.mem_iff.mp hv)
    rw [← e, kOf_at one hq]
    exact ⟨tk q hq, hB q hq⟩
  refine wpAny_bind (wpAny_holding (wpAny_call_entry slot_list_sort (s := { s1 with heap := s1.heap.push (seqObj "list" vs.toArray 0) }) ⟨_, hoL, rfl⟩ entry_list_sort (list_sort_ord (swo_lx (kOf L)) hoL hvz
    (fun h2 => tups_sortable (s := { s1 with heap := s1.heap.push (seqObj "list" vs.toArray 0) }) (by omega) x (not_tup hoL)) fun out h1 h2 => ⟨_, rfl, ?_⟩) (args_list_sort _)))
  obtain ⟨c, hc⟩ := sortedHeap_at (vs := vs) (out := out.toArray) hoL
  obtain ⟨L', e', hs'⟩ := ord out fun v hv => by
    obtain ⟨q, hq, e⟩ := List.mem_map.mp (pm.mem_iff.mp (h2.perm.mem_iff.mp hv))
    exact ⟨q, hq, e.symm⟩
  have pL : L'.Perm L := perm_of L' hs' (by rw [← e']; exact h2.perm.trans pm)
  have pw : L'.Pairwise (fun q r => lx q.2 r.2 = true) := by
    refine strict_of ((pL.map (·.2)).nodup_iff.mpr R.nd) ?_
    rw [e'] at h1
    refine List.Pairwise.imp_of_mem (fun {q r} hq hr hle => ?_) (List.pairwise_map.mp h1)
    have z : lx (kOf L (.ref r.1)) (kOf L (.ref q.1)) = false := hle
    rw [kOf_at one (hs' r hr), kOf_at one (hs' q hq)] at z
    exact z
  refine wpAny_pure ⟨_, rfl, hQ _ s1.heap.objs.size out.toArray c L' (fun b u e => ?_) g1 o1 hz hc (by simpa using e') pL pw⟩
  have q := k1 b u e
  have hlt := Heap.lt_size q
  show (sortedHeap (s1.heap.push (seqObj "list" vs.toArray 0)) s1.heap.objs.size vs out.toArray).get? b = some u
  rw [sortedHeap_old (Nat.ne_of_lt hlt) (by rw [size_push']; exact Nat.lt_succ_of_lt hlt)]
  exact Heap.get?_push_of_some _ q
end
section
variable {X : Cx}
def rSortS (K : PySem.W.Frag) (P : Program) (w : World) : List V → Hp → VK → Prop := fun vs H Q => ∃ (a : Addr) (L : List (Addr × List Int)), vs = [V.ref a] ∧ H a = some (SetTO P w a L) ∧ (∀ p ∈ L, SqT K H p.1 (p.2.map V.int) ∧ p.2 ≠ []) ∧
  ∀ (L' : List (Addr × List Int)) (p : Addr), L'.Perm L → L'.Pairwise (fun q r => lx q.2 r.2 = true) → L'.length < 64 → H p = none → Q (.ref p) (upd H p (.lst (L'.map fun q => V.ref q.1)))
theorem cr_sortS (hc : X.calm = true) : CallR X (.builtin "sorted") (rSortS X.K X.prog X.w) := by
  intro pins s σ H vs us Q I r h
  obtain ⟨a, L, rfl, ha, hk, q⟩ := h
  have R0 : SetT0 X.prog X.w s.heap a L := (I.hok a _ ha).1
  obtain ⟨es, ep, t, R⟩ := R0.full fun p hp => I.isT (hk p hp).1
  rw [Vals.ref1 r]
  refine sorted_set R (I.ok.hd hc) (fun p hp => (hk p hp).2) fun s' p out c L' k g o hp hg hout pm pw => ?_
  have hfew : L'.length < 64 := by rw [pm.length_eq]; exact R.few
  have hlen : (L'.map fun q => V.ref q.1).length ≤ sizeLine := by rw [List.length_map, sizeLine_eq]; omega
  have hn : H p = none := I.hok.fresh hp
  have hv : Vals (L'.map fun q => V.ref q.1) out.toList := by rw [hout]; exact vals_of_refs L'
  have J : Inv X pins σ (upd H p (.lst (L'.map fun q => V.ref q.1))) { s with heap := s'.heap, gens := s'.gens, drawn := s'.drawn, toks := s'.toks } :=
    I.call (ch := []) (Un.laid k hp hn) (I.hok.laid k hp ⟨hlen, out.toList, c, hv, hg⟩) (by rw [g]; exact I.bare) (fun _ z => nomatch z)
  have e : s' = { s with heap := s'.heap, gens := s'.gens, drawn := s'.drawn, toks := s'.toks } := by
    cases s'
    cases s
    cases o
    rfl
  rw [e]
  exact ⟨.ref p, _, J, rfl, q L' p pm pw hfew hn⟩
end
end Ku

set_option Elab.async false
set_option linter.all false
set_option maxRecDepth 100000
set_option maxHeartbeats 4000000
/-! Lots, by themselves. -/
namespace Kf
open PySem PySem.Spec PyProof.Rows L2 Kg Kd
/-- numbers as ints -/
def ci (l : List Nat) : List Int := l.map fun n => ((n : Nat) : Int)
theorem ci_V (l : List Nat) : (ci l).map V.int = l.map iV := (map_iV l).symm
theorem ci_inj : ∀ {l m : List Nat}, ci l = ci m → l = m
  | [], [], _ => rfl
  | [], _ :: _, h => nomatch h
  | _ :: _, [], h => nomatch h
  | a :: l, b :: m, h => by
    unfold ci at h
    rw [List.map_cons, List.map_cons, List.cons.injEq] at h
    have e : a = b := by omega
    rw [e, ci_inj (l := l) (m := m) h.2]
theorem ci_nil {l : List Nat} : ci l = [] ↔ l = [] := by unfold ci; cases l <;> simp
def lxN (l m : List Nat) : Bool := Ku.lx (ci l) (ci m)
def lpN (p q : Nat × List Nat) : Bool := Ku.lp ((p.1 : Nat), ci p.2) ((q.1 : Nat), ci q.2)
theorem lxN_irrefl (l : List Nat) : lxN l l = false := Ku.lx_irrefl _
theorem lxN_asym {l m : List Nat} (h : lxN l m = true) : lxN m l = false := Ku.lx_asym h
theorem lpN_irrefl (p : Nat × List Nat) : lpN p p = false := Ku.lx_irrefl _
theorem lpN_asym {p q : Nat × List Nat} (h : lpN p q = true) : lpN q p = false := Ku.lx_asym h
/-- two lists in a strict order with the same items are one -/
theorem ord_uniq {α : Type} {lt : α → α → Bool} (irr : ∀ a, lt a a = false) (asy : ∀ a b, lt a b = true → lt b a = false) : ∀ {l m : List α}, l.Pairwise (fun a b => lt a b = true) → m.Pairwise (fun a b => lt a b = true) → (∀ x, x ∈ l ↔ x ∈ m) → l = m
  | [], [], _, _, _ => rfl
  | [], b :: m, _, _, h => absurd ((h b).mpr (List.mem_cons_self ..)) (by simp)
  | a :: l, [], _, _, h => absurd ((h a).mp (List.mem_cons_self ..)) (by simp)
  | a :: l, b :: m, hl, hm, h => by
    rw [List.pairwise_cons] at hl hm
    have e : a = b := by
      rcases List.mem_cons.mp ((h a).mp (List.mem_cons_self ..)) with z | z
      · exact z
      · rcases List.mem_cons.mp ((h b).mpr (List.mem_cons_self ..)) with y | y
        · exact y.symm
        · have h1 := hm.1 a z
          have h2 := hl.1 b y
          rw [asy _ _ h1] at h2
          cases h2
    subst e
    congr 1
    refine ord_uniq irr asy hl.2 hm.2 fun x => ⟨fun z => ?_, fun z => ?_⟩
    · rcases List.mem_cons.mp ((h x).mp (List.mem_cons_of_mem _ z)) with y | y
      · have := hl.1 x z; rw [y, irr] at this; cases this
      · exact y
    · rcases List.mem_cons.mp ((h x).mpr (List.mem_cons_of_mem _ z)) with y | y
      · have := hm.1 x z; rw [y, irr] at this; cases this
      · exact y
/-- the kinds under which something of these kinds lies -/
def lotS (es : List (List Nat)) (ks : List Nat) : List Nat := (List.range es.length).filter (fun j => ks.any (fun k => abv es k j))
theorem lotS_one (es : List (List Nat)) (k : Nat) : lotS es [k] = lot es k := by
  unfold lotS lot
  congr 1
  funext j
  simp
theorem lotS_som (es : List (List Nat)) (ks : List Nat) : Som es.length (lotS es ks) := Som.filter
theorem lot_som (es : List (List Nat)) (k : Nat) : Som es.length (lot es k) := Som.filter
theorem abv_self (es : List (List Nat)) (k : Nat) : abv es k k = true := (abv_eq es k k).mpr (.inl rfl)
theorem lotS_ne {es : List (List Nat)} {ks : List Nat} (h : ks ≠ []) (lo : ∀ k ∈ ks, k < es.length) : lotS es ks ≠ [] := by
  cases ks with
  | nil => exact absurd rfl h
  | cons k ks =>
    have hm : k ∈ lotS es (k :: ks) := by
      unfold lotS
      rw [List.mem_filter, List.mem_range]
      exact ⟨lo k (List.mem_cons_self ..), List.any_eq_true.mpr ⟨k, List.mem_cons_self .., abv_self es k⟩⟩
    intro z
    rw [z] at hm
    cases hm
theorem lot_ne {es : List (List Nat)} {k : Nat} (h : k < es.length) : lot es k ≠ [] := by
  rw [← lotS_one]
  exact lotS_ne (by simp) (fun j hj => by rw [List.mem_singleton.mp hj]; exact h)
/-- the lot of a kind with things -/
def kn (es : List (List Nat)) (ho : List Nat) (l : List Nat) : Bool := (List.range es.length).any (fun k => !decide (k ∈ ho) && decide (l = lot es k))
theorem kn_iff {es : List (List Nat)} {ho l : List Nat} : kn es ho l = true ↔ ∃ k, k < es.length ∧ k ∉ ho ∧ l = lot es k := by
  unfold kn
  rw [List.any_eq_true]
  constructor
  · rintro ⟨k, h1, h2⟩
    rw [Bool.and_eq_true, Bool.not_eq_true', decide_eq_false_iff_not, decide_eq_true_iff] at h2
    exact ⟨k, List.mem_range.mp h1, h2.1, h2.2⟩
  · rintro ⟨k, h1, h2, h3⟩
    exact ⟨k, List.mem_range.mpr h1, by rw [Bool.and_eq_true, Bool.not_eq_true', decide_eq_false_iff_not, decide_eq_true_iff]; exact ⟨h2, h3⟩⟩
/-- elders of one new kind that are allowed (any number of them at all) -/
def rt (cl : List Nat) (sv : Bool) (ks : List Nat) : Bool := (ks.filter (fun k => decide (k ∈ cl))).isEmpty && (decide (ks.length = 1) || sv)
/-- a late lot l with the fewest elders m -/
def Late (es : List (List Nat)) (cl ho : List Nat) (sv : Bool) (p : Nat × List Nat) : Prop := kn es ho p.2 = false ∧ (∃ ks, ks ≠ [] ∧ Som es.length ks ∧ rt cl sv ks = true ∧ lotS es ks = p.2 ∧ ks.length = p.1) ∧ ∀ ks, ks ≠ [] → Som es.length ks → rt cl sv ks = true → lotS es ks = p.2 → p.1 ≤ ks.length
structure LotsP (es : List (List Nat)) (cl ho : List Nat) (sv : Bool) (A : List (List Nat)) (B : List (Nat × List Nat)) : Prop where
  oa : A.Pairwise (fun a b => lxN a b = true)
  ma : ∀ l, l ∈ A ↔ kn es ho l = true
  ob : B.Pairwise (fun a b => lpN a b = true)
  mb : ∀ p, p ∈ B ↔ Late es cl ho sv p
/-- all lots, in their order -/
def IsLots (es : List (List Nat)) (cl ho : List Nat) (sv : Bool) (ls : List (List Nat)) : Prop := ∃ A B, ls = A ++ B.map (·.2) ∧ LotsP es cl ho sv A B
theorem IsLots.uniq {es : List (List Nat)} {cl ho : List Nat} {sv : Bool} {ls ms : List (List Nat)} (h : IsLots es cl ho sv ls) (k : IsLots es cl ho sv ms) : ls = ms := by
  obtain ⟨A, B, rfl, h⟩ := h
  obtain ⟨C, D, rfl, k⟩ := k
  rw [ord_uniq lxN_irrefl (fun _ _ => lxN_asym) h.oa k.oa (fun x => (h.ma x).trans (k.ma x).symm), ord_uniq lpN_irrefl (fun _ _ => lpN_asym) h.ob k.ob (fun x => (h.mb x).trans (k.mb x).symm)]
theorem IsLots.mem {es : List (List Nat)} {cl ho : List Nat} {sv : Bool} {ls : List (List Nat)} (h : IsLots es cl ho sv ls) (l : List Nat) : l ∈ ls ↔ kn es ho l = true ∨ ∃ m, Late es cl ho sv (m, l) := by
  obtain ⟨A, B, rfl, h⟩ := h
  rw [List.mem_append, h.ma l, List.mem_map]
  constructor
  · rintro (z | ⟨⟨m, l'⟩, z, rfl⟩)
    · exact .inl z
    · exact .inr ⟨m, (h.mb _).mp z⟩
  · rintro (z | ⟨m, z⟩)
    · exact .inl z
    · exact .inr ⟨(m, l), (h.mb _).mpr z, rfl⟩
theorem IsLots.som {es : List (List Nat)} {cl ho : List Nat} {sv : Bool} {ls : List (List Nat)} (h : IsLots es cl ho sv ls) {l : List Nat} (hl : l ∈ ls) : Som es.length l ∧ l ≠ [] := by
  rcases (h.mem l).mp hl with z | ⟨m, _, ⟨ks, h1, h2, _, h4, _⟩, _⟩
  · obtain ⟨k, h1, _, rfl⟩ := kn_iff.mp z
    exact ⟨lot_som es k, lot_ne h1⟩
  · have e : lotS es ks = l := h4
    rw [← e]
    exact ⟨lotS_som es ks, lotS_ne h1 h2.low⟩
/-! ### sets of kinds by their codes -/
def ksOf (n c : Nat) : List Nat := (List.range n).filter (fun k => decide (c / 2 ^ k % 2 = 1))
theorem ksOf_som (n c : Nat) : Som n (ksOf n c) := Som.filter
theorem bits_of (P : Nat → Bool) : ∀ n, ∃ c, c < 2 ^ n ∧ ∀ k, k < n → c.testBit k = P k
  | 0 => ⟨0, by decide, fun k hk => absurd hk (Nat.not_lt_zero k)⟩
  | n + 1 => by
    obtain ⟨c, h1, h2⟩ := bits_of P n
    cases e : P n with
    | false =>
      refine ⟨c, by rw [Nat.pow_succ]; omega, fun k hk => ?_⟩
      by_cases z : k < n
      · exact h2 k z
      · have : k = n := by omega
        rw [this, Nat.testBit_lt_two_pow h1, e]
    | true =>
      refine ⟨2 ^ n + c, by rw [Nat.pow_succ]; omega, fun k hk => ?_⟩
      by_cases z : k < n
      · rw [Nat.testBit_two_pow_add_gt z]; exact h2 k z
      · have : k = n := by omega
        rw [this, Nat.testBit_two_pow_add_eq, Nat.testBit_lt_two_pow h1, e]; rfl
theorem tb (c k : Nat) : c.testBit k = decide (c / 2 ^ k % 2 = 1) := Nat.testBit_eq_decide_div_mod_eq
theorem ksOf_all {n : Nat} {ks : List Nat} (h : Som n ks) : ∃ c, c < 2 ^ n ∧ ksOf n c = ks := by
  obtain ⟨c, h1, h2⟩ := bits_of (fun k => decide (k ∈ ks)) n
  refine ⟨c, h1, asc_uniq (ksOf_som n c).asc h.asc fun k => ?_⟩
  unfold ksOf
  rw [List.mem_filter, List.mem_range, ← tb]
  constructor
  · rintro ⟨a, b⟩
    rw [h2 k a] at b
    exact of_decide_eq_true b
  · intro a
    have := h.low k a
    exact ⟨this, by rw [h2 k this]; exact decide_eq_true a⟩
theorem ksOf_zero (n : Nat) : ksOf n 0 = [] := by
  unfold ksOf
  rw [List.filter_eq_nil_iff]
  intro k _
  simp
theorem ksOf_ne {n c : Nat} (h : 1 ≤ c) (hc : c < 2 ^ n) : ksOf n c ≠ [] := by
  intro z
  have all : ∀ k, c.testBit k = false := by
    intro k
    by_cases hk : k < n
    · cases e : c.testBit k with
      | false => rfl
      | true =>
        have hm : k ∈ ksOf n c := by
          unfold ksOf
          rw [List.mem_filter, List.mem_range, ← tb]
          exact ⟨hk, e⟩
        rw [z] at hm; cases hm
    · exact Nat.testBit_lt_two_pow (Nat.lt_of_lt_of_le hc (Nat.pow_le_pow_right (by decide) (by omega)))
  have : c = 0 := Nat.eq_of_testBit_eq (fun k => by rw [all k, Nat.zero_testBit])
  omega
/-- the late lots, code by code -/
def stp (es : List (List Nat)) (cl ho : List Nat) (sv : Bool) (m : List Nat → Option Nat) (c : Nat) : List Nat → Option Nat :=
  if (rt cl sv (ksOf es.length c) && !kn es ho (lotS es (ksOf es.length c))) = true then fun l => if l = lotS es (ksOf es.length c) then some (min ((m l).getD 9) (ksOf es.length c).length) else m l else m
def mmU (es : List (List Nat)) (cl ho : List Nat) (sv : Bool) : Nat → List Nat → Option Nat
  | 0 => fun _ => none
  | i + 1 => stp es cl ho sv (mmU es cl ho sv i) (i + 1)
structure Up (es : List (List Nat)) (cl ho : List Nat) (sv : Bool) (i m : Nat) (l : List Nat) : Prop where
  nk : kn es ho l = false
  ex : ∃ c, 1 ≤ c ∧ c ≤ i ∧ rt cl sv (ksOf es.length c) = true ∧ lotS es (ksOf es.length c) = l ∧ (ksOf es.length c).length = m
  le : ∀ c, 1 ≤ c → c ≤ i → rt cl sv (ksOf es.length c) = true → lotS es (ksOf es.length c) = l → m ≤ (ksOf es.length c).length
theorem ksOf_len (n c : Nat) : (ksOf n c).length ≤ n := (ksOf_som n c).len
theorem mmU_iff {es : List (List Nat)} {cl ho : List Nat} {sv : Bool} (n6 : es.length ≤ 6) : ∀ (i m : Nat) (l : List Nat), mmU es cl ho sv i l = some m ↔ Up es cl ho sv i m l
  | 0, m, l => ⟨fun h => (nomatch h), fun h => by obtain ⟨c, h1, h2, _⟩ := h.ex; omega⟩
  | i + 1, m, l => by
    have ih := mmU_iff (es := es) (cl := cl) (ho := ho) (sv := sv) n6 i
    show stp es cl ho sv (mmU es cl ho sv i) (i + 1) l = some m ↔ _
    unfold stp
    by_cases c : (rt cl sv (ksOf es.length (i + 1)) && !kn es ho (lotS es (ksOf es.length (i + 1)))) = true
    · rw [if_pos c]
      rw [Bool.and_eq_true, Bool.not_eq_true'] at c
      by_cases e : l = lotS es (ksOf es.length (i + 1))
      · show (if l = _ then _ else _) = some m ↔ _
        rw [if_pos e]
        have kl := ksOf_len es.length (i + 1)
        cases g : mmU es cl ho sv i l with
        | none =>
          have no : ∀ c, 1 ≤ c → c ≤ i → rt cl sv (ksOf es.length c) = true → lotS es (ksOf es.length c) = l → False := by
            intro c0 h1 h2 h3 h4
            -- the least of them
            have : ∃ m, Up es cl ho sv i m l := by
              have P : ∀ b, (∃ c, 1 ≤ c ∧ c ≤ i ∧ rt cl sv (ksOf es.length c) = true ∧ lotS es (ksOf es.length c) = l ∧ (ksOf es.length c).length ≤ b) → ∃ m, Up es cl ho sv i m l := by
                intro b
                induction b with
                | zero =>
                  rintro ⟨c1, a1, a2, a3, a4, a5⟩
                  exact ⟨0, ⟨by rw [e]; exact c.2, ⟨c1, a1, a2, a3, a4, by omega⟩, fun _ _ _ _ _ => Nat.zero_le _⟩⟩
                | succ b ihb =>
                  rintro ⟨c1, a1, a2, a3, a4, a5⟩
                  by_cases z : ∃ c, 1 ≤ c ∧ c ≤ i ∧ rt cl sv (ksOf es.length c) = true ∧ lotS es (ksOf es.length c) = l ∧ (ksOf es.length c).length ≤ b
                  · exact ihb z
                  · refine ⟨b + 1, ⟨by rw [e]; exact c.2, ⟨c1, a1, a2, a3, a4, ?_⟩, fun c2 b1 b2 b3 b4 => ?_⟩⟩
                    · by_cases y : (ksOf es.length c1).length ≤ b
                      · exact absurd ⟨c1, a1, a2, a3, a4, y⟩ z
                      · omega
                    · by_cases y : (ksOf es.length c2).length ≤ b
                      · exact absurd ⟨c2, b1, b2, b3, b4, y⟩ z
                      · omega
              exact P _ ⟨c0, h1, h2, h3, h4, Nat.le_refl _⟩
            obtain ⟨m', u⟩ := this
            rw [(ih m' l).mpr u] at g
            cases g
          show some (min 9 _) = some m ↔ _
          rw [Nat.min_eq_right (by omega), Option.some.injEq]
          constructor
          · intro h
            refine ⟨by rw [e]; exact c.2, ⟨i + 1, by omega, Nat.le_refl _, c.1, e.symm, h⟩, fun c1 a1 a2 a3 a4 => ?_⟩
            by_cases z : c1 ≤ i
            · exact (no c1 a1 z a3 a4).elim
            · have : c1 = i + 1 := by omega
              rw [this]; omega
          · intro u
            obtain ⟨c1, a1, a2, a3, a4, a5⟩ := u.ex
            by_cases z : c1 ≤ i
            · exact (no c1 a1 z a3 a4).elim
            · have : c1 = i + 1 := by omega
              rw [this] at a5; exact a5
        | some m0 =>
          have u0 := (ih m0 l).mp g
          show some (min m0 _) = some m ↔ _
          rw [Option.some.injEq]
          have best : Up es cl ho sv (i + 1) (min m0 (ksOf es.length (i + 1)).length) l := by
            refine ⟨u0.nk, ?_, fun c1 a1 a2 a3 a4 => ?_⟩
            · by_cases z : m0 ≤ (ksOf es.length (i + 1)).length
              · obtain ⟨c1, a1, a2, a3, a4, a5⟩ := u0.ex
                exact ⟨c1, a1, by omega, a3, a4, by omega⟩
              · exact ⟨i + 1, by omega, Nat.le_refl _, c.1, e.symm, by omega⟩
            · by_cases z : c1 ≤ i
              · have := u0.le c1 a1 z a3 a4; omega
              · have : c1 = i + 1 := by omega
                rw [this]; omega
          constructor
          · intro h; rw [← h]; exact best
          · intro u
            obtain ⟨c1, a1, a2, a3, a4, a5⟩ := u.ex
            obtain ⟨c2, b1, b2, b3, b4, b5⟩ := best.ex
            have h1 := best.le c1 a1 a2 a3 a4
            have h2 := u.le c2 b1 b2 b3 b4
            omega
      · show (if l = _ then _ else _) = some m ↔ _
        rw [if_neg e, ih m l]
        constructor
        · intro u
          obtain ⟨c1, a1, a2, a3⟩ := u.ex
          refine ⟨u.nk, ⟨c1, a1, by omega, a3⟩, fun c2 b1 b2 b3 b4 => ?_⟩
          by_cases z : c2 ≤ i
          · exact u.le c2 b1 z b3 b4
          · have : c2 = i + 1 := by omega
            rw [this] at b4; exact absurd b4.symm e
        · intro u
          obtain ⟨c1, a1, a2, a3, a4, a5⟩ := u.ex
          have z : c1 ≤ i := by
            by_cases z : c1 ≤ i
            · exact z
            · have : c1 = i + 1 := by omega
              rw [this] at a4; exact absurd a4.symm e
          exact ⟨u.nk, ⟨c1, a1, z, a3, a4, a5⟩, fun c2 b1 b2 b3 b4 => u.le c2 b1 (by omega) b3 b4⟩
    · rw [if_neg c, ih m l]
      have c' : rt cl sv (ksOf es.length (i + 1)) = true → kn es ho (lotS es (ksOf es.length (i + 1))) = true := by
        intro h
        cases k : kn es ho (lotS es (ksOf es.length (i + 1))) with
        | true => rfl
        | false => exact absurd (by rw [h, k]; rfl) c
      constructor
      · intro u
        obtain ⟨c1, a1, a2, a3⟩ := u.ex
        refine ⟨u.nk, ⟨c1, a1, by omega, a3⟩, fun c2 b1 b2 b3 b4 => ?_⟩
        by_cases z : c2 ≤ i
        · exact u.le c2 b1 z b3 b4
        · have : c2 = i + 1 := by omega
          rw [this] at b3 b4
          have := c' b3
          rw [b4, u.nk] at this
          cases this
      · intro u
        obtain ⟨c1, a1, a2, a3, a4, a5⟩ := u.ex
        have z : c1 ≤ i := by
          by_cases z : c1 ≤ i
          · exact z
          · have : c1 = i + 1 := by omega
            rw [this] at a3 a4
            have := c' a3
            rw [a4, u.nk] at this
            cases this
        exact ⟨u.nk, ⟨c1, a1, z, a3, a4, a5⟩, fun c2 b1 b2 b3 b4 => u.le c2 b1 (by omega) b3 b4⟩
theorem late_iff {es : List (List Nat)} {cl ho : List Nat} {sv : Bool} (n6 : es.length ≤ 6) (m : Nat) (l : List Nat) : mmU es cl ho sv (2 ^ es.length - 1) l = some m ↔ Late es cl ho sv (m, l) := by
  have p1 : 1 ≤ 2 ^ es.length := Nat.one_le_two_pow
  rw [mmU_iff n6]
  constructor
  · intro u
    obtain ⟨c, h1, h2, h3, h4, h5⟩ := u.ex
    refine ⟨u.nk, ⟨_, ksOf_ne h1 (by omega), ksOf_som _ _, h3, h4, h5⟩, fun ks k1 k2 k3 k4 => ?_⟩
    obtain ⟨c2, b1, b2⟩ := ksOf_all k2
    have c0 : 1 ≤ c2 := by
      cases c2 with
      | zero => rw [ksOf_zero] at b2; exact absurd b2.symm k1
      | succ _ => omega
    subst b2
    exact u.le c2 c0 (by omega) k3 k4
  · rintro ⟨nk, ⟨ks, k1, k2, k3, k4, k5⟩, le⟩
    obtain ⟨c2, b1, b2⟩ := ksOf_all k2
    have c0 : 1 ≤ c2 := by
      cases c2 with
      | zero => rw [ksOf_zero] at b2; exact absurd b2.symm k1
      | succ _ => omega
    subst b2
    exact ⟨nk, ⟨c2, c0, by omega, k3, k4, k5⟩, fun c h1 h2 h3 h4 => le _ (ksOf_ne h1 (by omega)) (ksOf_som _ _) h3 h4⟩
/-! ### a dict by tuples of kinds -/
def kL (l : List Nat) : List Key := l.map fun n => Sum.inl ((n : Nat) : Int)
theorem kL_V (l : List Nat) : (kL l).map kV = l.map iV := by unfold kL; rw [List.map_map]; rfl
theorem kL_inj : ∀ {l m : List Nat}, kL l = kL m → l = m
  | [], [], _ => rfl
  | [], _ :: _, h => nomatch h
  | _ :: _, [], h => nomatch h
  | a :: l, b :: m, h => by
    unfold kL at h
    rw [List.map_cons, List.map_cons, List.cons.injEq, Sum.inl.injEq] at h
    have e : a = b := by omega
    rw [e, kL_inj (l := l) (m := m) h.2]
structure Dv (kvs : List (List Key × V)) (m : List Nat → Option Nat) : Prop where
  ks : ∀ p ∈ kvs, ∃ l n, p = (kL l, V.int ((n : Nat) : Int)) ∧ m l = some n
  all : ∀ l n, m l = some n → (kL l, V.int ((n : Nat) : Int)) ∈ kvs
  nd : (kvs.map (·.1)).Nodup
theorem Dv.nil : Dv [] (fun _ => none) := ⟨fun p h => (nomatch h), fun l n h => (nomatch h), List.nodup_nil⟩
theorem Dv.val {kvs : List (List Key × V)} {m : List Nat → Option Nat} (D : Dv kvs m) (l : List Nat) : valV kvs (kL l) = (m l).map (fun n => V.int ((n : Nat) : Int)) := by
  unfold valV
  cases e : kvs.find? fun kv => decide (kv.1 = kL l) with
  | none =>
    cases g : m l with
    | none => rfl
    | some n => exact absurd (List.find?_eq_none.mp e _ (D.all l n g)) (by simp)
  | some q =>
    have h1 := List.mem_of_find?_eq_some e
    have h2 : q.1 = kL l := by simpa using List.find?_some e
    obtain ⟨l', n, rfl, g⟩ := D.ks q h1
    have e2 : l' = l := kL_inj h2
    rw [e2] at g
    rw [g]; rfl
theorem nodup_map_keys {kvs : List (List Key × V)} {k : List Key} {v : V} : (kvs.map fun kv => if kv.1 = k then (kv.1, v) else kv).map (·.1) = kvs.map (·.1) := by
  rw [List.map_map]
  congr 1
  funext kv
  show (if kv.1 = k then (kv.1, v) else kv).1 = kv.1
  split <;> rfl
theorem Dv.put {kvs : List (List Key × V)} {m : List Nat → Option Nat} (D : Dv kvs m) (l : List Nat) (n : Nat) : Dv (putK kvs (kL l) (V.int ((n : Nat) : Int))) (fun l' => if l' = l then some n else m l') := by
  by_cases c : (kvs.any fun kv => decide (kv.1 = kL l)) = true
  · have e : putK kvs (kL l) (V.int ((n : Nat) : Int)) = kvs.map (fun kv => if kv.1 = kL l then (kv.1, V.int ((n : Nat) : Int)) else kv) := by unfold putK; rw [if_pos c]
    rw [e]
    refine ⟨fun p hp => ?_, fun l' n' h => ?_, by rw [nodup_map_keys]; exact D.nd⟩
    · obtain ⟨q, hq, rfl⟩ := List.mem_map.mp hp
      obtain ⟨l', n', rfl, g⟩ := D.ks q hq
      by_cases z : l' = l
      · subst z
        exact ⟨l', n, by rw [if_pos rfl], by rw [if_pos rfl]⟩
      · exact ⟨l', n', by rw [if_neg (fun y => z (kL_inj y))], by rw [if_neg z]; exact g⟩
    · by_cases z : l' = l
      · subst z
        rw [if_pos rfl] at h
        cases h
        obtain ⟨q, hq, hk⟩ := List.any_eq_true.mp c
        exact List.mem_map.mpr ⟨q, hq, by rw [if_pos (of_decide_eq_true hk), of_decide_eq_true hk]⟩
      · rw [if_neg z] at h
        exact List.mem_map.mpr ⟨_, D.all l' n' h, by rw [if_neg (fun y => z (kL_inj y))]⟩
  · have e : putK kvs (kL l) (V.int ((n : Nat) : Int)) = kvs ++ [(kL l, V.int ((n : Nat) : Int))] := by unfold putK; rw [if_neg c]
    have nm : m l = none := by
      cases g : m l with
      | none => rfl
      | some k => exact absurd (List.any_eq_true.mpr ⟨_, D.all l k g, decide_eq_true rfl⟩) c
    rw [e]
    refine ⟨fun p hp => ?_, fun l' n' h => ?_, ?_⟩
    · rcases List.mem_append.mp hp with y | y
      · obtain ⟨l', n', rfl, g⟩ := D.ks p y
        have z : l' ≠ l := fun z => by rw [z, nm] at g; cases g
        exact ⟨l', n', rfl, by rw [if_neg z]; exact g⟩
      · rw [List.mem_singleton.mp y]
        exact ⟨l, n, rfl, by rw [if_pos rfl]⟩
    · by_cases z : l' = l
      · subst z
        rw [if_pos rfl] at h
        cases h
        exact List.mem_append_right _ (List.mem_singleton.mpr rfl)
      · rw [if_neg z] at h
        exact List.mem_append_left _ (D.all l' n' h)
    · rw [List.map_append]
      refine List.nodup_append.mpr ⟨D.nd, by simp, fun a ha b hb => ?_⟩
      rw [List.map_cons, List.map_nil, List.mem_singleton] at hb
      intro z
      obtain ⟨q, hq, hqa⟩ := List.mem_map.mp ha
      exact c (List.any_eq_true.mpr ⟨q, hq, decide_eq_true (by rw [hqa, z, hb])⟩)
end Kf

set_option Elab.async false
set_option linter.all false
set_option maxRecDepth 100000
set_option maxHeartbeats 4000000
/-! Trees and rows, by themselves. -/
namespace Kf
open PySem PySem.Spec PyProof.Rows L2 Kg Kd
inductive Tr
  | ans (n : Nat)
  | tst (k : Nat) (y n : Tr)
namespace Tr
def d : Tr → PyData
  | .ans n => .int ((n : Nat) : Int)
  | .tst k y n => .tuple [.int ((k : Nat) : Int), y.d, n.d]
def size : Tr → Nat
  | .ans _ => 0
  | .tst _ y n => 1 + y.size + n.size
def dep : Tr → Nat
  | .ans _ => 0
  | .tst _ y n => 1 + max y.dep n.dep
def ok (m : Nat) : Tr → Prop
  | .ans a => a ≤ 9
  | .tst k y n => k < m ∧ y.ok m ∧ n.ok m
def answer (lot : List Nat) : Tr → Nat
  | .ans a => a
  | .tst k y n => if k ∈ lot then y.answer lot else n.answer lot
theorem answer_le {m : Nat} {lot : List Nat} : ∀ {t : Tr}, t.ok m → t.answer lot ≤ 9
  | .ans _, h => h
  | .tst k y n, h => by
    show (if k ∈ lot then y.answer lot else n.answer lot) ≤ 9
    split
    · exact answer_le h.2.1
    · exact answer_le h.2.2
theorem size_dep : ∀ t : Tr, t.dep ≤ t.size
  | .ans _ => Nat.le_refl _
  | .tst k y n => by
    have := size_dep y
    have := size_dep n
    show 1 + max y.dep n.dep ≤ 1 + y.size + n.size
    omega
theorem d_dep : ∀ t : Tr, t.d.depth = t.dep
  | .ans _ => rfl
  | .tst k y n => by
    show max 0 (max y.d.depth (max n.d.depth 0)) + 1 = 1 + max y.dep n.dep
    rw [d_dep y, d_dep n]; omega
theorem d_lay : ∀ t : Tr, PyData.canLay0 t.d = true
  | .ans _ => rfl
  | .tst k y n => by
    show (true && (PyData.canLay0 y.d && (PyData.canLay0 n.d && true))) = true
    rw [d_lay y, d_lay n]; rfl
theorem d_inj : ∀ {t u : Tr}, t.d = u.d → t = u
  | .ans a, .ans b, h => by
    have e : ((a : Nat) : Int) = (b : Nat) := PyData.int.inj h
    have : a = b := by omega
    rw [this]
  | .ans _, .tst _ _ _, h => nomatch h
  | .tst _ _ _, .ans _, h => nomatch h
  | .tst k y n, .tst k' y' n', h => by
    have h1 := PyData.tuple.inj h
    rw [List.cons.injEq, List.cons.injEq, List.cons.injEq] at h1
    have e : ((k : Nat) : Int) = (k' : Nat) := PyData.int.inj h1.1
    have : k = k' := by omega
    rw [this, d_inj h1.2.1, d_inj h1.2.2.1]
end Tr
abbrev Row := List (Nat × Bool) × Nat
def needD (p : Nat × Bool) : PyData := .tuple [.int ((p.1 : Nat) : Int), .bool p.2]
def rwD (r : Row) : PyData := .tuple [.tuple (r.1.map needD), .int ((r.2 : Nat) : Int)]
def rowsD (rs : List Row) : PyData := .tuple (rs.map rwD)
def holds (lot : List Nat) (needs : List (Nat × Bool)) : Bool := needs.all (fun p => decide (p.1 ∈ lot) == p.2)
def chosenR (lot : List Nat) (rs : List Row) : Option Nat := rs.findIdx? (fun r => holds lot r.1)
def answerR (lot : List Nat) (rs : List Row) : Nat := ((rs.find? (fun r => holds lot r.1)).map (·.2)).getD 0
structure RowOk (n : Nat) (r : Row) : Prop where
  few : r.1.length ≤ 3
  asc : (r.1.map (·.1)).Pairwise (· < ·)
  low : ∀ p ∈ r.1, p.1 < n
  ans : r.2 ≤ 9
structure RowsOk (n : Nat) (rs : List Row) : Prop where
  few : rs.length ≤ 6
  each : ∀ r ∈ rs, RowOk n r
inductive Ch
  | tree (t : Tr)
  | rows (rs : List Row)
namespace Ch
def d : Ch → PyData
  | .tree t => t.d
  | .rows rs => rowsD rs
def ok (n : Nat) : Ch → Prop
  | .tree t => t.ok n ∧ t.size ≤ 12
  | .rows rs => RowsOk n rs
def answer (lot : List Nat) : Ch → Nat
  | .tree t => t.answer lot
  | .rows rs => answerR lot rs
theorem answer_le {n : Nat} {lot : List Nat} {c : Ch} (h : c.ok n) : c.answer lot ≤ 9 := by
  cases c with
  | tree t => exact Tr.answer_le h.1
  | rows rs =>
    show ((rs.find? (fun r => holds lot r.1)).map (·.2)).getD 0 ≤ 9
    cases e : rs.find? (fun r => holds lot r.1) with
    | none => exact Nat.zero_le _
    | some r => exact (h.each r (List.mem_of_find?_eq_some e)).ans
end Ch
theorem tu_need {H : Hp} {v : V} {p : Nat × Bool} (h : Tu H v (needD p)) : ∃ a, v = .ref a ∧ H a = some (.tup [.int ((p.1 : Nat) : Int), .bl p.2]) := by
  unfold needD at h
  cases h with
  | @tup a xs _ h1 h2 h3 =>
    cases h3 with
    | cons k1 k2 =>
      cases k2 with
      | cons k3 k4 =>
        cases k4
        cases k1
        cases k3
        exact ⟨a, rfl, h1⟩
theorem tu_row {H : Hp} {v : V} {r : Row} (h : Tu H v (rwD r)) : ∃ a b xs, v = .ref a ∧ H a = some (.tup [.ref b, .int ((r.2 : Nat) : Int)]) ∧ H b = some (.tup xs) ∧ TuAll H xs (r.1.map needD) ∧ xs.length = r.1.length := by
  unfold rwD at h
  cases h with
  | @tup a ys _ h1 h2 h3 =>
    cases h3 with
    | cons k1 k2 =>
      cases k2 with
      | cons k3 k4 =>
        cases k4
        cases k3
        cases k1 with
        | @tup b xs _ g1 g2 g3 => exact ⟨a, b, xs, rfl, h1, g1, g3, by rw [g3.length, List.length_map]⟩
theorem tu_rows {H : Hp} {v : V} {rs : List Row} (h : Tu H v (rowsD rs)) : ∃ a xs, v = .ref a ∧ H a = some (.tup xs) ∧ TuAll H xs (rs.map rwD) ∧ xs.length = rs.length := by
  unfold rowsD at h
  cases h with
  | @tup a xs _ h1 h2 h3 => exact ⟨a, xs, rfl, h1, h3, by rw [h3.length, List.length_map]⟩
theorem tu_ans {H : Hp} {v : V} {n : Nat} (h : Tu H v (Tr.ans n).d) : v = .int ((n : Nat) : Int) := by
  have h' : Tu H v (.int ((n : Nat) : Int)) := h
  cases h'
  rfl
theorem tu_tst {H : Hp} {v : V} {k : Nat} {y n : Tr} (h : Tu H v (Tr.tst k y n).d) : ∃ a v1 v2, v = .ref a ∧ H a = some (.tup [.int ((k : Nat) : Int), v1, v2]) ∧ Tu H v1 y.d ∧ Tu H v2 n.d := by
  have h' : Tu H v (.tuple [.int ((k : Nat) : Int), y.d, n.d]) := h
  cases h' with
  | @tup a xs _ h1 h2 h3 =>
    cases h3 with
    | cons k1 k2 =>
      cases k2 with
      | cons k3 k4 =>
        cases k4 with
        | cons k5 k6 =>
          cases k6
          cases k1
          exact ⟨a, _, _, rfl, h1, k3, k5⟩
end Kf

set_option Elab.async false
set_option linter.all false
set_option maxRecDepth 100000
set_option maxHeartbeats 4000000
/-! Trees and rows among all data. -/
namespace Kf
open PySem PySem.Spec PyProof.Rows L2 Kg Kd
/-- how many triples a tree has, -1 for no tree -/
def sizeD (m : Int) : PyData → Int
  | .int i => if 0 ≤ i ∧ i ≤ 9 then 0 else -1
  | .tuple [.int k, y, n] => if 0 ≤ k ∧ k < m then (if 0 ≤ sizeD m y ∧ 0 ≤ sizeD m n then 1 + sizeD m y + sizeD m n else -1) else -1
  | _ => -1
theorem sizeD_int (m i : Int) : sizeD m (.int i) = if 0 ≤ i ∧ i ≤ 9 then 0 else -1 := by rw [sizeD]
theorem sizeD_tri (m k : Int) (y n : PyData) : sizeD m (.tuple [.int k, y, n]) = if 0 ≤ k ∧ k < m then (if 0 ≤ sizeD m y ∧ 0 ≤ sizeD m n then 1 + sizeD m y + sizeD m n else -1) else -1 := by rw [sizeD]
theorem sizeD_len {m : Int} : ∀ {ds : List PyData}, ds.length ≠ 3 → sizeD m (.tuple ds) = -1
  | [], _ => by rw [sizeD]; all_goals simp
  | [_], _ => by rw [sizeD]; all_goals simp
  | [_, _], _ => by rw [sizeD]; all_goals simp
  | [_, _, _], h => absurd rfl h
  | _ :: _ :: _ :: _ :: _, _ => by rw [sizeD]; all_goals simp
theorem sizeD_tree {m : Nat} : ∀ {t : Tr}, t.ok m → sizeD m t.d = ((t.size : Nat) : Int)
  | .ans a, h => by
    have h9 : a ≤ 9 := h
    show sizeD m (.int ((a : Nat) : Int)) = 0
    rw [sizeD_int, if_pos (by omega)]
  | .tst k y n, h => by
    obtain ⟨h1, h2, h3⟩ := h
    show sizeD m (.tuple [.int ((k : Nat) : Int), y.d, n.d]) = ((1 + y.size + n.size : Nat) : Int)
    rw [sizeD_tri, sizeD_tree h2, sizeD_tree h3, if_pos (by omega), if_pos (by omega)]
    omega
theorem tree_of_size {m : Nat} (d : PyData) (h : 0 ≤ sizeD m d) : ∃ t : Tr, t.d = d ∧ t.ok m ∧ sizeD m d = ((t.size : Nat) : Int) := by
  match d with
  | .int i =>
    rw [sizeD_int] at h ⊢
    by_cases c : 0 ≤ i ∧ i ≤ 9
    · rw [if_pos c]
      refine ⟨.ans i.toNat, ?_, (by show i.toNat ≤ 9; omega), rfl⟩
      show PyData.int ((i.toNat : Nat) : Int) = .int i
      rw [show ((i.toNat : Nat) : Int) = i by omega]
    · rw [if_neg c] at h; omega
  | .tuple [.int k, y, n] =>
    rw [sizeD_tri] at h ⊢
    by_cases c : 0 ≤ k ∧ k < (m : Nat)
    · rw [if_pos c] at h ⊢
      by_cases c2 : 0 ≤ sizeD m y ∧ 0 ≤ sizeD m n
      · rw [if_pos c2] at h ⊢
        obtain ⟨t1, e1, o1, s1⟩ := tree_of_size y c2.1
        obtain ⟨t2, e2, o2, s2⟩ := tree_of_size n c2.2
        refine ⟨.tst k.toNat t1 t2, ?_, ⟨by omega, o1, o2⟩, ?_⟩
        · show PyData.tuple [.int ((k.toNat : Nat) : Int), t1.d, t2.d] = _
          rw [show ((k.toNat : Nat) : Int) = k by omega, e1, e2]
        · show _ = ((1 + t1.size + t2.size : Nat) : Int)
          rw [s1, s2]; omega
      · rw [if_neg c2] at h; omega
    · rw [if_neg c] at h; omega
  | .none => unfold sizeD at h; omega
  | .bool _ => unfold sizeD at h; omega
  | .str _ => unfold sizeD at h; omega
  | .list _ => unfold sizeD at h; omega
  | .dict _ => unfold sizeD at h; omega
  | .tuple [] => unfold sizeD at h; omega
  | .tuple [_] => rw [sizeD_len (by simp)] at h; omega
  | .tuple [_, _] => rw [sizeD_len (by simp)] at h; omega
  | .tuple (_ :: _ :: _ :: _ :: _) => rw [sizeD_len (by simp)] at h; omega
  | .tuple [.none, _, _] => unfold sizeD at h; omega
  | .tuple [.bool _, _, _] => unfold sizeD at h; omega
  | .tuple [.str _, _, _] => unfold sizeD at h; omega
  | .tuple [.list _, _, _] => unfold sizeD at h; omega
  | .tuple [.tuple _, _, _] => unfold sizeD at h; omega
  | .tuple [.dict _, _, _] => unfold sizeD at h; omega
theorem sizeD_non {m : Int} : ∀ {d : PyData}, (isInt d && !isBool d) = false → isTup d = false → sizeD m d = -1
  | .int i, h, _ => nomatch h
  | .tuple _, _, h => nomatch h
  | .none, _, _ => by rw [sizeD]; all_goals simp
  | .bool _, _, _ => by rw [sizeD]; all_goals simp
  | .str _, _, _ => by rw [sizeD]; all_goals simp
  | .list _, _, _ => by rw [sizeD]; all_goals simp
  | .dict _, _, _ => by rw [sizeD]; all_goals simp
theorem sizeD_first {m : Int} {y n : PyData} : ∀ {d : PyData}, (isInt d && !isBool d) = false → sizeD m (.tuple [d, y, n]) = -1
  | .int i, h => nomatch h
  | .tuple _, _ => by rw [sizeD]; all_goals simp
  | .none, _ => by rw [sizeD]; all_goals simp
  | .bool _, _ => by rw [sizeD]; all_goals simp
  | .str _, _ => by rw [sizeD]; all_goals simp
  | .list _, _ => by rw [sizeD]; all_goals simp
  | .dict _, _ => by rw [sizeD]; all_goals simp
end Kf

set_option Elab.async false
set_option linter.all false
set_option maxRecDepth 100000
set_option maxHeartbeats 4000000
namespace Kc
open PySem PySem.Spec PyProof.Rows L2 Kg Kd Kr Kf
abbrev sNum : Stmt := topS 2
theorem scNum : FnScope ["value"] ["value"] (defScope sNum) := ⟨rfl, rfl, rfl, by decide +kernel, rfl, by decide +kernel, by decide +kernel⟩
/-! ### x is not False, whatever x is -/
theorem op_notBv {X : Cx} : OpR X (compareOp .IsNot) (fun x y H Q => ∃ b : Bool, y = .bl b ∧ Q (.bl (!decide (x = .bl b))) H) := by
  intro pins s σ H x y v u Q I rx ry h
  obtain ⟨b, rfl, q⟩ := h
  cases (show u = Value.bool b from ry)
  cases x with
  | bl a =>
    cases (show v = Value.bool a from rx)
    by_cases e : a = b
    · subst e
      exact wpAny_isNot_self rfl ⟨.bl false, H, I, rfl, by simpa using q⟩
    · exact wpAny_isNot_other rfl (fun z => e (Value.bool.inj z)) ⟨.bl true, H, I, rfl, by simpa [e] using q⟩
  | non => cases (show v = Value.none from rx); exact wpAny_isNot_other rfl (fun z => nomatch z) ⟨.bl true, H, I, rfl, by simpa using q⟩
  | int i => obtain ⟨t, rfl⟩ := rx; exact wpAny_isNot_other rfl (fun z => nomatch z) ⟨.bl true, H, I, rfl, by simpa using q⟩
  | str i => obtain ⟨t, rfl⟩ := rx; exact wpAny_isNot_other rfl (fun z => nomatch z) ⟨.bl true, H, I, rfl, by simpa using q⟩
  | byt i => obtain ⟨t, rfl⟩ := rx; exact wpAny_isNot_other rfl (fun z => nomatch z) ⟨.bl true, H, I, rfl, by simpa using q⟩
  | flt i => obtain ⟨t, rfl⟩ := rx; exact wpAny_isNot_other rfl (fun z => nomatch z) ⟨.bl true, H, I, rfl, by simpa using q⟩
  | ref a => cases (show v = Value.ref a from rx); exact wpAny_isNot_other rfl (fun z => nomatch z) ⟨.bl true, H, I, rfl, by simpa using q⟩
  | ty n => cases (show v = Value.type n from rx); exact wpAny_isNot_other rfl (fun z => nomatch z) ⟨.bl true, H, I, rfl, by simpa using q⟩
theorem op_isBv {X : Cx} : OpR X (compareOp .Is) (fun x y H Q => ∃ b : Bool, y = .bl b ∧ Q (.bl (decide (x = .bl b))) H) := by
  intro pins s σ H x y v u Q I rx ry h
  obtain ⟨b, rfl, q⟩ := h
  cases (show u = Value.bool b from ry)
  cases x with
  | bl a =>
    cases (show v = Value.bool a from rx)
    by_cases e : a = b
    · subst e
      exact wpAny_is_self rfl ⟨.bl true, H, I, rfl, by simpa using q⟩
    · exact wpAny_is_other rfl (fun z => e (Value.bool.inj z)) ⟨.bl false, H, I, rfl, by simpa [e] using q⟩
  | non => cases (show v = Value.none from rx); exact wpAny_is_other rfl (fun z => nomatch z) ⟨.bl false, H, I, rfl, by simpa using q⟩
  | int i => obtain ⟨t, rfl⟩ := rx; exact wpAny_is_other rfl (fun z => nomatch z) ⟨.bl false, H, I, rfl, by simpa using q⟩
  | str i => obtain ⟨t, rfl⟩ := rx; exact wpAny_is_other rfl (fun z => nomatch z) ⟨.bl false, H, I, rfl, by simpa using q⟩
  | byt i => obtain ⟨t, rfl⟩ := rx; exact wpAny_is_other rfl (fun z => nomatch z) ⟨.bl false, H, I, rfl, by simpa using q⟩
  | flt i => obtain ⟨t, rfl⟩ := rx; exact wpAny_is_other rfl (fun z => nomatch z) ⟨.bl false, H, I, rfl, by simpa using q⟩
  | ref a => cases (show v = Value.ref a from rx); exact wpAny_is_other rfl (fun z => nomatch z) ⟨.bl false, H, I, rfl, by simpa using q⟩
  | ty n => cases (show v = Value.type n from rx); exact wpAny_is_other rfl (fun z => nomatch z) ⟨.bl false, H, I, rfl, by simpa using q⟩
theorem iteD {c : Bool} {A B : Prop} (h : c = true) (a : A) : if c = true then A else B := by rw [if_pos h]; exact a
theorem iteE {c : Bool} {A B : Prop} (h : c = false) (b : B) : if c = true then A else B := by rw [h, if_neg Bool.false_ne_true]; exact b
def isNum (d : PyData) : Bool := isInt d && !isBool d
def spNum : Sp := fun vs H Q _ => ∃ (v : V) (d : PyData), vs = [v] ∧ Da Kd.nil H v d ∧ Q (.bl (isNum d)) H
theorem num_int : ∀ {d : PyData}, isNum d = true → ∃ i, d = .int i
  | .int i, _ => ⟨i, rfl⟩
  | .none, h => nomatch h
  | .bool _, h => nomatch h
  | .str _, h => nomatch h
  | .list _, h => nomatch h
  | .tuple _, h => nomatch h
  | .dict _, h => nomatch h
theorem tup_is : ∀ {d : PyData}, isTup d = true → ∃ ds, d = .tuple ds
  | .tuple ds, _ => ⟨ds, rfl⟩
  | .int _, h => nomatch h
  | .none, h => nomatch h
  | .bool _, h => nomatch h
  | .str _, h => nomatch h
  | .list _, h => nomatch h
  | .dict _, h => nomatch h
theorem da_int {av : Addr → Prop} {H : Hp} {v : V} {i : Int} (h : Da av H v (.int i)) : v = .int i := by cases h; rfl
theorem da_tup {av : Addr → Prop} {H : Hp} {v : V} {ds : List PyData} (h : Da av H v (.tuple ds)) : ∃ a xs, v = .ref a ∧ H a = some (.tup xs) ∧ xs.length = ds.length ∧ DaAll av H xs ds ∧ ¬ av a ∧ xs.length ≤ 1000 := by
  cases h with
  | @tup a xs _ na ha hal hA => exact ⟨a, xs, rfl, ha, hA.length, hA, na, hal⟩
theorem da_tst {av : Addr → Prop} {H : Hp} {v : V} {k : Nat} {y n : Tr} (h : Da av H v (Tr.tst k y n).d) : ∃ a v1 v2, v = .ref a ∧ H a = some (.tup [.int ((k : Nat) : Int), v1, v2]) ∧ Da av H v1 y.d ∧ Da av H v2 n.d := by
  obtain ⟨a, xs, rfl, ha, xl, hA, _, _⟩ := da_tup (show Da av H v (.tuple [.int ((k : Nat) : Int), y.d, n.d]) from h)
  match xs, hA with
  | [v0, v1, v2], .cons h0 (.cons h1 (.cons h2 .nil)) =>
    have e := da_int h0
    subst e
    exact ⟨a, v1, v2, rfl, ha, h1, h2⟩
theorem da_two {av : Addr → Prop} {H : Hp} {v : V} {ds : List PyData} (h : Da av H v (.tuple ds)) (l : ds.length = 2) : ∃ a d0 d1 v0 v1, ds = [d0, d1] ∧ v = .ref a ∧ H a = some (.tup [v0, v1]) ∧ Da av H v0 d0 ∧ Da av H v1 d1 := by
  obtain ⟨a, xs, rfl, ha, xl, hA, _, _⟩ := da_tup h
  match ds, l, hA with
  | [d0, d1], _, .cons (v := v0) h0 (.cons (v := v1) h1 .nil) => exact ⟨a, d0, d1, v0, v1, rfl, rfl, ha, h0, h1⟩
structure Bm (mg : Str → Option Value) : Prop where
  set : mg "set" = none
  sorted : mg "sorted" = none
  enum : mg "enumerate" = none
def lotsT (es : List (List Nat)) : List (List Nat) := (List.range es.length).map (lot es)
theorem get_map {α β : Type} {f : α → β} {l : List α} {i : Nat} {x : α} (h : l[i]? = some x) : (l.map f)[i]? = some (f x) := by rw [List.getElem?_map, h]; rfl
/-- the four parts in a list at l -/
structure Fo (H : Hp) (l : Addr) (es : List (List Nat)) (cl ho : List Nat) (sv : Bool) : Prop where
  ex : ∃ e c h, H l = some (.lst [e, c, h, .bl sv]) ∧ Tu H e (pdE es) ∧ Tu H c (pdI cl) ∧ Tu H h (pdI ho)
  el : Eld es sv
  cl : Som es.length cl
  ho : Som es.length ho
theorem Fo.keep {H H' : Hp} {l : Addr} {es : List (List Nat)} {cl ho : List Nat} {sv : Bool} (k : Fo H l es cl ho sv) (f : KF H H') (z : ∀ xs, H l = some (.lst xs) → H' l = some (.lst xs)) : Fo H' l es cl ho sv := by
  obtain ⟨⟨e, c, h, h1, h2, h3, h4⟩, h6, h7, h8⟩ := k
  exact ⟨⟨e, c, h, z _ h1, h2.keep f, h3.keep f, h4.keep f⟩, h6, h7, h8⟩
theorem Fo.same {H H' : Hp} {l : Addr} {es : List (List Nat)} {cl ho : List Nat} {sv : Bool} (k : Fo H l es cl ho sv) (s : Same H H') : Fo H' l es cl ho sv := k.keep (.of_same s) fun _ z => s _ _ z
section
variable {P : Program} {w : World} {K : PySem.W.Frag} {mg : Str → Option Value} {base : Heap} {f : Addr} {fd : FuncData} {k : Nat}
theorem ok_num (F : Fun K "is_number" "is_number" sNum f fd) (B : Bl mg) : FnOk P w K mg base CX0 (k + 1) f fd ["value"] spNum := by
  refine F.ok scNum (fun vs H Q E h => ?_) (fun cdv A outer s H vs Q E hr h => ?_)
  · obtain ⟨v, d, rfl, _⟩ := h
    rfl
  · obtain ⟨v, d, rfl, hd, q⟩ := h
    refine ⟨_, pss_one (ps_ret (pe_and (pe_callB call_isi (by rfl) B.isi boot_isinstance (pa_cons (pv 0) (pa_cons (pe_bltn (v := .ty "int") (by rfl) B.int PyProof.Rows.boot_int rfl) pa_nil))) (pe_one (pe_not (pe_callB call_isi (by rfl) B.isi boot_isinstance (pa_cons (pv 0) (pa_cons (pe_bltn (v := .ty "bool") (by rfl) B.bool PyProof.Rows.boot_bool rfl) pa_nil))))))), ?_⟩
    refine ⟨_, rfl, _, _, _, _, isInt d, rfl, .ty _, hd.ty, kit_ty (kt_int d), _, rfl, ?_⟩
    have e : isNum d = (isInt d && !isBool d) := rfl
    rw [e] at q
    cases hi : isInt d with
    | true =>
      rw [hi] at q
      exact iteT ⟨_, rfl, _, _, _, _, isBool d, rfl, .ty _, hd.ty, kit_ty (kt_bool d), _, rfl, q⟩
    | false =>
      rw [hi] at q
      exact iteF q
end
end Kc

set_option Elab.async false
set_option linter.all false
set_option maxRecDepth 100000
set_option maxHeartbeats 4000000
/-! Own __len__, __eq__, __str__ of an instance. -/
namespace Ko
open PySem PySem.Spec PyProof.Rows L2 Kg Kd
section
variable {X : Cx} {pins : List (Addr × Obj)} {σ : L2.St} {H : Hp} {s : Shared} {g C : Addr} {fd : FuncData} {ps : List Str} {sp : Sp} {n : Nat}
theorem run_atK {A : Around} {Q : VK} {us : List Value} {ws : List V} (F : FnOk X.prog X.w X.K X.mg X.base CX0 n g fd ps sp) (hr : Room n A) (e0 : Env0 X.prog X.w X.K X.mg X.base A X.stack s H) (hb : Binds X.K fd ps []) (I : Inv X pins σ H s) (r : Vals ws us) (h : sp ws H Q E0) :
    codeAny (model X.prog X.w) A (.call (.ref g) ⟨us, []⟩) (fun r s' => match r with | .ok (.ret v) => EP X pins σ Q v s' | .ok _ => False | .error e => X.xe e s') s := by
  have hl : us.length = ps.length := r.length.symm.trans (F.len _ _ _ _ h)
  have bi := hb s us I.kIn (by rw [List.append_nil]; exact hl)
  rw [List.append_nil] at bi
  refine codeAny_mono (F.run A X.stack s H ⟨us, []⟩ us ws Q E0 hr e0 bi r h) fun r s' hq => ?_
  cases r with
  | error e => exact hq.elim
  | ok fl =>
    cases fl with
    | ret u => exact I.after hq
    | next => exact False.elim hq
    | brk => exact False.elim hq
    | cont => exact False.elim hq
theorem inst_ins {a dx : Addr} {fs : List (Str × V)} (I : Inv X pins σ H s) (e : H a = some (.ins C dx fs)) : ∃ od, PySem.W.InstAt s.heap a (PySem.W.instObj C dx) C (some od) := by
  obtain ⟨_, _, _, ho, mA, hn, _⟩ := (show ObjOk X.prog X.w H s.heap a (.ins C dx fs) from I.hok a _ e)
  obtain ⟨od, hd, _⟩ := lookIn_ns hn
  exact ⟨od, ho, rfl, rfl, hd⟩
/-- len(o), o an instance whose class has its own __len__ -/
def rLenO (C : Addr) (sp : Sp) : List V → Hp → VK → Prop := fun xs H Q => ∃ a dx fs, xs = [V.ref a] ∧ H a = some (.ins C dx fs) ∧ sp [.ref a] H (fun z H' => ∃ i : Int, z = .int i ∧ 0 ≤ i ∧ i < 2 ^ 62 ∧ Q (.int i) H') E0
theorem call_lenO (hs : PySem.W.findIn X.K (.ref C) "__len__" = some (some (.ref g))) (hf : PySem.W.isFn X.K (.ref g) = true) (F : FnOk X.prog X.w X.K X.mg X.base CX0 n g fd ps sp) (hr : Room (n + 1) X.A) (hb : Binds X.K fd ps []) : CallR X (.builtin "len") (rLenO C sp) := by
  intro pins s σ H xs us Q I r h
  obtain ⟨a, dx, fs, rfl, ha, q⟩ := h
  obtain ⟨u, rfl, ru⟩ := r.one
  cases (show u = Value.ref a from ru)
  obtain ⟨od, J⟩ := inst_ins I ha
  refine Calls.call_function_entry kind_len plain_len entry_len (args_len1 _) ?_
  unfold Builtin.«len»
  refine wpAny_bind (m := oneArg "len" _) (wpAny_pure ?_)
  refine wpAny_bind (m := callSpecial? (.ref a) (PySem.Str.ofString "__len__")) (PySem.W.special_fn I.kIn J hs (beq_iff_eq.mp hf) (wpAny_mono (wpAny_call (run_atK (us := [.ref a]) (ws := [.ref a]) F (Room.in1 hr) I.env0.in1 hb I (.cons rfl .nil) q)) (fun w s' z => ?_) fun _ _ x => x))
  obtain ⟨z', H', I', rz, i, ei, i0, i1, qz⟩ := z
  subst ei
  obtain ⟨t, e⟩ := (show ∃ t, w = Value.int i t from rz)
  cases e
  refine wpAny_bind (wpAny_holding (wpAny_pure ?_))
  refine wpAny_bind (wpAny_letGo ?_)
  show wpAny _ _ (if i < 0 then _ else _) _ _ _
  rw [if_neg (by omega)]
  show wpAny _ _ (if i ≥ 2 ^ 63 then _ else _) _ _ _
  rw [if_neg (by omega)]
  exact wpAny_bind (wpAny_mkInt (wpAny_pure ⟨_, rfl, .int i, H', I'.tok _, ⟨_, rfl⟩, qz⟩))
/-- o == y by the own __eq__ -/
def rEqO (K : PySem.W.Frag) (C : Addr) (sp : Sp) : R2 := fun x y H Q => ∃ a dx fs tb, x = .ref a ∧ H a = some (.ins C dx fs) ∧ TyX K H y tb ∧ PySem.W.notFirst K C tb = true ∧ sp [x, y] H Q E0
theorem op_eqO (hs : PySem.W.findIn X.K (.ref C) "__eq__" = some (some (.ref g))) (hf : PySem.W.isFn X.K (.ref g) = true) (F : FnOk X.prog X.w X.K X.mg X.base CX0 n g fd ps sp) (hr : Room n X.A) (hb : Binds X.K fd ps []) : OpR X (compareOp .Eq) (rEqO X.K C sp) := by
  intro pins s σ H x y v u Q I rx ry h
  obtain ⟨a, dx, fs, tb, rfl, ha, ty, hn, q⟩ := h
  cases (show v = Value.ref a from rx)
  obtain ⟨od, J⟩ := inst_ins I ha
  obtain ⟨Pk, kx, hp, _⟩ := kit_of I ry ty
  obtain ⟨m, hF⟩ := I.fr
  show wpAny _ _ (richCompare .Eq (.ref a) u) _ _ _
  refine PySem.W.cmp_K (op := .Eq) (tb := tb) hr.units0 hF I.ok.mod.kin J (kx.ty _ _ I.kIn hp) hn hs hf ?_
  refine wpAny_mono (wpAny_call (run_atK (us := [.ref a, u]) (ws := [.ref a, y]) F hr I.env0 hb I (.cons rfl (.cons ry .nil)) q)) (fun w s' z => ?_) fun _ _ x => x
  obtain ⟨z', H', I', rz, qz⟩ := z
  exact SlX.cmpback rz ⟨z', H', I', rz, qz⟩
/-- callSpecialIfBound? where the class has the builtin's -/
theorem ifBoundB {A : Around} {E : Value → Shared → Prop} {M : Model} {K : PySem.W.Frag} {a : Addr} {ox : Obj} {od : Option Obj} {name : Str} {T id : String} {args : List Value} {Q : Option Value → Shared → Prop} (S : Slot T name id) (Y : K.In s.heap) (J : PySem.W.InstAt s.heap a ox C od) (hs : PySem.W.findIn K (.ref C) name = some (some (.builtin id)))
    (h : wpAny M A (call (.builtin id) (.ref a :: args)) (fun v => Q (some v)) E s) : wpAny M A (callSpecialIfBound? (.ref a) name args) Q E s := by
  simp only [callSpecialIfBound?, bindSpecialIfBound?]
  refine wpAny_holding (wpAny_bind (wpAny_bind (wpAny_bind (J.type.here ((PySem.W.looks_findIn Y hs).here ?_)))))
  refine wpAny_bind (wpAny_askSetting (wpAny_ite ?_))
  have fin : wpAny M A (call (.builtin id) ([.ref a] ++ args) >>= fun v => pure (some v)) Q E s := wpAny_bind (wpAny_mono h (fun v s' h' => wpAny_pure h') fun _ _ h' => h')
  split
  · rw [S.bind]
    exact wpAny_bind (wpAny_pure (wpAny_pure (by exact fin)))
  · refine wpAny_tryCatch ?_
    rw [S.bind]
    exact wpAny_bind (wpAny_pure (wpAny_pure (by exact fin)))
/-- o != y by the own __eq__ -/
def rNeO (K : PySem.W.Frag) (C : Addr) (sp : Sp) : R2 := fun x y H Q => ∃ a dx fs tb, x = .ref a ∧ H a = some (.ins C dx fs) ∧ TyX K H y tb ∧ PySem.W.notFirst K C tb = true ∧ sp [x, y] H (fun z H' => ∃ b, z = .bl b ∧ Q (.bl (!b)) H') E0
theorem op_neO (hs : PySem.W.findIn X.K (.ref C) "__eq__" = some (some (.ref g))) (hf : PySem.W.isFn X.K (.ref g) = true) (hne : PySem.W.findIn X.K (.ref C) "__ne__" = some (some (.builtin "object.__ne__"))) (hob : PySem.W.subIn X.K (.ref C) (.type "object") = some true)
    (F : FnOk X.prog X.w X.K X.mg X.base CX0 n g fd ps sp) (hr : Room (n + 1) X.A) (hb : Binds X.K fd ps []) : OpR X (compareOp .NotEq) (rNeO X.K C sp) := by
  intro pins s σ H x y v u Q I rx ry h
  obtain ⟨a, dx, fs, tb, rfl, ha, ty, hn, q⟩ := h
  cases (show v = Value.ref a from rx)
  obtain ⟨od, J⟩ := inst_ins I ha
  obtain ⟨Pk, kx, hp, _⟩ := kit_of I ry ty
  have hu1 : X.A.in1.units < cLine := (Room.in1 hr).units0
  have one : wpAny (model X.prog X.w) X.A (tryCompare (.ref a) "__ne__" u) (fun r s' => ∃ v, r = some v ∧ EP X pins σ Q v s') X.xe s := by
    unfold tryCompare
    refine wpAny_bind (ifBoundB PySem.F.cmp_object.ne I.kIn J hne (wpAny_call (codeAny_call_builtin PySem.F.cmp_object.ne.plain PySem.F.cmpEntry_ne (PySem.W.check_slot PySem.F.cmpKind_ne PySem.F.cmpSplit_ne (J.type.andThen (PySem.W.looks_subIn I.kIn hob)) (PySem.F.cmpArgs_ne _ _) ?_))))
    unfold Builtin.«object.__ne__»
    repeat (first
      | with_reducible refine wpAny_cRoomFor hu1 ?_
      | (refine wpAny_bind (m := callSpecialIfBound? (.ref a) (Str.ofString "__eq__") [u])
          (PySem.W.ifBound_K I.kIn J hs hf (wpAny_mono (wpAny_call (run_atK (us := [.ref a, u]) (ws := [.ref a, y]) F (Room.in1 hr) I.env0.in1 hb I (.cons rfl (.cons ry .nil)) q)) (fun r s' hr' => by
            obtain ⟨z', H', I', rz, b, eb, qz⟩ := hr'
            subst eb
            cases (show r = Value.bool b from rz)
            repeat (first | exact ⟨.bool (!b), rfl, ⟨.bl (!b), H', I', rfl, qz⟩⟩ | exact wpAny_pure ⟨.bool (!b), rfl, ⟨.bl (!b), H', I', rfl, qz⟩⟩ | (refine wpAny_bind (m := truthy (.bool _)) (wpAny_truthy_bool ?_)) | wp_step)) fun _ _ e => e)))
      | wp_step)
  show wpAny _ _ (richCompare .NotEq (.ref a) u) _ _ _
  unfold richCompare
  simp only [oneThing_ref]
  refine wpAny_holding (wpAny_bind (wpAny_cRoomFor hr.units0 ?_))
  refine wpAny_bind (J.type.here (wpAny_bind ((kx.ty _ _ I.kIn hp).here ?_)))
  split
  · rename_i q
    have e : PySem.W.subIn X.K tb (.ref C) = some false := by
      rcases Bool.or_eq_true_iff.mp hn with e | e
      · rw [beq_iff_eq.mp e] at q; simp at q
      · exact beq_iff_eq.mp e
    refine wpAny_bind ((PySem.W.looks_subIn I.kIn e).here ?_)
    simp only [Bool.false_eq_true, if_false]
    refine wpAny_bind (wpAny_mono one (fun r s' z => ?_) fun _ _ e => e)
    obtain ⟨v, rfl, hq⟩ := z
    exact wpAny_pure hq
  · refine wpAny_bind (wpAny_pure ?_)
    simp only [Bool.false_eq_true, if_false]
    refine wpAny_bind (wpAny_mono one (fun r s' z => ?_) fun _ _ e => e)
    obtain ⟨v, rfl, hq⟩ := z
    exact wpAny_pure hq
/-- str(o) by the own __str__ -/
theorem str_own {A : Around} {E : Value → Shared → Prop} {prog : Program} {w : World} {K : PySem.W.Frag} {x f : Addr} {ox : Obj} {odd : Option Obj} {Q : Value → Shared → Prop} (Y : K.In s.heap) (J : PySem.W.InstAt s.heap x ox C odd) (hs : PySem.W.findIn K (.ref C) "__str__" = some (some (.ref f))) (hf : PySem.W.isFn K (.ref f) = true) (hu : A.in1.in1.units < cLine)
    (h : wpAny (model prog w) A.in1.in1 (call (.ref f) [.ref x]) (fun r s₁ => ∃ n u, r = Value.str n u ∧ Q r s₁) E s) : wpAny (model prog w) A (call (.type "str") [.ref x]) Q E s := by
  refine callType_codes (T := "str") (Bi := Builtin.«object.__init__») (Q₁ := fun r s₁ => ∃ n u, r = Value.str n u ∧ Q r s₁) PySem.F.called_str (PySem.F.typeCall_str_1 _) PySem.F.entry_object_init ?_ ?_
  · refine codeAny_of_tree ?_
    show wpAny _ A.in1.in1 (do checkBuiltinCall "str.__new__" ⟨[.type "str", .ref x], []⟩; again (.builtin "str.__new__" ⟨[.type "str", .ref x], []⟩)) _ _ s
    refine wpAny_bind (wpAny_of_eq (PySem.F.newCall_str_1 _) (wpAny_pure ⟨plainId_quiet (by decide +kernel) _, codeAny_builtin PySem.F.entry_str_new ?_⟩))
    rw [Around.under_plainId (by decide +kernel) _]
    rw [str_new_tree (.ref x)]
    refine wpAny_bind (wpAny_pure ?_)
    refine wpAny_bind (wpAny_of_eq isSubtype_str_str ?_)
    refine wpAny_bind ?_
    unfold Builtin.Str.strOf
    rw [if_neg (show ¬ Builtin.Str.isExactStr (Value.ref x) = true from Bool.false_ne_true)]
    refine wpAny_bind (wpAny_cRoomFor hu ?_)
    refine wpAny_bind (m := callSpecial? (.ref x) (Str.ofString "__str__")) (PySem.W.special_fn Y J hs (beq_iff_eq.mp hf) (wpAny_mono h (fun r s₁ hr => ?_) fun _ _ y => y))
    obtain ⟨n, u, rfl, hq⟩ := hr
    refine wpAny_bind (m := asStr? _) (wpAny_pure ?_)
    exact wpAny_pure (wpAny_pure ⟨n, u, rfl, hq⟩)
  · rintro obj s₁ ⟨n, u, rfl, hq⟩
    exact ⟨typeIs_str _ _ _, PySem.F.args_object_init_2 _ _, object_init_meets PySem.F.called_str.init.lookup PySem.F.called_str.made (by decide) prog w A.in1 _ s₁ ⟨typeIs_str _ _ _, rfl, hq⟩⟩
def rStrO (C : Addr) (sp : Sp) : List V → Hp → VK → Prop := fun xs H Q => ∃ a dx fs, xs = [V.ref a] ∧ H a = some (.ins C dx fs) ∧ sp [.ref a] H (fun z H' => ∃ x : Str, z = .str x ∧ Q (.str x) H') E0
theorem call_strO (hs : PySem.W.findIn X.K (.ref C) "__str__" = some (some (.ref g))) (hf : PySem.W.isFn X.K (.ref g) = true) (F : FnOk X.prog X.w X.K X.mg X.base CX0 n g fd ps sp) (hr : Room (n + 2) X.A) (hb : Binds X.K fd ps []) : CallR X (.type "str") (rStrO C sp) := by
  intro pins s σ H xs us Q I r h
  obtain ⟨a, dx, fs, rfl, ha, q⟩ := h
  obtain ⟨u, rfl, ru⟩ := r.one
  cases (show u = Value.ref a from ru)
  obtain ⟨od, J⟩ := inst_ins I ha
  have hr2 : Room n X.A.in1.in1 := (show Room (n + 1) X.A.in1 from Room.in1 hr).in1
  refine str_own I.kIn J hs hf hr2.units0 (wpAny_mono (wpAny_call (run_atK (us := [.ref a]) (ws := [.ref a]) F hr2 I.env0.in1.in1 hb I (.cons rfl .nil) q)) (fun w s' z => ?_) fun _ _ x => x)
  obtain ⟨z', H', I', rz, i, ei, qz⟩ := z
  subst ei
  obtain ⟨t, e⟩ := (show ∃ t, w = Value.str i t from rz)
  cases e
  exact ⟨i, t, rfl, .str i, H', I', ⟨t, rfl⟩, qz⟩
end
end Ko

set_option Elab.async false
set_option linter.all false
set_option maxRecDepth 100000
set_option maxHeartbeats 4000000
/-! Defs, methods, properties of the program with their promises, each as one fact. -/
namespace Kl
open PySem PySem.Spec PyProof.Rows L2 Kg Kd
section
variable (P : Program) (w : World) (K : PySem.W.Frag) (mg : Str → Option Value) (base : Heap)
/-- a def of the module -/
structure Cal (nm : Str) (lv : Nat) (ps : List Str) (sp : Sp) : Prop where
  ex : ∃ f fd, mg nm = some (.ref f) ∧ PySem.W.keepIn K (.ref f) = true ∧ Binds K fd ps [] ∧ FnOk P w K mg base CX0 lv f fd ps sp
/-- a def that is promised where no repr runs -/
structure CalG (nm : Str) (lv : Nat) (ps : List Str) (sp : Sp) : Prop where
  ex : ∃ f fd, mg nm = some (.ref f) ∧ PySem.W.keepIn K (.ref f) = true ∧ Binds K fd ps [] ∧ FnG P w K mg base lv f fd ps sp
/-- a method of the class at C -/
structure MCal (C : Addr) (m : Str) (lv : Nat) (ps : List Str) (sp : Sp) : Prop where
  ex : ∃ f fd, Meth K C m f ∧ Binds K fd ps [] ∧ FnOk P w K mg base CX0 lv f fd ps sp
/-- a property of the class at C -/
structure PCal (C : Addr) (m : Str) (lv : Nat) (sp : Sp) : Prop where
  ex : ∃ p g fd, PropOf K C m p g ∧ Binds K fd ["self"] [] ∧ FnOk P w K mg base CX0 lv g fd ["self"] sp
/-- a special method of the class at C -/
structure SCal (C : Addr) (m : Str) (lv : Nat) (ps : List Str) (sp : Sp) : Prop where
  ex : ∃ g fd, PySem.W.findIn K (.ref C) m = some (some (.ref g)) ∧ PySem.W.isFn K (.ref g) = true ∧ Binds K fd ps [] ∧ FnOk P w K mg base CX0 lv g fd ps sp
end
section
variable {X : Cx} {lv : Nat} {nm m : Str} {C : Addr} {ps : List Str} {sp : Sp} {p pos apos : Pos} {e o : Expr} {es : List Expr} {t : TA} {ta : TE}
theorem pe_cal (c : Cal X.prog X.w X.K X.mg X.base nm lv ps sp) (hr : Room lv X.A) (hg : Gl X nm) (ha : PA X (e :: es) t) (hdb : (nm == ("__debug__" : Str)) = false := by decide) (he : starEach (e :: es) X.env = (false, eval e X.env) :: starEach es X.env := by rfl) (hpl : (backTo pos (starEach es X.env)).any (·.1) = false := by rfl) :
    PE X (.Call (.Name nm p) (e :: es) [] pos) (tCall sp [] E0 t) := by
  obtain ⟨f, fd, g, k, b, F⟩ := c.ex
  exact pe_call F hr hg g k b .nil pass0 ha hdb he hpl
theorem pe_calG (c : CalG X.prog X.w X.K X.mg X.base nm lv ps sp) (hgu : X.A.guards = some []) (hr : Room lv X.A) (hg : Gl X nm) (ha : PA X (e :: es) t) (hdb : (nm == ("__debug__" : Str)) = false := by decide) (he : starEach (e :: es) X.env = (false, eval e X.env) :: starEach es X.env := by rfl) (hpl : (backTo pos (starEach es X.env)).any (·.1) = false := by rfl) :
    PE X (.Call (.Name nm p) (e :: es) [] pos) (tCall sp [] E0 t) := by
  obtain ⟨f, fd, g, k, b, F⟩ := c.ex
  exact pe_callG F hgu hr hg g k b ha hdb he hpl
theorem pe_mcal {pl : Sem Bool} (he : PE X o ta) (c : Cls X.K C) (M : MCal X.prog X.w X.K X.mg X.base C m lv ps sp) (hr : Room lv X.A) (ha : PA X (e :: es) t)
    (hst : starEach (e :: es) X.env = (false, eval e X.env) :: starEach es X.env := by rfl) (hpl : (backTo pos (starEach es X.env)).any (·.1) = false := by rfl)
    (ht : eval (.Call (.Attribute o m apos) (e :: es) [] pos) X.env = (do
      let ov ← eval o X.env
      standAt apos.atName
      let (f, first) ← holding [ov] (getMethod ov m pl)
      callWith pos f first (backTo pos (starEach (e :: es) X.env)) (backToKw pos (keywordEach [] X.env))) := by rfl) : PE X (.Call (.Attribute o m apos) (e :: es) [] pos) (tMeth C m sp [] E0 ta t) := by
  obtain ⟨f, fd, hm, b, F⟩ := M.ex
  exact pe_meth he c hm F hr b .nil pass0 ha hst hpl ht
theorem pe_mcal0 {pl : Sem Bool} (he : PE X o ta) (c : Cls X.K C) (M : MCal X.prog X.w X.K X.mg X.base C m lv ps sp) (hr : Room lv X.A)
    (ht : eval (.Call (.Attribute o m apos) [] [] pos) X.env = (do
      let ov ← eval o X.env
      standAt apos.atName
      let (f, first) ← holding [ov] (getMethod ov m pl)
      callWith pos f first (backTo pos (starEach [] X.env)) (backToKw pos (keywordEach [] X.env))) := by rfl) : PE X (.Call (.Attribute o m apos) [] [] pos) (tMeth C m sp [] E0 ta tNil) := by
  obtain ⟨f, fd, hm, b, F⟩ := M.ex
  exact pe_meth0 he c hm F hr b .nil pass0 ht
theorem pe_pcal (he : PE X e ta) (c : Cls X.K C) (M : PCal X.prog X.w X.K X.mg X.base C m lv sp) (hr : Room (lv + 1) X.A) (hab : attributeBase e m X.env (eval e X.env) = eval e X.env := by rfl) : PE X (.Attribute e m pos) (tProp C sp [] E0 ta) := by
  obtain ⟨p, g, fd, hp, b, F⟩ := M.ex
  exact pe_prop he c hp F hr b .nil pass0 hab
theorem op_eqC {K : PySem.W.Frag} (h : X.K = K) (S : SCal X.prog X.w K X.mg X.base C "__eq__" lv ps sp) (hr : Room lv X.A) : OpR X (compareOp .Eq) (Ko.rEqO K C sp) := by
  subst h
  obtain ⟨g, fd, h1, h2, b, F⟩ := S.ex
  exact Ko.op_eqO h1 h2 F hr b
theorem op_neC {K : PySem.W.Frag} (h : X.K = K) (S : SCal X.prog X.w K X.mg X.base C "__eq__" lv ps sp) (hne : PySem.W.findIn K (.ref C) "__ne__" = some (some (.builtin "object.__ne__"))) (hob : PySem.W.subIn K (.ref C) (.type "object") = some true) (hr : Room (lv + 1) X.A) : OpR X (compareOp .NotEq) (Ko.rNeO K C sp) := by
  subst h
  obtain ⟨g, fd, h1, h2, b, F⟩ := S.ex
  exact Ko.op_neO h1 h2 hne hob F hr b
theorem call_lenC (S : SCal X.prog X.w X.K X.mg X.base C "__len__" lv ps sp) (hr : Room (lv + 1) X.A) : CallR X (.builtin "len") (Ko.rLenO C sp) := by
  obtain ⟨g, fd, h1, h2, b, F⟩ := S.ex
  exact Ko.call_lenO h1 h2 F hr b
theorem call_strC (S : SCal X.prog X.w X.K X.mg X.base C "__str__" lv ps sp) (hr : Room (lv + 2) X.A) : CallR X (.type "str") (Ko.rStrO C sp) := by
  obtain ⟨g, fd, h1, h2, b, F⟩ := S.ex
  exact Ko.call_strO h1 h2 F hr b
/-! ### t + u and t[a:b] of tuples, whether a new one is made or not -/
def rCatN : R2 := fun x y H Q => ∃ a b xs ys, x = .ref a ∧ y = .ref b ∧ H a = some (.tup xs) ∧ H b = some (.tup ys) ∧ xs.length + ys.length ≤ 1000 ∧ ∀ p H', Same H H' → H' p = some (.tup (xs ++ ys)) → Q (.ref p) H'
theorem op_catN : OpR X (binaryOp .Add) rCatN := by
  intro pins s σ H x y v u Q I rx ry h
  obtain ⟨a, b, xs, ys, rfl, rfl, ha, hb, hl, q⟩ := h
  refine op_catA pins s σ H _ _ v u Q I rx ry ⟨a, b, xs, ys, rfl, rfl, SqT.of ha, SqT.of hb, Nat.le_of_lt (small1000 hl), fun z => ?_, fun _ z => ?_, fun _ _ p np => ?_⟩
  · subst z; exact q b H (Same.refl _) hb
  · subst z; exact q a H (Same.refl _) (by rw [List.append_nil]; exact ha)
  · exact q p _ (same_new np) upd_same
def rSlN : V → Option Int → Option Int → Hp → VK → Prop := fun x lo hi H Q => ∃ a xs, x = .ref a ∧ H a = some (.tup xs) ∧ ∀ p H', Same H H' → H' p = some (.tup (cutV xs lo hi)) → Q (.ref p) H'
theorem sl_tupN : SlR X rSlN := by
  intro pins s σ H x v vl vu lo hi sl Q I rx hs pl pu h
  obtain ⟨a, xs, rfl, ha, q⟩ := h
  refine sl_tupA pins s σ H _ v vl vu lo hi sl Q I rx hs pl pu ⟨a, xs, rfl, SqT.of ha, fun z => ?_, fun _ p np => ?_⟩
  · refine q a H (Same.refl _) ?_
    have e : cutV xs lo hi = xs := by
      unfold cutV
      rw [z.1, z.2, List.drop_zero, Nat.sub_zero, List.take_length]
    rw [e]; exact ha
  · exact q p _ (same_new np) upd_same
/-- tuple(x), x a list or a tuple -/
def rTupN : List V → Hp → VK → Prop := fun xs H Q => ∃ p ys, xs = [.ref p] ∧ (H p = some (.lst ys) ∨ H p = some (.tup ys)) ∧ ∀ l H', Same H H' → H' l = some (.tup ys) → Q (.ref l) H'
theorem call_tupN : CallR X (.type "tuple") rTupN := by
  intro pins s σ H xs us Q I r h
  obtain ⟨p, ys, rfl, hp, q⟩ := h
  refine call_tuple_of pins s σ H _ us Q I r ⟨p, ys, rfl, ?_⟩
  rcases hp with h | h
  · exact .inl ⟨SqL.of h, fun l nl => q l _ (same_new nl) upd_same⟩
  · exact .inr ⟨SqT.of h, q p H (Same.refl _) h⟩
end
end Kl

set_option Elab.async false
set_option linter.all false
set_option maxRecDepth 100000
set_option maxHeartbeats 4000000
namespace Kc
open PySem PySem.Spec PyProof.Rows L2 Kg Kd Kr Kf
/-! ### draws -/
theorem DeckAt.put {H : Hp} {d la lb x : Addr} {n : Nat} {o : HO} (D : DeckAt H d la lb n) (n1 : d ≠ x) (n2 : la ≠ x) (n3 : lb ≠ x) : DeckAt (upd H x o) d la lb n := by
  obtain ⟨⟨xs, ys, t, h1, h2, h3, h4⟩, m1, m2, m3⟩ := D
  exact ⟨⟨xs, ys, t, by rw [upd_ne n1]; exact h1, by rw [upd_ne n2]; exact h2, by rw [upd_ne n3]; exact h3, h4⟩, m1, m2, m3⟩
/-- from H on some draws were made -/
structure Go (H : Hp) (d la lb : Addr) (n : Nat) (H' : Hp) : Prop where
  b0 : ∃ m, DeckAt H d la lb m
  now : DeckAt H' d la lb n
  kp : Keep (dk d la) H H'
section
variable {H H1 H2 : Hp} {d la lb x : Addr} {n m : Nat} {o : HO}
theorem Go.refl (D : DeckAt H d la lb n) : Go H d la lb n H := ⟨⟨n, D⟩, D, Keep.refl _ _⟩
theorem Go.draw (g : Go H d la lb n H1) (D : DeckAt H2 d la lb m) (k : Keep (dk d la) H1 H2) : Go H d la lb m H2 := ⟨g.b0, D, g.kp.trans k⟩
theorem Go.same (g : Go H d la lb n H1) (s : Same H1 H2) : Go H d la lb n H2 := ⟨g.b0, g.now.same s, g.kp.trans (.of_same s)⟩
theorem Go.less (g : Go H d la lb n H1) (h : m ≤ n) : Go H d la lb m H1 := ⟨g.b0, g.now.less h, g.kp⟩
theorem Go.trans (g : Go H d la lb n H1) (g2 : Go H1 d la lb m H2) : Go H d la lb m H2 := ⟨g.b0, g2.now, g.kp.trans g2.kp⟩
theorem Go.off (g : Go H d la lb n H1) (h : H x = none) : d ≠ x ∧ la ≠ x ∧ lb ≠ x := by
  obtain ⟨m, D⟩ := g.b0
  obtain ⟨a, b, c⟩ := D.tracked
  exact ⟨fun z => a (by rw [z]; exact h), fun z => b (by rw [z]; exact h), fun z => c (by rw [z]; exact h)⟩
theorem Go.put (g : Go H d la lb n H1) (h : H x = none) : Go H d la lb n (upd H1 x o) := by
  obtain ⟨a, b, c⟩ := g.off h
  exact ⟨g.b0, g.now.put a b c, fun e u z nz => by rw [upd_ne (ne_of_none z h)]; exact g.kp e u z nz⟩
theorem Go.put1 (g : Go H d la lb n H1) (h : H1 x = none) (h0 : H x = none) : Go H d la lb n (upd H1 x o) := g.same (same_new h)
theorem Go.free (g : Go H d la lb n H1) (h : H1 x = none) : H x = none := by
  cases e : H x with
  | none => rfl
  | some u =>
    obtain ⟨a, b, c⟩ := g.now.tracked
    have z := g.kp x u e (by rintro (z | z) <;> (rw [z] at h; contradiction))
    rw [h] at z; cases z
theorem Go.at_ (g : Go H d la lb n H1) (h : H x = some o) (n1 : d ≠ x) (n2 : la ≠ x) : H1 x = some o := g.kp x o h (by rintro (z | z) <;> (rw [z] at n1 n2; contradiction))
theorem Go.kf (g : Go H d la lb n H1) : KF H H1 := fun a o h f => by
  obtain ⟨m, ⟨xs, ys, t, h1, h2, _⟩, _⟩ := g.b0
  refine g.kp a o h ?_
  rintro (z | z)
  · rw [z, h1] at h; cases h; exact f
  · rw [z, h2] at h; cases h; exact f
end
/-! ### data of kinds -/
theorem lay_iD : ∀ xs : List Nat, PyData.canLayAll0 (xs.map iD) = true
  | [] => rfl
  | x :: r => by
    show (PyData.canLay0 (.int _) && PyData.canLayAll0 (r.map iD)) = true
    rw [lay_iD r]; rfl
theorem dep_iD : ∀ xs : List Nat, PyData.depthAll (xs.map iD) = 0
  | [] => rfl
  | x :: r => by
    show max (PyData.depth (.int _)) (PyData.depthAll (r.map iD)) = 0
    rw [dep_iD r]; rfl
theorem shaped_of {d : PyData} (h1 : PyData.canLay0 d = true) (h2 : d.depth ≤ 64) : SeqAt.shaped d = true := by
  unfold SeqAt.shaped
  rw [Bool.and_eq_true]
  exact ⟨h1, decide_eq_true h2⟩
theorem lay_pdI (l : List Nat) : PyData.canLay0 (pdI l) = true := lay_iD l
theorem dep_pdI (l : List Nat) : (pdI l).depth = 1 := by
  show PyData.depthAll (l.map iD) + 1 = 1
  rw [dep_iD]
theorem sh_pdI (l : List Nat) : SeqAt.shaped (pdI l) = true := shaped_of (lay_pdI l) (by rw [dep_pdI]; decide)
theorem lay_pdIs : ∀ es : List (List Nat), PyData.canLayAll0 (es.map pdI) = true
  | [] => rfl
  | x :: r => by
    show (PyData.canLay0 (pdI x) && PyData.canLayAll0 (r.map pdI)) = true
    rw [lay_pdIs r, lay_pdI]; rfl
theorem dep_pdIs : ∀ es : List (List Nat), PyData.depthAll (es.map pdI) ≤ 1
  | [] => Nat.zero_le _
  | x :: r => by
    show max (pdI x).depth (PyData.depthAll (r.map pdI)) ≤ 1
    have := dep_pdIs r
    rw [dep_pdI]; omega
theorem dep_pdE (es : List (List Nat)) : (pdE es).depth ≤ 2 := by
  show PyData.depthAll (es.map pdI) + 1 ≤ 2
  have := dep_pdIs es
  omega
theorem sh_pdE (es : List (List Nat)) : SeqAt.shaped (pdE es) = true := shaped_of (lay_pdIs es) (by have := dep_pdE es; omega)
theorem eqv_iDs : ∀ l m : List Nat, PyData.eqvAll (l.map iD) (m.map iD) = decide (l = m)
  | [], [] => by simp [PyData.eqvAll]
  | [], _ :: _ => by simp [PyData.eqvAll]
  | _ :: _, [] => by simp [PyData.eqvAll]
  | a :: l, b :: m => by
    have z := eqv_iDs l m
    simp only [List.map_cons, PyData.eqvAll, z, iD, PyData.eqv]
    by_cases h : a = b
    · subst h; simp
    · have h2 : ¬ ((a : Int) = (b : Int)) := by omega
      simp [h, h2]
theorem eqv_pdI (l m : List Nat) : PyData.eqv (pdI l) (pdI m) = decide (l = m) := by
  unfold pdI
  rw [PyData.eqv, eqv_iDs]
theorem eqv_pdIs : ∀ l m : List (List Nat), PyData.eqvAll (l.map pdI) (m.map pdI) = decide (l = m)
  | [], [] => by simp [PyData.eqvAll]
  | [], _ :: _ => by simp [PyData.eqvAll]
  | _ :: _, [] => by simp [PyData.eqvAll]
  | a :: l, b :: m => by
    have z := eqv_pdIs l m
    simp only [List.map_cons, PyData.eqvAll, z, eqv_pdI]
    by_cases h : a = b
    · subst h; simp
    · simp [h]
theorem eqv_pdE (l m : List (List Nat)) : PyData.eqv (pdE l) (pdE m) = decide (l = m) := by
  unfold pdE
  rw [PyData.eqv, eqv_pdIs]
theorem som_snoc {n : Nat} {l : List Nat} (h : Som n l) : Som (n + 1) (l ++ [n]) := by
  refine ⟨List.pairwise_append.mpr ⟨h.asc, List.pairwise_singleton .., fun a ha b hb => ?_⟩, fun x hx => ?_⟩
  · rw [List.mem_singleton.mp hb]; exact h.low a ha
  · rcases List.mem_append.mp hx with z | z
    · have := h.low x z; omega
    · rw [List.mem_singleton.mp z]; omega
theorem som_up {n m : Nat} {l : List Nat} (h : Som n l) (z : n ≤ m) : Som m l := ⟨h.asc, fun x hx => Nat.lt_of_lt_of_le (h.low x hx) z⟩
end Kc

set_option Elab.async false
set_option linter.all false
set_option maxRecDepth 100000
set_option maxHeartbeats 4000000
namespace Kc
open PySem PySem.Spec PyProof.Rows L2 Kg Kd Kr Kf
abbrev sSome : Stmt := topS 33
abbrev sFour : Stmt := topS 34
abbrev nSome : List Str := ["_law_deck_here", "_law_many", "_law_most", "_law_left", "_law_number"]
abbrev nFour : List Str := ["_law_deck_here", "_law_most", "_law_many", "_law_several", "_law_elders", "_law_kind", "_law_some_here", "_law_closed", "_law_hollow"]
theorem scSome : FnScope nSome ["_law_deck_here", "_law_many", "_law_most"] (defScope sSome) := ⟨rfl, rfl, rfl, by decide +kernel, rfl, by decide +kernel, by decide +kernel⟩
theorem scFour : FnScope nFour ["_law_deck_here", "_law_most"] (defScope sFour) := ⟨rfl, rfl, rfl, by decide +kernel, rfl, by decide +kernel, by decide +kernel⟩
def spSome : Sp := fun vs H Q _ => ∃ (d la lb : Addr) (n m b : Nat), vs = [.ref d, .int (n : Nat), .int (m : Nat)] ∧ n ≤ 6 ∧ DeckAt H d la lb (b + n) ∧
  ∀ H' p l, Go H d la lb b H' → H p = none → Tu H' (.ref p) (pdI l) → Som n l → l.length ≤ m → Q (.ref p) H'
def spFour : Sp := fun vs H Q _ => ∃ (d la lb : Addr) (m b : Nat), vs = [.ref d, .int (m : Nat)] ∧ 1 ≤ m ∧ m ≤ 6 ∧ DeckAt H d la lb (b + 64) ∧
  ∀ H' l es cl ho sv, Go H d la lb b H' → H l = none → Fo H' l es cl ho sv → es.length ≤ m → Q (.ref l) H'
section
variable {P : Program} {w : World} {K : PySem.W.Frag} {mg : Str → Option Value} {base : Heap} {f : Addr} {fd : FuncData} {k : Nat}
theorem ok_some {fN : Addr} {dN : FuncData} (F : Fun K "_law_some" "_law_some" sSome f fd) (B : Bl mg) (GN : FnOk P w K mg base CX0 1 fN dN ["_law_deck_here", "_law_many"] spNext) (kN : PySem.W.keepIn K (.ref fN) = true) (bN : Binds K dN ["_law_deck_here", "_law_many"] []) (gN : mg "_law_next" = some (.ref fN)) : FnOk P w K mg base CX0 2 f fd ["_law_deck_here", "_law_many", "_law_most"] spSome := by
  refine F.ok scSome (fun vs H Q E h => ?_) (fun cdv A outer s H vs Q E hr h => ?_)
  · obtain ⟨d, la, lb, n, m, b, rfl, _⟩ := h
    rfl
  · obtain ⟨d, la, lb, n, m, b, rfl, hn, D, q⟩ := h
    refine ⟨_, pss_cons (ps_setLc (i := 3) (own := [("_law_number", 4)]) (g := gName 4) rfl scSome.nd rfl rfl (sw_true rfl rfl rfl (by decide +kernel)) (pi_range1 (by rfl) B.range (pa_cons (pv 1) pa_nil))
        (blkOk_by (N := nSome) (sc := defScope sSome) (by decide +kernel)) (fun _ _ _ _ _ => pg_name (i := 4) scSome.nd rfl (Or.inl rfl)) (fun _ _ _ _ _ => pts_one (pt_cmpR op_eq (pe_call GN hr (by rfl) gN kN bN .nil pass0 (pa_cons (pv 0) (pa_cons pe_int pa_nil))) pe_int (nomark _)))
        (fun _ _ _ _ _ => pv 4))
      (pss_one (ps_ret (pe_callTy call_tuple_of (by rfl) B.tuple PyProof.Rows.boot_tuple (pa_cons (pe_slice sl_list (pv 3) po_none (po_some (pv 2))) pa_nil)))), ?_⟩
    refine ⟨_, rfl, (n : Nat), rfl, by omega, by omega, fun Dl nD => ?_⟩
    refine lc_range (lo := 0) (n := ((n : Nat) : Int).toNat) (fun i H1 => ∃ l : List Nat, Go H d la lb (b + (n - i)) H1 ∧ H1 Dl = some (.lst (l.map iV)) ∧ Som i l) ⟨[], (Go.refl D).same (same_new nD), upd_same, ⟨.nil, fun x hx => nomatch hx⟩⟩ (fun i H1 hi p => ?_) (fun H1 p => ?_)
    · obtain ⟨l, g, hD, sl⟩ := p
      rw [Int.toNat_natCast] at hi
      have ll := sl.len
      obtain ⟨o1, o2, o3⟩ := g.off nD
      refine ⟨rfl, _, rfl, d, la, lb, 2, b + (n - (i + 1)), rfl, by decide, by decide, g.now.less (by omega), fun v H2 _ _ D2 k2 => ⟨rfl, _, rfl, ?_⟩⟩
      have g2 := g.draw D2 k2
      have hD2 := k2 _ _ hD (by rintro (z | z) <;> (rw [z] at o1 o2; contradiction))
      refine ite2 (fun _ => ?_) (fun _ => ?_)
      · refine ⟨_, rfl, _, hD2, ?_, l ++ [i], ?_, ?_, som_snoc sl⟩
        · rw [List.length_map]; exact small1000 (by omega)
        · exact g2.put nD
        · rw [upd_same, List.map_append]
          show some (HO.lst (l.map iV ++ [V.int (0 + (i : Nat))])) = _
          rw [Int.zero_add]; rfl
      · exact ⟨l, g2, hD2, som_up sl (by omega)⟩
    · obtain ⟨l, g, hD, sl⟩ := p
      rw [Int.toNat_natCast] at sl g
      have ll := sl.len
      refine ⟨_, rfl, _, rfl, _, rfl, Dl, _, rfl, SqL.of hD, fun p np => ?_⟩
      have e1 : cutV (l.map iV) none (some (m : Nat)) = (l.take m).map iV := by
        unfold cutV
        rw [HT.sIx_none, HT.sIx_nat, List.length_map, List.drop_zero, Nat.sub_zero, ← List.map_take]
        congr 1
        by_cases h : m ≤ l.length
        · rw [Nat.min_eq_left h]
        · rw [Nat.min_eq_right (by omega), List.take_of_length_le (by omega), List.take_of_length_le (by omega)]
      rw [e1]
      have g2 := g.same (same_new (o := HO.lst ((l.take m).map iV)) np)
      refine ⟨p, _, rfl, .inl ⟨SqL.of upd_same, fun t nt => ?_⟩⟩
      have g3 := g2.same (same_new (o := HO.tup ((l.take m).map iV)) nt)
      have tl : (l.take m).length ≤ l.length := by rw [List.length_take]; omega
      refine q _ t (l.take m) (g3.less (by omega)) (g2.free nt) (tu_ints upd_same (by omega)) ⟨sl.asc.sublist (List.take_sublist ..), fun x hx => sl.low x (List.mem_of_mem_take hx)⟩ (by rw [List.length_take]; omega)
end
end Kc

set_option Elab.async false
set_option linter.all false
set_option maxRecDepth 100000
set_option maxHeartbeats 8000000
namespace Kc
open PySem PySem.Spec PyProof.Rows L2 Kg Kd Kr Kf
theorem eqv_nilT (l : List Nat) : PyData.eqv (pdI l) (.tuple []) = l.isEmpty := by
  have z := eqv_pdI l []
  have e : pdI [] = .tuple [] := rfl
  rw [e] at z
  rw [z]
  cases l <;> rfl
/-- elders so far -/
structure ElP (es : List (List Nat)) (sv : Bool) : Prop where
  asc : ∀ (k : Nat) (l : List Nat), es[k]? = some l → l.Pairwise (· < ·)
  low : ∀ (k : Nat) (l : List Nat), es[k]? = some l → ∀ x ∈ l, x < k
  one : ∀ (k : Nat) (l : List Nat), es[k]? = some l → sv = false → l.length ≤ 1
theorem ElP.nil {sv : Bool} : ElP [] sv := ⟨fun k l h => by simp at h, fun k l h => by simp at h, fun k l h => by simp at h⟩
theorem ElP.snoc {es : List (List Nat)} {sv : Bool} {l : List Nat} (E : ElP es sv) (h : Som es.length l) (o : sv = false → l.length ≤ 1) : ElP (es ++ [l]) sv := by
  have key : ∀ (k : Nat) (m : List Nat), (es ++ [l])[k]? = some m → es[k]? = some m ∨ (k = es.length ∧ m = l) := by
    intro k m z
    by_cases c : k < es.length
    · rw [List.getElem?_append_left c] at z; exact .inl z
    · rw [List.getElem?_append_right (by omega)] at z
      by_cases c2 : k - es.length = 0
      · rw [c2] at z
        simp at z
        exact .inr ⟨by omega, z.symm⟩
      · rw [List.getElem?_eq_none (by rw [List.length_singleton]; omega)] at z; cases z
  refine ⟨fun k m z => ?_, fun k m z => ?_, fun k m z => ?_⟩
  · rcases key k m z with y | ⟨rfl, rfl⟩
    · exact E.asc k m y
    · exact h.asc
  · rcases key k m z with y | ⟨rfl, rfl⟩
    · exact E.low k m y
    · exact h.low
  · rcases key k m z with y | ⟨rfl, rfl⟩
    · exact E.one k m y
    · exact o
theorem som_one {k : Nat} (h : 0 < k) : Som k [k - 1] := ⟨List.pairwise_singleton .., fun x hx => by rw [List.mem_singleton.mp hx]; omega⟩
section
variable {P : Program} {w : World} {K : PySem.W.Frag} {mg : Str → Option Value} {base : Heap} {f : Addr} {fd : FuncData} {k : Nat}
theorem ok_four {fN fS : Addr} {dN dS : FuncData} (F : Fun K "_law_four" "_law_four" sFour f fd) (B : Bl mg) (GN : FnOk P w K mg base CX0 1 fN dN ["_law_deck_here", "_law_many"] spNext) (kN : PySem.W.keepIn K (.ref fN) = true) (bN : Binds K dN ["_law_deck_here", "_law_many"] []) (gN : mg "_law_next" = some (.ref fN))
    (GS : FnOk P w K mg base CX0 2 fS dS ["_law_deck_here", "_law_many", "_law_most"] spSome) (kS : PySem.W.keepIn K (.ref fS) = true) (bS : Binds K dS ["_law_deck_here", "_law_many", "_law_most"] []) (gS : mg "_law_some" = some (.ref fS)) : FnOk P w K mg base CX0 3 f fd ["_law_deck_here", "_law_most"] spFour := by
  refine F.ok scFour (fun vs H Q E h => ?_) (fun cdv A outer s H vs Q E hr h => ?_)
  · obtain ⟨d, la, lb, m, b, rfl, _⟩ := h
    rfl
  · obtain ⟨d, la, lb, m, b, rfl, hm1, hm6, D, q⟩ := h
    have hr1 := hr.mono (show 1 ≤ 2 by decide)
    refine ⟨_, pss_cons (ps_par (i := 2) (j := 3) (by rfl) scFour.nd rfl rfl (by decide) rfl rfl (pa_cons (pe_op op_add pe_int (pe_call GN hr1 (by rfl) gN kN bN .nil pass0 (pa_cons (pv 0) (pa_cons (pv 1) pa_nil)))) (pa_cons (pe_cmpR op_gt (pe_call GN hr1 (by rfl) gN kN bN .nil pass0 (pa_cons (pv 0) (pa_cons pe_int pa_nil))) pe_int (nomark _)) pa_nil)) (by rfl))
      (pss_cons (ps_set (i := 4) scFour.nd rfl (.inl rfl) (pe_lst pa_nil))
      (pss_cons (ps_for PassesOwn.never rfl (pi_range1 (by rfl) B.range (pa_cons (pv 2) pa_nil)) (pg_name (i := 5) scFour.nd rfl (.inl rfl))
        (pss_cons (ps_set (i := 6) scFour.nd rfl (.inl rfl) (pe_call GS hr (by rfl) gS kS bS .nil pass0 (pa_cons (pv 0) (pa_cons (pv 5) (pa_cons (pe_ifExp (pt_val (pv 3)) (pe_ix ix_list (pe_lst (pa_cons pe_int (pa_cons pe_int (pa_cons pe_int pa_nil)))) (pe_call GN hr1 (by rfl) gN kN bN .nil pass0 (pa_cons (pv 0) (pa_cons pe_int pa_nil))) (fun _ _ => rfl)) pe_int) pa_nil)))))
        (pss_cons (ps_if (PW.pt (pw_and (pt_cmpR op_gt (pv 5) pe_int (nomark _)) (pw_and (pt_cmpR (op_eqD hr.units) (pv 6) (pe_tup pa_nil) (nomark _)) (pw_and1 (pt_cmpR op_eq (pe_call GN hr1 (by rfl) gN kN bN .nil pass0 (pa_cons (pv 0) (pa_cons pe_int pa_nil))) pe_int (nomark _))))))
          (pss_one (ps_set (i := 6) scFour.nd rfl (.inl rfl) (pe_tup (pa_cons (pe_op op_sub (pv 5) pe_int) pa_nil)))) pss_nil)
        (pss_one (ps_expr (pe_bm PySem.F.plainAttrs_list PySem.F.slot_list_append PySem.F.type_list_append mt_append (pv 4) (pa_cons (pv 6) pa_nil)))))))
      (pss_cons (ps_set (i := 7) scFour.nd rfl (.inl rfl) (pe_callTy call_tuple_of (by rfl) B.tuple PyProof.Rows.boot_tuple (pa_cons (pe_lc (own := [("_law_kind", 5)]) (g := gName 5) rfl scFour.nd (pi_range1 (by rfl) B.range (pa_cons (pv 2) pa_nil))
        (blkOk_by (N := nFour) (sc := defScope sFour) (by decide +kernel)) (fun _ _ _ _ _ => pg_name (i := 5) scFour.nd rfl (Or.inl rfl)) (fun _ _ _ _ _ => pts_one (pt_cmpR op_eq (pe_call GN hr1 (by rfl) gN kN bN .nil pass0 (pa_cons (pv 0) (pa_cons pe_int pa_nil))) pe_int (nomark _)))
        (fun _ _ _ _ _ => pv 5)) pa_nil)))
      (pss_cons (ps_set (i := 8) scFour.nd rfl (.inl rfl) (pe_callTy call_tuple_of (by rfl) B.tuple PyProof.Rows.boot_tuple (pa_cons (pe_lc (own := [("_law_kind", 5)]) (g := gName 5) rfl scFour.nd (pi_range1 (by rfl) B.range (pa_cons (pv 2) pa_nil))
        (blkOk_by (N := nFour) (sc := defScope sFour) (by decide +kernel)) (fun _ _ _ _ _ => pg_name (i := 5) scFour.nd rfl (Or.inl rfl)) (fun _ _ _ _ _ => pts_one (pt_cmpR op_eq (pe_call GN hr1 (by rfl) gN kN bN .nil pass0 (pa_cons (pv 0) (pa_cons pe_int pa_nil))) pe_int (nomark _)))
        (fun _ _ _ _ _ => pv 5)) pa_nil)))
      (pss_one (ps_ret (pe_lst (pa_cons (pe_callTy call_tuple_of (by rfl) B.tuple PyProof.Rows.boot_tuple (pa_cons (pv 4) pa_nil)) (pa_cons (pv 7) (pa_cons (pv 8) (pa_cons (pv 3) pa_nil))))))))))), ?_⟩
    -- many, several
    refine ⟨_, rfl, _, rfl, d, la, lb, (m : Nat), b + 63, rfl, by omega, by omega, D, fun v H1 v0 v1 D1 k1 => ⟨1, v, rfl, rfl, ?_⟩⟩
    refine ⟨_, rfl, d, la, lb, 4, b + 62, rfl, by decide, by decide, D1, fun u H2 u0 u1 D2 k2 => ⟨u, 0, rfl, rfl, ?_⟩⟩
    obtain ⟨n, rfl⟩ : ∃ n : Nat, v = (n : Nat) := ⟨v.toNat, by omega⟩
    have e1 : (1 : Int) + (n : Nat) = ((n + 1 : Nat) : Int) := by omega
    have hN : n + 1 ≤ m := by omega
    obtain ⟨sv, hsv⟩ : ∃ sv, decide (0 < u) = sv := ⟨_, rfl⟩
    refine ⟨.int ((n + 1 : Nat) : Int), .bl sv, by rw [← e1, ← hsv], ?_⟩
    have g2 := ((Go.refl D).draw D1 k1).draw D2 k2
    refine ⟨(show 0 ≤ sizeLine by decide), fun L nL => ?_⟩
    have nL0 := g2.free nL
    have g3 := g2.same (same_new (o := HO.lst []) nL)
    -- the elders
    refine ⟨_, rfl, ((n + 1 : Nat) : Int), rfl, by omega, by omega, for_range (lo := 0) (n := ((n + 1 : Nat) : Int).toNat) (fun i σ H3 => ∃ (y5 y6 : Option V) (es : List (List Nat)) (vs : List V), σ = [some (.ref d), some (.int (m : Nat)), some (.int ((n + 1 : Nat) : Int)), some (.bl sv), some (.ref L), y5, y6, none, none] ∧ Go H d la lb (b + 14 + 8 * (6 - i)) H3 ∧ H3 L = some (.lst vs) ∧ TuAll H3 vs (es.map pdI) ∧ es.length = i ∧ ElP es sv)
      ⟨none, none, [], [], rfl, g3.less (by omega), upd_same, .nil, rfl, ElP.nil⟩ (fun i σ H3 hi p => ?_) (fun σ H3 p => ?_)⟩
    · obtain ⟨y5, y6, es, vs, rfl, g, hL, tu, hl, EP⟩ := p
      have e2 : ((n + 1 : Nat) : Int).toNat = n + 1 := by omega
      rw [e2] at hi
      have ei : (0 : Int) + (i : Nat) = (i : Nat) := by omega
      rw [ei]
      obtain ⟨o1, o2, o3⟩ := g.off nL0
      -- what follows the row
      refine ⟨_, rfl, _, rfl, _, rfl, _, rfl, ?_⟩
      have after : ∀ (H5 : Hp) (p : Addr) (l : List Nat), Go H d la lb (b + 14 + 8 * (6 - (i + 1)) + 1) H5 → H5 L = some (.lst vs) → TuAll H5 vs (es.map pdI) → Tu H5 (.ref p) (pdI l) → Som i l → (sv = false → l.length ≤ 1) → Go H d la lb (b + 14 + 8 * (6 - (i + 1))) (upd H5 L (.lst (vs ++ [.ref p]))) ∧ TuAll (upd H5 L (.lst (vs ++ [.ref p]))) (vs ++ [.ref p]) ((es ++ [l]).map pdI) ∧ (es ++ [l]).length = i + 1 ∧ ElP (es ++ [l]) sv := by
        intro H5 p l g5 hL5 tu5 tp sl ll
        refine ⟨(g5.put nL0).less (by omega), ?_, by rw [List.length_append, List.length_singleton, hl], EP.snoc (by rw [hl]; exact sl) ll⟩
        rw [List.map_append]
        exact (tu5.append (.cons tp .nil)).keep (KF.putL hL5)
      cases sv
      case' true =>
        refine iteT ⟨(show 3 ≤ sizeLine by decide), fun Lr nLr => ⟨_, rfl, d, la, lb, 3, b + 14 + 8 * (6 - (i + 1)) + 1 + i, rfl, by decide, by decide, (g.now.same (same_new nLr)).less (by omega), fun r H4 r0 r1 D4 k4 => ?_⟩⟩
        have g4 := (g.same (same_new (o := HO.lst [.int 1, .int 2, .int 5]) nLr)).draw D4 k4
        have hLr : H4 Lr = some (.lst [.int 1, .int 2, .int 5]) := k4 _ _ upd_same (by
          obtain ⟨a1, a2, _⟩ := g.now.tracked
          rintro (z | z) <;> (rw [z] at nLr; contradiction))
        have hL4 : H4 L = some (.lst vs) := k4 _ _ (same_new nLr _ _ hL) (by rintro (z | z) <;> (rw [z] at o1 o2; contradiction))
        have tu4 : TuAll H4 vs (es.map pdI) := tu.keep ((KF.of_same (same_new nLr)).trans (Go.kf ((Go.refl (g.now.same (same_new nLr))).draw D4 k4)))
        have pick : ∃ mm : Nat, atI ([.int 1, .int 2, .int 5] : List V) r = some (.int (mm : Nat)) := by
          have : r = 0 ∨ r = 1 ∨ r = 2 := by omega
          rcases this with h | h | h <;> subst h
          · exact ⟨1, rfl⟩
          · exact ⟨2, rfl⟩
          · exact ⟨5, rfl⟩
        obtain ⟨mm, hmm⟩ := pick
        refine ⟨Lr, _, r, .int (mm : Nat), rfl, rfl, SqL.of hLr, hmm, d, la, lb, i, mm, b + 14 + 8 * (6 - (i + 1)) + 1, rfl, by omega, g4.now, fun H5 p l g5' np tp sl ll0 => ?_⟩
        have g5 := g4.trans g5'
        have hL5 := g5'.at_ hL4 o1 o2
        have tu5 := tu4.keep g5'.kf
        have ll : true = false → l.length ≤ 1 := fun z => nomatch z
      case' false =>
        refine iteF ⟨d, la, lb, i, 1, b + 14 + 8 * (6 - (i + 1)) + 1, rfl, by omega, g.now.less (by omega), fun H5 p l g5' np tp sl ll0 => ?_⟩
        have g5 := g.trans g5'
        have hL5 := g5'.at_ hL o1 o2
        have tu5 := tu.keep g5'.kf
        have ll : false = false → l.length ≤ 1 := fun _ => ll0
      all_goals
        have vl : vs.length < sizeLine := by rw [tu5.length, List.length_map, hl]; exact small1000 (by omega)
        refine ⟨_, rfl, _, 0, rfl, rfl, _, rfl, ?_⟩
        by_cases c0 : (0 : Int) < (i : Nat)
        · rw [decide_eq_true c0]
          refine iteT ⟨_, rfl, (show 0 ≤ sizeLine by decide), fun em nem => ?_⟩
          have sE := same_new (o := HO.tup []) nem
          refine ⟨pdI l, .tuple [], (tp.same sE).dp, .tup (SqT.of upd_same) .nil, sh_pdI l, by decide +kernel, _, rfl, ?_⟩
          rw [eqv_nilT]
          have g6 := g5.same sE
          have hL6 := sE _ _ hL5
          have tu6 := tu5.keep (.of_same sE)
          have tp6 := tp.same sE
          generalize (upd H5 em (.tup [])) = H6 at g6 hL6 tu6 tp6 ⊢
          by_cases c1 : l.isEmpty = true
          · rw [c1]
            refine iteT ⟨_, rfl, d, la, lb, 2, b + 14 + 8 * (6 - (i + 1)), rfl, by decide, by decide, g6.now, fun r2 H7 _ _ D7 k7 => ⟨rfl, _, rfl, ite2 (fun _ => ?_) (fun _ => ?_)⟩⟩
            · have g7 := g6.draw D7 k7
              have gg := (Go.refl g6.now).draw D7 k7
              have hL7 := gg.at_ hL6 o1 o2
              have tu7 := tu6.keep gg.kf
              refine ⟨_, rfl, _, 1, rfl, rfl, (show 1 ≤ sizeLine by decide), fun t nt => ?_⟩
              have ek : ((i : Nat) : Int) - 1 = ((i - 1 : Nat) : Int) := by omega
              have sT := same_new (o := HO.tup [.int ((i : Nat) - 1)]) nt
              have tt : Tu (upd H7 t (.tup [.int ((i : Nat) - 1)])) (.ref t) (pdI [i - 1]) := tu_ints (l := [i - 1]) (by rw [upd_same, ek]; rfl) (by simp)
              have g8 := g7.same sT
              have hL8 := sT _ _ hL7
              have tu8 := tu7.keep (.of_same sT)
              refine ⟨_, rfl, .inl ⟨rfl, _, SqL.of hL8⟩, _, rfl, L, _, _, rfl, rfl, hL8, vl, ?_⟩
              refine ⟨_, _, es ++ [[i - 1]], vs ++ [.ref t], rfl, (g8.put nL0), upd_same, ?_, by rw [List.length_append, List.length_singleton, hl], EP.snoc (by rw [hl]; exact som_one (by omega)) (fun _ => Nat.le_refl _)⟩
              rw [List.map_append]
              exact (tu8.append (.cons tt .nil)).keep (KF.putL hL8)
            · have g7 := g6.draw D7 k7
              have gg := (Go.refl g6.now).draw D7 k7
              have hL7 := gg.at_ hL6 o1 o2
              refine ⟨_, rfl, .inl ⟨rfl, _, SqL.of hL7⟩, _, rfl, L, _, _, rfl, rfl, hL7, vl, ?_⟩
              refine ⟨_, _, es ++ [l], vs ++ [.ref p], rfl, (g7.put nL0), upd_same, ?_, by rw [List.length_append, List.length_singleton, hl], EP.snoc (by rw [hl]; exact sl) ll⟩
              rw [List.map_append]
              exact ((tu6.keep gg.kf).append (.cons (tp6.keep gg.kf) .nil)).keep (KF.putL hL7)
          · rw [Bool.not_eq_true] at c1
            rw [c1]
            obtain ⟨z1, z2, z3, z4⟩ := after H6 p l g6 hL6 tu6 tp6 sl ll
            refine iteF (iteF ⟨_, rfl, .inl ⟨rfl, _, SqL.of hL6⟩, _, rfl, L, _, _, rfl, rfl, hL6, vl, ⟨_, _, es ++ [l], vs ++ [.ref p], rfl, z1, upd_same, z2, z3, z4⟩⟩)
        · rw [decide_eq_false c0]
          obtain ⟨z1, z2, z3, z4⟩ := after H5 p l g5 hL5 tu5 tp sl ll
          refine iteF (iteF ⟨_, rfl, .inl ⟨rfl, _, SqL.of hL5⟩, _, rfl, L, _, _, rfl, rfl, hL5, vl, ⟨_, _, es ++ [l], vs ++ [.ref p], rfl, z1, upd_same, z2, z3, z4⟩⟩)
    · obtain ⟨y5, y6, es, vs, rfl, g, hL, tu, hl, EP⟩ := p
      have e2 : ((n + 1 : Nat) : Int).toNat = n + 1 := by omega
      rw [e2] at hl g
      -- closed
      refine ⟨_, rfl, ((n + 1 : Nat) : Int), rfl, by omega, by omega, fun D1 nD1 => ?_⟩
      refine lc_range (lo := 0) (n := ((n + 1 : Nat) : Int).toNat) (fun i H4 => ∃ l : List Nat, Go H3 d la lb (b + 7 + (7 - i)) H4 ∧ H4 D1 = some (.lst (l.map iV)) ∧ Som i l) ⟨[], ((Go.refl g.now).same (same_new nD1)).less (by omega), upd_same, ⟨.nil, fun x hx => nomatch hx⟩⟩ (fun i H4 hi p => ?_) (fun H4 p => ?_)
      · obtain ⟨l, g4, hD, sl⟩ := p
        rw [e2] at hi
        have ll := sl.len
        obtain ⟨o1, o2, o3⟩ := g4.off nD1
        refine ⟨rfl, _, rfl, d, la, lb, 3, b + 7 + (7 - (i + 1)), rfl, by decide, by decide, g4.now.less (by omega), fun v H5 _ _ D5 k5 => ⟨rfl, _, rfl, ?_⟩⟩
        have g5 := g4.draw D5 k5
        have hD5 := k5 _ _ hD (by rintro (z | z) <;> (rw [z] at o1 o2; contradiction))
        refine ite2 (fun _ => ?_) (fun _ => ?_)
        · refine ⟨_, rfl, _, hD5, ?_, l ++ [i], ?_, ?_, som_snoc sl⟩
          · rw [List.length_map]; exact small1000 (by omega)
          · exact g5.put nD1
          · rw [upd_same, List.map_append]
            show some (HO.lst (l.map iV ++ [V.int (0 + (i : Nat))])) = _
            rw [Int.zero_add]; rfl
        · exact ⟨l, g5, hD5, som_up sl (by omega)⟩
      · obtain ⟨cl, g4, hD, slc⟩ := p
        rw [e2] at slc g4
        have llc := slc.len
        refine ⟨D1, _, rfl, .inl ⟨SqL.of hD, fun tc ntc => ?_⟩⟩
        have g5 := g4.same (same_new (o := HO.tup (cl.map iV)) ntc)
        have tcl : Tu (upd H4 tc (.tup (cl.map iV))) (.ref tc) (pdI cl) := tu_ints upd_same (by omega)
        generalize (upd H4 tc (.tup (cl.map iV))) = H5 at g5 tcl ⊢
        -- hollow
        refine ⟨_, rfl, ((n + 1 : Nat) : Int), rfl, by omega, by omega, fun D2 nD2 => ?_⟩
        refine lc_range (lo := 0) (n := ((n + 1 : Nat) : Int).toNat) (fun i H6 => ∃ l : List Nat, Go H5 d la lb (b + (7 - i)) H6 ∧ H6 D2 = some (.lst (l.map iV)) ∧ Som i l) ⟨[], ((Go.refl g5.now).same (same_new nD2)).less (by omega), upd_same, ⟨.nil, fun x hx => nomatch hx⟩⟩ (fun i H6 hi p => ?_) (fun H6 p => ?_)
        · obtain ⟨l, g6, hD, sl⟩ := p
          rw [e2] at hi
          have ll := sl.len
          obtain ⟨o1, o2, o3⟩ := g6.off nD2
          refine ⟨rfl, _, rfl, d, la, lb, 4, b + (7 - (i + 1)), rfl, by decide, by decide, g6.now.less (by omega), fun v H7 _ _ D7 k7 => ⟨rfl, _, rfl, ?_⟩⟩
          have g7 := g6.draw D7 k7
          have hD7 := k7 _ _ hD (by rintro (z | z) <;> (rw [z] at o1 o2; contradiction))
          refine ite2 (fun _ => ?_) (fun _ => ?_)
          · refine ⟨_, rfl, _, hD7, ?_, l ++ [i], ?_, ?_, som_snoc sl⟩
            · rw [List.length_map]; exact small1000 (by omega)
            · exact g7.put nD2
            · rw [upd_same, List.map_append]
              show some (HO.lst (l.map iV ++ [V.int (0 + (i : Nat))])) = _
              rw [Int.zero_add]; rfl
          · exact ⟨l, g7, hD7, som_up sl (by omega)⟩
        · obtain ⟨ho, g6, hD, slh⟩ := p
          rw [e2] at slh g6
          have llh := slh.len
          refine ⟨D2, _, rfl, .inl ⟨SqL.of hD, fun th nth => ?_⟩⟩
          have g7 := g6.same (same_new (o := HO.tup (ho.map iV)) nth)
          have tho : Tu (upd H6 th (.tup (ho.map iV))) (.ref th) (pdI ho) := tu_ints upd_same (by omega)
          generalize (upd H6 th (.tup (ho.map iV))) = H7 at g7 tho ⊢
          -- the list
          have gA := (g5.trans g7)
          have gB := g.trans gA
          obtain ⟨o1, o2, o3⟩ := g.off nL0
          have hL7 := gA.at_ hL o1 o2
          have tu7 := tu.keep gA.kf
          refine ⟨_, rfl, L, _, rfl, .inl ⟨SqL.of hL7, fun te nte => ?_⟩⟩
          have s8 := same_new (o := HO.tup vs) nte
          have tel : Tu (upd H7 te (.tup vs)) (.ref te) (pdE es) := .tup upd_same (by rw [tu7.length, List.length_map, hl]; omega) (tu7.keep (.of_same s8))
          refine ⟨_, rfl, _, rfl, _, rfl, (show 4 ≤ sizeLine by decide), fun lf nlf => ?_⟩
          have s9 := same_new (o := HO.lst [.ref te, .ref tc, .ref th, .bl sv]) nlf
          have g9 := (gB.same s8).same s9
          refine q _ lf es cl ho sv (g9.less (by omega)) ((gB.same s8).free nlf) ⟨⟨.ref te, .ref tc, .ref th, upd_same, tel.same s9, ((tcl.keep g7.kf).same s8).same s9, (tho.same s8).same s9⟩, ⟨by omega, by omega, EP.asc, EP.low, EP.one⟩, by rw [hl]; exact slc, by rw [hl]; exact slh⟩ (by omega)
end
end Kc

set_option Elab.async false
set_option linter.all false
set_option maxRecDepth 100000
set_option maxHeartbeats 4000000
/-! t[::-1] of a tuple. -/
namespace Kr
open PySem PySem.Spec PyProof.Rows L2 Kg Kd
section
variable {prog : Program} {w : World} {A : Around} {E : Value → Shared → Prop} {s : Shared}
theorem applied_rev {sl : Addr} {vl vu vs : Value} {n : Nat} {Q : Int × Int × Nat → Shared → Prop} (hs : s.heap.IsSliceOf sl vl vu vs) (pl : IsPart vl none) (pu : IsPart vu none) (ps : IsPart vs (some (-1)))
    (h : Q (((n : Nat) : Int) - 1, -1, n) s) : wpAny (model prog w) A (Builtin.Slice.sliceApplied (.ref sl) (pure (n : Int))) Q E s := by
  obtain ⟨os, hos, hcs, hds⟩ := id hs
  unfold Builtin.Slice.sliceApplied Builtin.Slice.sliceFields
  refine wpAny_bind (wpAny_bind (wpAny_field hos hds (x := vl) rfl (wpAny_bind (wpAny_field hos hds (x := vu) rfl (wpAny_bind (wpAny_field hos hds (x := vs) rfl (wpAny_pure ?_)))))))
  refine wpAny_bind (HT.slicePart_ ps ?_)
  show wpAny _ _ (if ((-1 : Int) == 0) = true then _ else _) _ _ s
  rw [if_neg (by decide)]
  refine wpAny_bind (HT.slicePart_ pl (wpAny_bind (HT.slicePart_ pu (wpAny_bind (wpAny_pure ?_)))))
  show wpAny _ _ (pure ((n : Int) - 1, (-1 : Int), Builtin.Slice.slicePlaces ((n : Int) - 1) (-1) (-1))) _ _ s
  have e : Builtin.Slice.slicePlaces ((n : Int) - 1) (-1) (-1) = n := by
    unfold Builtin.Slice.slicePlaces
    have h1 : ¬ ((-1 : Int) > 0) := by decide
    rw [if_neg h1]
    by_cases c : (n : Int) - 1 > -1
    · rw [if_pos c, show (- -1 : Int) = 1 by decide, Int.ediv_one]; omega
    · rw [if_neg c]; omega
  rw [e]
  exact wpAny_pure h
theorem pick_rev (xs : Array Value) : ((List.range xs.size).filterMap fun (k : Nat) => xs[(((xs.size : Nat) : Int) - 1 + (k : Int) * (-1)).toNat]?) = xs.toList.reverse := by
  have e : (fun (k : Nat) => xs[(((xs.size : Nat) : Int) - 1 + (k : Int) * (-1)).toNat]?) = (fun j => xs[j]?) ∘ (fun k => xs.size - 1 - k) := by
    funext k
    show xs[(((xs.size : Nat) : Int) - 1 + (k : Int) * (-1)).toNat]? = xs[xs.size - 1 - k]?
    congr 1
    omega
  rw [e, ← List.filterMap_map, PySem.W.krv_range, List.filterMap_reverse, PySem.W.krv_all]
theorem getItem_tuple_rev {t sl : Addr} {items : Array Value} {vl vu vs : Value} {Q : Value → Shared → Prop} (ht : IsTup s.heap t items) (hs : s.heap.IsSliceOf sl vl vu vs) (pl : IsPart vl none) (pu : IsPart vu none) (ps : IsPart vs (some (-1)))
    (h : Q (.ref s.heap.objs.size) { s with heap := s.heap.push { cls := .type "tuple", data := .seq items.toList.reverse.toArray } })
    (hsz : items.size ≤ sizeLine) : wpAny (model prog w) A (getItem (.ref t) (.ref sl)) Q E s := by
  have htake : sizeOk (.seq items.toList.reverse.toArray) := by
    show items.toList.reverse.toArray.size ≤ sizeLine
    rw [List.size_toArray, List.length_reverse, Array.length_toList]
    exact hsz
  obtain ⟨os, hos, hcs, hds⟩ := id hs
  have hTs : s.TypeIs (.ref sl) "slice" := ⟨os, hos, hcs⟩
  unfold getItem
  try with_reducible refine wpAny_holding ?_
  first | refine wpAny_bind (wpAny_pure ?_) | skip
  refine wpAny_bind (wpAny_sequenceKey ht.typeIs (by decide) ?_)
  refine wpAny_bind (wpAny_callSpecial?_slot (name := Str.ofString "__getitem__") ht.typeIs PyProof.Rows.slot_tuple_getitem
    (wpAny_call_entry PyProof.Rows.slot_tuple_getitem ht.typeIs entry_tuple_getitem ?_ (args_tuple_getitem _ _)))
  show wpAny _ _ (Builtin.Tuple.tupleItemsOf (.ref t) >>= _) _ _ s
  refine wpAny_bind (tupleItemsOf_ ht ?_)
  refine wpAny_bind (wpAny_typeOf hTs ?_)
  rw [if_pos (by decide)]
  refine wpAny_bind (applied_rev hs pl pu ps ?_)
  have hno : ¬ (((((items.size : Nat) : Int) - 1 == 0) && (-1 : Int) == 1 && items.size == items.size) = true) := by
    intro q
    rw [Bool.and_eq_true, Bool.and_eq_true] at q
    exact absurd q.1.2 (by decide)
  show wpAny _ _ (if ((((items.size : Nat) : Int) - 1 == 0) && (-1 : Int) == 1 && items.size == items.size) = true then _ else _) _ _ s
  rw [if_neg hno, pick_rev]
  first
    | exact wpAny_bind (m := Builtin.Tuple.tupleExact _) (wpAny_newObj_type (wpAny_pure ⟨_, rfl, wpAny_pure h⟩) htake)
    | exact wpAny_bind (m := Builtin.Tuple.tupleExact _) (wpAny_newObj_type (wpAny_bind (wpAny_pure (wpAny_pure ⟨_, rfl, wpAny_pure h⟩))) htake)
    | exact wpAny_bind (wpAny_bind (m := Builtin.Tuple.tupleExact _) (wpAny_newObj_type (wpAny_pure (wpAny_pure ⟨_, rfl, wpAny_pure h⟩)) htake))
    | exact wpAny_bind (wpAny_bind (m := Builtin.Tuple.tupleExact _) (wpAny_newObj_type (wpAny_pure ⟨_, rfl, wpAny_pure h⟩) htake))
end
section
variable {X : Cx}
def tRevT (K : PySem.W.Frag) (te : TE) : TE := fun σ H Q => te σ H fun x H1 => ∃ a xs, x = .ref a ∧ SqT K H1 a xs ∧ ∀ p, H1 p = none → Q (.ref p) (upd H1 p (.tup xs.reverse))
theorem pe_revT {e : Expr} {te : TE} {k : Nat} {p1 p2 p3 pos : Pos} (he : PE X e te) : PE X (.Subscript e (.Slice none none (some (.UnaryOp .USub (.Constant (.int 1) k p1) p2)) p3) pos) (tRevT X.K te) := by
  refine ⟨fun pins s σ H Q I h => ?_⟩
  refine Subscript_ (thn (he.run pins s σ H _ I h) fun v s1 ⟨x, H1, I1, r1, q1⟩ => ?_)
  obtain ⟨a, xs, ex, hx, q⟩ := q1
  subst ex
  cases r1
  have hst : PO X (some (.UnaryOp .USub (.Constant (.int 1) k p1) p2)) (tPart (tUn (rU fun i => .int (-i)) (tC (.int 1)))) := po_some (pe_un un_neg pe_int)
  refine wpAny_Slice (thn (po_none.run pins s1 σ H1 (fun o H2 => o = none ∧ H2 = H1) I1 ⟨rfl, rfl⟩) fun vl s2 ⟨l, H2, I2, pl, el, e2⟩ => ?_)
  subst el e2
  refine thn (po_none.run pins s2 σ H2 (fun o H3 => o = none ∧ H3 = H2) I2 ⟨rfl, rfl⟩) fun vu s3 ⟨u, H3, I3, pu, eu, e3⟩ => ?_
  subst eu e3
  refine thn (hst.run pins s3 σ H3 (fun o H4 => o = some (-1) ∧ H4 = H3) I3 ⟨1, rfl, -1, rfl, rfl, rfl⟩) fun vs s4 ⟨o, H4, I4, ps, eo, e4⟩ => ?_
  subst eo e4
  have I5 : Inv X pins σ H4 { s4 with heap := s4.heap.push { cls := .type "slice", data := .fields #[vl, vu, vs] } } := I4.kept (t' := s4.toks) fun b ob q => Heap.get?_push_of_some _ q
  obtain ⟨its, r, ht, hz⟩ := I5.tuple hx
  have hlen := r.length
  show wpAny (model X.prog X.w) X.A (subscriptTail e (.Slice none none (some (.UnaryOp .USub (.Constant (.int 1) k p1) p2)) p3) (.ref a) (.ref s4.heap.objs.size)) (EP X pins σ Q) X.xe { s4 with heap := s4.heap.push { cls := .type "slice", data := .fields #[vl, vu, vs] } }
  refine tail_any (ops := [.ref a, .ref s4.heap.objs.size]) ht.typeIs PyProof.Rows.slot_tuple_getitem.lookup ?_ (by with_unfolding_all rfl)
  refine getItem_tuple_rev ht (Heap.IsSliceOf.new _ vl vu vs) pl pu ps ?_ (by rw [List.size_toArray]; omega)
  refine ⟨.ref _, _, I5.laid (t' := s4.toks) (o := .tup xs.reverse) (fun b ob q => Heap.get?_push_of_some _ q) (Nat.le_refl _) ?_, rfl, q _ (I5.hok.fresh (Nat.le_refl _))⟩
  exact ⟨by rw [List.length_reverse]; exact hz, _, r.reverse, IsTup.new _ _⟩
end
end Kr

set_option Elab.async false
set_option linter.all false
set_option maxRecDepth 100000
set_option maxHeartbeats 4000000
/-! Tables of small ints: laid anew, each at its own slot. -/
namespace Kw
open PySem PySem.Spec PyProof.Rows L2
abbrev Own := Array (Option Nat)
def lstep (mask : Nat) (acc : Option (Own × Nat)) (h : Int) : Option (Own × Nat) := do
  let (owner, k) ← acc
  let j ← SetTable.layClean.free mask owner (SetTable.turns mask) (SetTable.bits h % (mask + 1)) (SetTable.bits h)
  pure (owner.setIfInBounds j (some k), k + 1)
theorem layClean_eq (mask : Nat) (hs : Array Int) : SetTable.layClean mask hs = (hs.toList.foldl (lstep mask) (some (Array.replicate (mask + 1) none, 0))).map (·.1) := by
  rw [Array.foldl_toList]; rfl
theorem getD_in {owner : Own} {i : Nat} (hi : i < owner.size) (d d' : Option Nat) : owner.getD i d = owner.getD i d' := by
  rw [Array.getD_eq_getD_getElem?, Array.getD_eq_getD_getElem?, Array.getElem?_eq_getElem hi]; rfl
theorem free_first {mask i p f : Nat} {owner : Own} (hs : owner.size = mask + 1) (hi : i ≤ mask) (hn : owner.getD i none = none) : SetTable.layClean.free mask owner (f + 1) i p = some i := by
  have e1 : owner.getD (i + 0) (some 0) = none := by
    rw [Nat.add_zero, getD_in (by omega) (some 0) none]; exact hn
  have e2 : ∃ m, SetTable.runEnd mask i + 1 - i = m + 1 := by
    have : i ≤ SetTable.runEnd mask i := by unfold SetTable.runEnd; split <;> omega
    exact ⟨SetTable.runEnd mask i - i, by omega⟩
  obtain ⟨m, e2⟩ := e2
  have e3 : (List.range (SetTable.runEnd mask i + 1 - i)).find? (fun k => (owner.getD (i + k) (some 0)).isNone) = some 0 := by
    rw [e2, List.range_succ_eq_map, List.find?_cons]
    rw [e1]; rfl
  unfold SetTable.layClean.free
  rw [e3]
  rfl
theorem bits_small {h : Int} (h0 : 0 ≤ h) (h1 : h < 8) : SetTable.bits h = h.toNat := by
  unfold SetTable.bits
  rw [Int.emod_eq_of_lt h0 (by omega)]
theorem setIB_getD {owner : Own} {i j : Nat} {v : Option Nat} (hi : i < owner.size) : (owner.setIfInBounds i v).getD j none = if j = i then v else owner.getD j none := by
  rw [Array.getD_eq_getD_getElem?, Array.getElem?_setIfInBounds, Array.getD_eq_getD_getElem?]
  by_cases h : i = j
  · subst h
    rw [if_pos rfl, if_pos rfl, if_pos hi]; rfl
  · rw [if_neg h, if_neg (fun z => h z.symm)]
theorem lay_fold {mask : Nat} (hm : 7 ≤ mask) : ∀ (hs : List Int) (owner : Own) (k : Nat), owner.size = mask + 1 → (∀ h ∈ hs, 0 ≤ h ∧ h < 8) → hs.Nodup → (∀ h ∈ hs, owner.getD h.toNat none = none) →
    ∃ owner' : Own, hs.foldl (lstep mask) (some (owner, k)) = some (owner', k + hs.length) ∧ owner'.size = mask + 1 ∧ ∀ j : Nat, (∀ i : Nat, hs[i]? = some ((j : Nat) : Int) → owner'.getD j none = some (k + i)) ∧ ((∀ i : Nat, hs[i]? ≠ some ((j : Nat) : Int)) → owner'.getD j none = owner.getD j none)
  | [], owner, k, hsz, _, _, _ => ⟨owner, rfl, hsz, fun j => ⟨fun i h => by simp at h, fun _ => rfl⟩⟩
  | h :: hs, owner, k, hsz, hb, hnd, hfree => by
    obtain ⟨h0, h1⟩ := hb h (List.mem_cons_self ..)
    rw [List.nodup_cons] at hnd
    have fr := hfree h (List.mem_cons_self ..)
    have st : lstep mask (some (owner, k)) h = some (owner.setIfInBounds h.toNat (some k), k + 1) := by
      have e : SetTable.bits h % (mask + 1) = h.toNat := by rw [bits_small h0 h1, Nat.mod_eq_of_lt (by omega)]
      have e2 : SetTable.turns mask = (mask + 14) + 1 := rfl
      show (SetTable.layClean.free mask owner (SetTable.turns mask) (SetTable.bits h % (mask + 1)) (SetTable.bits h)).bind (fun j => some (owner.setIfInBounds j (some k), k + 1)) = _
      rw [e, e2, free_first hsz (by omega) fr]; rfl
    have hin : h.toNat < owner.size := by omega
    obtain ⟨o', e1, e2, e3⟩ := lay_fold hm hs (owner.setIfInBounds h.toNat (some k)) (k + 1) (by rw [Array.size_setIfInBounds]; exact hsz) (fun x hx => hb x (List.mem_cons_of_mem _ hx)) hnd.2 (fun x hx => by
      rw [setIB_getD hin, if_neg (fun z => ?_)]
      · exact hfree x (List.mem_cons_of_mem _ hx)
      · have := hb x (List.mem_cons_of_mem _ hx)
        have e : x = h := by omega
        rw [e] at hx; exact hnd.1 hx)
    refine ⟨o', ?_, e2, fun j => ⟨fun i hi => ?_, fun hno => ?_⟩⟩
    · rw [List.foldl_cons, st, e1, List.length_cons]
      congr 2; omega
    · cases i with
      | zero =>
        simp at hi
        have hno : ∀ i : Nat, hs[i]? ≠ some ((j : Nat) : Int) := fun i z => hnd.1 (by rw [hi]; exact List.mem_of_getElem? z)
        rw [(e3 j).2 hno, setIB_getD hin, if_pos (by omega)]; rfl
      | succ i =>
        have := (e3 j).1 i (by simpa using hi)
        rw [this]; congr 1; omega
    · have hno' : ∀ i : Nat, hs[i]? ≠ some ((j : Nat) : Int) := fun i z => hno (i + 1) (by simpa using z)
      rw [(e3 j).2 hno', setIB_getD hin, if_neg]
      intro z
      exact hno 0 (by simp; omega)
/-- where a clean table of small ints has each -/
theorem layClean_small {mask : Nat} (hm : 7 ≤ mask) {hs : Array Int} (hb : ∀ h ∈ hs.toList, 0 ≤ h ∧ h < 8) (hn : hs.toList.Nodup) : ∃ owner : Own, SetTable.layClean mask hs = some owner ∧ ∀ j : Nat, (∀ i : Nat, hs.toList[i]? = some ((j : Nat) : Int) → owner.getD j none = some i) ∧ ((∀ i : Nat, hs.toList[i]? ≠ some ((j : Nat) : Int)) → owner.getD j none = none) := by
  obtain ⟨o', e1, _, e3⟩ := lay_fold hm hs.toList (Array.replicate (mask + 1) none) 0 (by simp) hb hn (fun h hh => by
    rw [Array.getD_eq_getD_getElem?, Array.getElem?_replicate]; split <;> rfl)
  refine ⟨o', by rw [layClean_eq, e1]; rfl, fun j => ⟨fun i hi => ?_, fun hno => ?_⟩⟩
  · have := (e3 j).1 i hi
    rwa [Nat.zero_add] at this
  · rw [(e3 j).2 hno, Array.getD_eq_getD_getElem?, Array.getElem?_replicate]; split <;> rfl
theorem nodup_len : ∀ {l m : List Int}, l.Nodup → (∀ x ∈ l, x ∈ m) → l.length ≤ m.length
  | [], _, _, _ => Nat.zero_le _
  | a :: l, m, hn, h => by
    rw [List.nodup_cons] at hn
    have ha := h a (List.mem_cons_self ..)
    have z := nodup_len (l := l) (m := m.erase a) hn.2 (fun x hx => (List.mem_erase_of_ne (fun y : x = a => hn.1 (by rw [← y]; exact hx))).mpr (h x (List.mem_cons_of_mem _ hx)))
    rw [List.length_erase_of_mem ha] at z
    have : 0 < m.length := List.length_pos_of_mem ha
    rw [List.length_cons]; omega
theorem keys_of {es : Array (Int × Value)} : ∀ (lv : List (Nat × Nat)), (∀ p ∈ lv, ∃ e, es[p.2]? = some e ∧ keyOf e = (p.1 : Nat)) → (((lv.map (·.2)).filterMap (es[·]?)).map keyOf) = lv.map (fun p => ((p.1 : Nat) : Int))
  | [], _ => rfl
  | p :: lv, h => by
    obtain ⟨e, h1, h2⟩ := h p (List.mem_cons_self ..)
    have ih := keys_of lv (fun q hq => h q (List.mem_cons_of_mem _ hq))
    rw [List.map_cons, List.filterMap_cons, h1]
    show keyOf e :: _ = _
    rw [h2, ih]; rfl
theorem hash_small {k : Int} (h0 : 0 ≤ k) (h1 : k < 8) : hashInt k = k := by
  have : k = 0 ∨ k = 1 ∨ k = 2 ∨ k = 3 ∨ k = 4 ∨ k = 5 ∨ k = 6 ∨ k = 7 := by omega
  rcases this with h | h | h | h | h | h | h | h <;> subst h <;> decide +kernel
/-- the elements of a set of small ints -/
structure Sm (es : Array (Int × Value)) : Prop where
  good : ∀ e ∈ es.toList, GoodE e
  nd : (es.toList.map keyOf).Nodup
  sm : ∀ k ∈ es.toList.map keyOf, 0 ≤ k ∧ k < 7
theorem Sm.hash {es : Array (Int × Value)} (h : Sm es) : (es.map (·.1)).toList = es.toList.map keyOf := by
  rw [Array.toList_map]
  refine List.map_congr_left fun e he => ?_
  obtain ⟨k, tk, e1, e2⟩ := h.good e he
  have ek : keyOf e = k := by unfold keyOf; rw [e1]
  have := h.sm k (by rw [← ek]; exact List.mem_map_of_mem he)
  rw [e2, ek, hash_small this.1 (by omega)]
theorem Sm.size {es : Array (Int × Value)} (h : Sm es) : es.size ≤ 7 := by
  have z := nodup_len (m := [0, 1, 2, 3, 4, 5, 6]) h.nd (fun x hx => by
    have := h.sm x hx
    simp; omega)
  rw [List.length_map, Array.length_toList] at z
  exact z
/-- laid clean -/
theorem laid_small {mask finger moves : Nat} {led plain : Bool} (hm : 7 ≤ mask) {es : Array (Int × Value)} (h : Sm es) : ∃ (t : SetTable) (order : Array Nat), SetTable.laid mask finger moves led plain (es.map (·.1)) = some (t, order) ∧ t.mask = mask ∧ t.dummies = #[] ∧ t.led = led ∧ Ris t.place.toList ∧ t.place.size = es.size ∧
    Sm (order.filterMap (es[·]?)) ∧ (order.filterMap (es[·]?)).size = es.size ∧ (∀ k, k ∈ (order.filterMap (es[·]?)).toList.map keyOf ↔ k ∈ es.toList.map keyOf) := by
  obtain ⟨owner, e1, e2⟩ := layClean_small (hs := es.map (·.1)) hm (by rw [h.hash]; exact fun x hx => ⟨(h.sm x hx).1, by have := h.sm x hx; omega⟩) (by rw [h.hash]; exact h.nd)
  rw [h.hash] at e2
  have lv : ∀ p ∈ (List.range (mask + 1)).filterMap (fun j => (owner.getD j none).map fun i => (j, i)), ∃ e, es[p.2]? = some e ∧ keyOf e = (p.1 : Nat) := by
    rintro ⟨j, i⟩ hp
    obtain ⟨j', hj, hq⟩ := List.mem_filterMap.mp hp
    cases ho : owner.getD j' none with
    | none => rw [ho] at hq; cases hq
    | some i' =>
      rw [ho] at hq
      have hq' : (j', i') = (j, i) := Option.some.inj hq
      have q1 : j' = j := congrArg Prod.fst hq'
      have q2 : i' = i := congrArg Prod.snd hq'
      subst q1 q2
      by_cases hex : ∃ i0 : Nat, (es.toList.map keyOf)[i0]? = some ((j' : Nat) : Int)
      · obtain ⟨i0, h0⟩ := hex
        have := (e2 j').1 i0 h0
        rw [ho] at this
        have q3 := Option.some.inj this
        subst q3
        rw [List.getElem?_map] at h0
        cases he : es.toList[i']? with
        | none => rw [he] at h0; cases h0
        | some e =>
          rw [he] at h0
          exact ⟨e, by rw [← Array.getElem?_toList]; exact he, Option.some.inj h0⟩
      · have := (e2 j').2 (fun i0 z => hex ⟨i0, z⟩)
        rw [ho] at this; cases this
  generalize hL : (List.range (mask + 1)).filterMap (fun j => (owner.getD j none).map fun i => (j, i)) = L at lv
  have fst : L.map (·.1) = (List.range (mask + 1)).filter (fun j => (owner.getD j none).isSome) := by
    rw [← hL]
    generalize List.range (mask + 1) = R
    induction R with
    | nil => rfl
    | cons j R ih =>
      rw [List.filterMap_cons, List.filter_cons]
      cases owner.getD j none with
      | none => exact ih
      | some i => show j :: _ = j :: _; rw [ih]
  have asc : (L.map (·.1)).Pairwise (· < ·) := by rw [fst]; exact (List.pairwise_lt_range (n := mask + 1)).filter _
  have el : ((L.map (·.2)).toArray.filterMap (es[·]?)).toList = (L.map (·.2)).filterMap (es[·]?) := by rw [Array.toList_filterMap]
  have ks := keys_of L lv
  have mem : ∀ k, k ∈ L.map (fun p => ((p.1 : Nat) : Int)) ↔ k ∈ es.toList.map keyOf := by
    intro k
    constructor
    · intro hk
      obtain ⟨p, hp, rfl⟩ := List.mem_map.mp hk
      obtain ⟨e, h1, h2⟩ := lv p hp
      rw [← h2]
      refine List.mem_map_of_mem ?_
      rw [← Array.getElem?_toList] at h1
      exact List.mem_of_getElem? h1
    · intro hk
      obtain ⟨k0, k1⟩ := h.sm k hk
      obtain ⟨i, hi⟩ := List.getElem?_of_mem hk
      have ek : ((k.toNat : Nat) : Int) = k := by omega
      have := (e2 k.toNat).1 i (by rw [ek]; exact hi)
      refine List.mem_map.mpr ⟨(k.toNat, i), ?_, ek⟩
      rw [← hL]
      exact List.mem_filterMap.mpr ⟨k.toNat, List.mem_range.mpr (by omega), by rw [this]; rfl⟩
  have nd : (L.map (fun p => ((p.1 : Nat) : Int))).Nodup := by
    have : L.map (fun p => ((p.1 : Nat) : Int)) = (L.map (·.1)).map (fun n => ((n : Nat) : Int)) := by rw [List.map_map]; rfl
    rw [this]
    rw [List.Nodup, List.pairwise_map]
    exact asc.imp (fun z => by omega)
  have ln : L.length = es.size := by
    have a1 := nodup_len nd (fun x hx => (mem x).mp hx)
    have a2 := nodup_len h.nd (fun x hx => (mem x).mpr hx)
    simp only [List.length_map, Array.length_toList] at a1 a2
    omega
  refine ⟨{ mask, place := (L.map (·.1)).toArray, dummies := #[], finger, led, moves, plain }, (L.map (·.2)).toArray, ?_, rfl, rfl, rfl, asc, ?_, ⟨?_, ?_, ?_⟩, ?_, ?_⟩
  · unfold SetTable.laid
    rw [e1, ← hL]; rfl
  · show (L.map (·.1)).toArray.size = _
    rw [List.size_toArray, List.length_map]; exact ln
  · intro e he
    rw [el] at he
    obtain ⟨i, _, hi⟩ := List.mem_filterMap.mp he
    rw [← Array.getElem?_toList] at hi
    exact h.good e (List.mem_of_getElem? hi)
  · rw [el, ks]; exact nd
  · rw [el, ks]; exact fun k hk => h.sm k ((mem k).mp hk)
  · have : ((L.map (·.2)).toArray.filterMap (es[·]?)).toList.length = L.length := by
      have z := congrArg List.length ks
      rw [List.length_map, List.length_map] at z
      rw [el]; exact z
    rw [Array.length_toList] at this
    omega
  · rw [el, ks]; exact mem
end Kw

set_option Elab.async false
set_option linter.all false
set_option maxRecDepth 100000
set_option maxHeartbeats 4000000
/-! set | set, set - set, of small ints. -/
namespace Kw
open PySem PySem.Spec PyProof.Rows L2
theorem above_ok : ((List.range 101).all fun n => decide (8 ≤ SetTable.sizeAbove n) && decide (SetTable.sizeAbove n ≤ 128)) = true := by decide +kernel
theorem above_of {n : Nat} (h : n ≤ 100) : 8 ≤ SetTable.sizeAbove n ∧ SetTable.sizeAbove n ≤ 128 := by
  have z := List.all_eq_true.mp above_ok n (List.mem_range.mpr (by omega))
  rw [Bool.and_eq_true, decide_eq_true_iff, decide_eq_true_iff] at z
  exact z
/-- a set of ints from 0 to 6 -/
def Sml6 (S : Int → Bool) : Prop := ∀ k, S k = true → 0 ≤ k ∧ k < 7
section
variable {P : Program} {w : World} {A : Around} {E : Value → Shared → Prop} {s : Shared} {a : Addr} {S : Int → Bool} {n : Nat}
theorem sm_of {es : Array (Int × Value)} (sm : Sml6 S) (g : ∀ e ∈ es.toList, GoodE e) (nd : (es.toList.map keyOf).Nodup) (hm : ∀ k, S k = true ↔ k ∈ es.toList.map keyOf) : Sm es := ⟨g, nd, fun k hk => sm k ((hm k).mpr hk)⟩
/-- with a table that has no dummies and at least eight slots -/
def SetQ (w : World) (h : Heap) (a : Addr) (S : Int → Bool) (n : Nat) : Prop :=
  ∃ o es ep t, h.get? a = some o ∧ o.ExactSet ∧ o.data = .set es ep t ∧ (∀ e ∈ es.toList, GoodE e) ∧ (es.toList.map keyOf).Nodup ∧ (∀ k, S k = true ↔ k ∈ es.toList.map keyOf) ∧
    es.size < scanBound ∧ t.fits es.size = true ∧ es.size = n ∧ Ris t.place.toList ∧ (w.params.followText "set-order" = true ∨ t.led = true) ∧ 7 ≤ t.mask ∧ t.dummies = #[]
theorem SetQ.r {h : Heap} (R : SetQ w h a S n) : SetR w h a S n := by
  obtain ⟨o, es, ep, t, ho, hx, hd, g, nd, hm, hb, hf, hn, ris, led, _⟩ := R
  exact ⟨o, es, ep, t, ho, hx, hd, g, nd, hm, hb, hf, hn, ris, led⟩
theorem relay_small {wanted : Nat} {Q : Unit → Shared → Prop} (R : SetR w s.heap a S n) (sm : Sml6 S) (hw : wanted ≤ 100) (hQ : ∀ h', Heap.SameBut a s.heap h' → SetQ w h' a S n → Q () { s with heap := h' }) : wpAny (model P w) A (setRelay a wanted) Q E s := by
  obtain ⟨o, es, ep, t, ho, hx, hd, g, nd, hm, hb, hf, hn, ris, led⟩ := R
  have SM := sm_of sm g nd hm
  obtain ⟨b1, b2⟩ := above_of hw
  obtain ⟨t', order, e1, e2, e3, e4, e5, e6, e7, e8, e9⟩ := laid_small (mask := SetTable.sizeAbove wanted - 1) (finger := t.finger) (moves := t.movedTo (SetTable.sizeAbove wanted - 1)) (led := t.led) (plain := t.plain) (by omega) SM
  unfold setRelay
  refine wpAny_bind (wpAny_setState_of ho hd hf ?_)
  dsimp only
  rw [if_neg (show ¬ SetTable.sizeAbove wanted > sizeLine by rw [sizeLine_eq]; omega)]
  have er : t.relaid (es.map (·.1)) wanted = some (t', order) := e1
  refine wpAny_bind ?_
  rw [er]
  show wpAny _ _ (if ((order.filterMap (es[·]?)).size != es.size) = true then _ else _) _ _ _
  rw [if_neg (by rw [e8]; simp)]
  refine wpAny_pure ?_
  dsimp only
  have hb' : (order.filterMap (es[·]?)).size < scanBound := by rw [e8]; exact hb
  have sz := SM.size
  refine wpAny_storeSet_of ho hd ?_ (fits_of_scanBound hb')
  refine hQ _ (Heap.SameBut.update s.heap a _) ⟨_, _, _, t', store_at ho hd, hx, rfl, e7.good, e7.nd, fun k => (hm k).trans (e9 k).symm, hb', ?_, by rw [e8]; exact hn, e5, led.imp id fun z => by rw [e4]; exact z, by rw [e2]; omega, e3⟩
  unfold SetTable.fits SetTable.fill
  rw [e6, e3, e2, e8]
  simp
  omega
theorem room_small {more : Nat} {Q : Unit → Shared → Prop} (R : SetQ w s.heap a S n) (sm : Sml6 S) (hw : more ≤ 7) (hQ : ∀ h', Heap.SameBut a s.heap h' → SetQ w h' a S n → Q () { s with heap := h' }) : wpAny (model P w) A (setRoomFor a more) Q E s := by
  have R' := R
  obtain ⟨o, es, ep, t, ho, hx, hd, g, nd, hm, hb, hf, hn, ris, led, msk, dum⟩ := R
  have SM := sm_of sm g nd hm
  have sz := SM.size
  have ps : t.place.size = es.size := by
    unfold SetTable.fits at hf
    rw [Bool.and_eq_true, beq_iff_eq] at hf
    exact hf.1
  unfold setRoomFor
  refine wpAny_bind (wpAny_setState_of ho hd hf ?_)
  dsimp only
  unfold SetTable.roomFor
  split
  · rename_i wanted heq
    split at heq
    · have e := Option.some.inj heq
      refine relay_small R'.r sm (by rw [← e, ps]; omega) hQ
    · cases heq
  · exact wpAny_pure (hQ s.heap (Heap.SameBut.refl _ _) R')
theorem walk_at {o : Obj} {es : Array (Int × Value)} {ep : Nat} {t : SetTable} {Q : Array (Int × Value) → Shared → Prop} (ho : s.heap.get? a = some o) (hd : o.data = .set es ep t) (hf : t.fits es.size = true) (led : w.params.followText "set-order" = true ∨ t.led = true)
    (h : ∀ (es' : Array (Int × Value)) d, es'.toList.Perm es.toList → Q es' { s with drawn := d }) : wpAny (model P w) A (setWalk a) Q E s := by
  unfold setWalk
  refine wpAny_bind (wpAny_setState_of ho hd hf ?_)
  dsimp only
  refine wpAny_bind (wpAny_byText ?_)
  by_cases hb : w.params.followText "set-order" = true
  · rw [if_pos hb]
    refine wpAny_bind (wpAny_askSetting ?_)
    exact wpAny_pure (h _ s.drawn (pick_perm _ _))
  · rw [if_neg hb]
    have tl : t.led = true := led.resolve_left hb
    show wpAny _ _ (if (!t.plain && decide (es.size > 1)) = true then _ else _) _ _ _
    split
    · refine wpAny_bind (drawOrder_at es.size es.toList s _ (Nat.le_of_eq (by simp)) fun ys d p => ?_)
      exact wpAny_pure (h ys.toArray d p)
    · refine wpAny_bind ?_
      show wpAny _ _ (if (!t.led && decide (es.size > 1)) = true then _ else _) _ _ _
      rw [tl]
      rw [if_neg (by simp)]
      exact wpAny_pure (wpAny_pure (h es s.drawn (List.Perm.refl _)))
theorem quiet_at {l : List Addr} {Q : Bool → Shared → Prop} (hl : ∀ b ∈ l, ∃ S n, SetR w s.heap b S n) (h : Q true s) : wpAny (model P w) A (setsQuiet l) Q E s := by
  unfold setsQuiet
  refine wpAny_bind (wpAny_forIn_list _ (fun rest b s' => b.1 = none ∧ s' = s ∧ ∀ a ∈ rest, ∃ S n, SetR w s.heap a S n) _ ?turn ?fin l _ ⟨rfl, rfl, hl⟩)
  case turn =>
    rintro a rest ⟨b1, b2⟩ s' ⟨hb, rfl, hr⟩
    obtain ⟨S, n, o, es, ep, t, ho, hx, hd, g, nd, hm, hbd, hf, hn, ris, led⟩ := hr a (List.mem_cons_self ..)
    refine wpAny_bind (wpAny_setEntries_of ho hd hf ?_)
    refine wpAny_bind (MeetsSeq2.wpAny_forIn_array _ (fun rest' b s2 => b.1 = none ∧ s2 = s' ∧ ∀ e ∈ rest', GoodE e) _ ?t2 ?f2 es _ ⟨rfl, rfl, g⟩)
    case t2 =>
      rintro ⟨hh, x⟩ rest' ⟨c1, c2⟩ s2 ⟨hc, rfl, hg⟩
      obtain ⟨k, tk, e1, _⟩ := hg _ (List.mem_cons_self ..)
      have e1' : x = Value.int k tk := e1
      subst e1'
      have hc' : c1 = none := hc
      subst hc'
      exact wpAny_pure ⟨rfl, rfl, fun e he => hg e (List.mem_cons_of_mem _ he)⟩
    case f2 =>
      rintro ⟨c1, c2⟩ s2 ⟨hc, rfl, hg⟩
      have hc' : c1 = none := hc
      subst hc'
      exact wpAny_pure ⟨rfl, rfl, fun e he => hr e (List.mem_cons_of_mem _ he)⟩
  case fin =>
    rintro ⟨b1, b2⟩ s' ⟨hb, rfl, hr⟩
    have hb' : b1 = none := hb
    subst hb'
    exact wpAny_pure h
/-- the elements of the set at a, in some order -/
def Els (S : Int → Bool) (n : Nat) (es : Array (Int × Value)) : Prop := (∀ e ∈ es.toList, GoodE e) ∧ (es.toList.map keyOf).Nodup ∧ (∀ k, S k = true ↔ k ∈ es.toList.map keyOf) ∧ es.size = n
theorem Els.perm {es es' : Array (Int × Value)} (h : Els S n es) (p : es'.toList.Perm es.toList) : Els S n es' := by
  obtain ⟨h1, h2, h3, h4⟩ := h
  refine ⟨fun e he => h1 e (p.mem_iff.mp he), (p.map keyOf).nodup_iff.mpr h2, fun k => (h3 k).trans (p.map keyOf).mem_iff.symm, ?_⟩
  rw [← h4, ← Array.length_toList, ← Array.length_toList, p.length_eq]
theorem unseen_at {f : Addr} {Sf : Int → Bool} {nf : Nat} {others : List Addr} {Q : Array (Int × Value) → Shared → Prop} (R : SetR w s.heap a S n) (Rf : SetR w s.heap f Sf nf) (ne : a ≠ f) (ho' : ∀ b ∈ others, ∃ S n, SetR w s.heap b S n)
    (h : ∀ (es' : Array (Int × Value)) h' d, Els S n es' → Heap.SameBut f s.heap h' → SetR w h' f Sf nf → Q es' { s with heap := h', drawn := d }) : wpAny (model P w) A (setWalkUnseen a others (some f)) Q E s := by
  have R' := R
  have Rf' := Rf
  obtain ⟨o, es, ep, t, ho, hx, hd, g, nd, hm, hb, hf, hn, ris, led⟩ := R
  obtain ⟨fo, fes, fep, ft, fho, fhx, fhd, fg, fnd, fhm, fhb, fhf, fhn, fris, fled⟩ := Rf
  have els : Els S n es := ⟨g, nd, hm, hn⟩
  have walk : wpAny (model P w) A (setWalk a) Q E s := walk_at ho hd hf led fun es' d p => h es' s.heap d (els.perm p) (Heap.SameBut.refl _ _) Rf'
  unfold setWalkUnseen
  refine wpAny_bind (wpAny_setState_of ho hd hf ?_)
  dsimp only
  refine wpAny_bind (wpAny_byText ?_)
  split
  · exact walk
  · rename_i hc
    have nbt : w.params.followText "set-order" ≠ true := fun z => hc (by rw [z]; rfl)
    have tl : t.led = true := led.resolve_left nbt
    have fl : ft.led = true := fled.resolve_left nbt
    refine wpAny_bind (quiet_at (fun b hb => ?_) ?_)
    · rcases List.mem_cons.mp hb with z | z
      · rw [z]; exact ⟨S, n, R'⟩
      · exact ho' b z
    · rw [if_neg (by decide)]
      refine wpAny_bind (wpAny_rule ?_)
      refine wpAny_bind (wpAny_setState_of fho fhd fhf ?_)
      dsimp only
      split
      · have ff : ({ ft with led := ft.led && t.led, plain := ft.plain && t.plain } : SetTable).fits fes.size = true := fhf
        refine wpAny_bind (wpAny_storeSet_of fho fhd ?_ (fits_of_scanBound fhb))
        refine wpAny_pure (h es _ s.drawn els (Heap.SameBut.update s.heap f _) ⟨_, fes, _, _, store_at fho fhd, fhx, rfl, fg, fnd, fhm, fhb, ff, fhn, fris, .inr ?_⟩)
        show (ft.led && t.led) = true
        rw [fl, tl]; rfl
      · exact wpAny_pure (h es s.heap s.drawn els (Heap.SameBut.refl _ _) Rf')
theorem road0 {ts to : SetTable} (h0 : ts.fill = 0) : ts.road to = if (ts.mask == to.mask && to.dummies.isEmpty) = true then .slotForSlot else .clean := by
  unfold SetTable.road
  rw [h0]; rfl
/-- into an empty one -/
theorem merge0 {r : Addr} {each : Sem Unit} {Q : Unit → Shared → Prop} (Rr : SetQ w s.heap r (fun _ => false) 0) (Ro : SetR w s.heap a S n) (ne : r ≠ a) (sm : Sml6 S)
    (h : ∀ h', Heap.SameBut r s.heap h' → SetQ w h' r S n → Q () { s with heap := h' }) : wpAny (model P w) A (setMerge r a each) Q E s := by
  have Rr' := Rr
  obtain ⟨o, es, ep, t, ho, hx, hd, g, nd, hm, hb, hf, hn, ris, led⟩ := Ro
  have SM := sm_of sm g nd hm
  have sz := SM.size
  unfold setMerge
  rw [if_neg (by simpa using ne)]
  refine wpAny_bind (wpAny_setState_of ho hd hf ?_)
  dsimp only
  by_cases he : es.isEmpty = true
  · rw [if_pos he]
    have e0 : es = #[] := Array.isEmpty_iff.mp he
    subst e0
    refine wpAny_pure ?_
    have hS : S = fun _ => false := funext fun k => by
      cases z : S k with
      | false => rfl
      | true => have := (hm k).mp z; simp at this
    have hn0 : n = 0 := hn.symm
    subst hS hn0
    exact h s.heap (Heap.SameBut.refl _ _) Rr'
  · rw [if_neg he]
    refine wpAny_bind (room_small Rr' (fun k z => nomatch z) (by omega) fun h1 sb1 R1 => ?_)
    obtain ⟨ro, res, rep, rt, rho, rhx, rhd, rg, rnd, rhm, rhb, rhf, rhn, rris, rled, rmsk, rdum⟩ := R1
    have ho1 : h1.get? a = some o := (sb1.2 a ne.symm).trans ho
    refine wpAny_bind (wpAny_setState_of (s := { s with heap := h1 }) rho rhd rhf ?_)
    dsimp only
    have r0 : rt.fill = 0 := by
      unfold SetTable.fits at rhf
      rw [Bool.and_eq_true, beq_iff_eq] at rhf
      unfold SetTable.fill
      rw [rhf.1, rdum, rhn]; rfl
    rw [road0 r0]
    by_cases hc : (rt.mask == t.mask && t.dummies.isEmpty) = true
    · rw [if_pos hc]
      dsimp only
      rw [Bool.and_eq_true, beq_iff_eq] at hc
      refine wpAny_storeSet_of (s := { s with heap := h1 }) rho rhd ?_ (fits_of_scanBound hb)
      refine h _ (sb1.trans (Heap.SameBut.update h1 r _)) ⟨_, es, _, _, store_at rho rhd, rhx, rfl, g, nd, hm, hb, hf, hn, ris, ?_, by rw [← hc.1]; exact rmsk, Array.isEmpty_iff.mp hc.2⟩
      rcases led with z | z
      · exact .inl z
      · rcases rled with y | y
        · exact .inl y
        · exact .inr (by show (rt.led && t.led) = true; rw [y, z]; rfl)
    · rw [if_neg hc]
      dsimp only
      obtain ⟨t', order, e1, e2, e3, e4, e5, e6, e7, e8, e9⟩ := laid_small (mask := rt.mask) (finger := rt.finger) (moves := rt.moves) (led := rt.led && t.led) (plain := rt.plain && t.plain) rmsk SM
      refine wpAny_bind ?_
      rw [e1]
      show wpAny _ _ (if ((order.filterMap (es[·]?)).size != es.size) = true then _ else _) _ _ _
      rw [if_neg (by rw [e8]; simp)]
      refine wpAny_pure ?_
      dsimp only
      have hb' : (order.filterMap (es[·]?)).size < scanBound := by rw [e8]; exact hb
      refine wpAny_storeSet_of (s := { s with heap := h1 }) rho rhd ?_ (fits_of_scanBound hb')
      refine h _ (sb1.trans (Heap.SameBut.update h1 r _)) ⟨_, _, _, t', store_at rho rhd, rhx, rfl, e7.good, e7.nd, fun k => (hm k).trans (e9 k).symm, hb', ?_, by rw [e8]; exact hn, e5, ?_, by rw [e2]; exact rmsk, e3⟩
      · unfold SetTable.fits SetTable.fill
        rw [e6, e3, e2, e8]
        simp
        omega
      · rcases led with z | z
        · exact .inl z
        · rcases rled with y | y
          · exact .inl y
          · exact .inr (by rw [e4, y, z]; rfl)
/-- into any one -/
theorem merge1 {r : Addr} {Sr : Int → Bool} {nr : Nat} {each : Sem Unit} {Q : Unit → Shared → Prop} (Rr : SetQ w s.heap r Sr nr) (Ro : SetR w s.heap a S n) (ne : r ≠ a) (smr : Sml6 Sr) (sm : Sml6 S)
    (heach : ∀ (s' : Shared) (Q' : Unit → Shared → Prop), (∀ o, s.heap.get? a = some o → s'.heap.get? a = some o) → Q' () s' → wpAny (model P w) A each Q' E s')
    (h : ∀ h' d c, Heap.SameBut r s.heap h' → SetR w h' r (fun k => Sr k || S k) c → c ≤ 20 → Q () { s with heap := h', drawn := d }) : wpAny (model P w) A (setMerge r a each) Q E s := by
  have szr : nr ≤ 7 := by
    obtain ⟨o, es, ep, t, ho, hx, hd, g, nd, hm, hb, hf, hn, _⟩ := Rr
    rw [← hn]; exact (sm_of smr g nd hm).size
  by_cases h0 : nr = 0
  · subst h0
    have e0 : Sr = fun _ => false := by
      obtain ⟨o, es, ep, t, ho, hx, hd, g, nd, hm, hb, hf, hn, _⟩ := Rr
      funext k
      cases z : Sr k with
      | false => rfl
      | true =>
        have y := (hm k).mp z
        have : es.toList = [] := List.length_eq_zero_iff.mp (by rw [Array.length_toList]; exact hn)
        rw [this] at y; simp at y
    subst e0
    have sz : n ≤ 7 := by
      obtain ⟨o, es, ep, t, ho, hx, hd, g, nd, hm, hb, hf, hn, _⟩ := Ro
      rw [← hn]; exact (sm_of sm g nd hm).size
    refine merge0 Rr Ro ne sm fun h' sb R => ?_
    have e1 : (fun k => false || S k) = S := by funext k; rfl
    exact h h' s.drawn n sb (by rw [e1]; exact R.r) (by omega)
  · have Ro' := Ro
    obtain ⟨o, es, ep, t, ho, hx, hd, g, nd, hm, hb, hf, hn, ris, led⟩ := Ro
    have SM := sm_of sm g nd hm
    have sz := SM.size
    unfold setMerge
    rw [if_neg (by simpa using ne)]
    refine wpAny_bind (wpAny_setState_of ho hd hf ?_)
    dsimp only
    by_cases he : es.isEmpty = true
    · rw [if_pos he]
      have e0 : es = #[] := Array.isEmpty_iff.mp he
      subst e0
      refine wpAny_pure ?_
      have hS : S = fun _ => false := funext fun k => by
        cases z : S k with
        | false => rfl
        | true => have := (hm k).mp z; simp at this
      subst hS
      have e1 : (fun k => Sr k || false) = Sr := by funext k; exact Bool.or_false _
      exact h s.heap s.drawn nr (Heap.SameBut.refl _ _) (by rw [e1]; exact Rr.r) (by omega)
    · rw [if_neg he]
      refine wpAny_bind (room_small Rr smr (by omega) fun h1 sb1 R1 => ?_)
      have R1r := R1.r
      obtain ⟨ro, res, rep, rt, rho, rhx, rhd, rg, rnd, rhm, rhb, rhf, rhn, rris, rled, rmsk, rdum⟩ := R1
      have ho1 : h1.get? a = some o := (sb1.2 a ne.symm).trans ho
      refine wpAny_bind (wpAny_setState_of (s := { s with heap := h1 }) rho rhd rhf ?_)
      dsimp only
      have rf : rt.road t = .oneByOne := by
        unfold SetTable.road
        rw [if_pos]
        unfold SetTable.fits at rhf
        rw [Bool.and_eq_true, beq_iff_eq] at rhf
        unfold SetTable.fill
        rw [rhf.1, rhn, rdum]
        simp
        exact h0
      rw [rf]
      dsimp only
      have Ro1 : SetR w h1 a S n := Ro'.at fun o' z => (sb1.2 a ne.symm).trans z
      refine wpAny_bind (unseen_at (s := { s with heap := h1 }) Ro1 R1r ne.symm (fun b hb => by rw [List.mem_singleton.mp hb]; exact ⟨_, _, R1r⟩) fun es' h2 d el sb2 R2 => ?_)
      obtain ⟨eg, en, em, esz⟩ := el
      have sb12 := sb1.trans sb2
      refine wpAny_bind (MeetsSeq2.wpAny_forIn_array _ (fun rest b s' => ∃ h' S' c, s' = { s with heap := h', drawn := d } ∧ Heap.SameBut r s.heap h' ∧ SetR w h' r S' c ∧ c + rest.length ≤ 14 ∧ (∀ e ∈ rest, GoodE e) ∧ ∀ k, (S' k = true ∨ k ∈ rest.map keyOf) ↔ (Sr k = true ∨ S k = true)) _ ?turn ?fin es' _ ⟨h2, Sr, nr, rfl, sb12, R2, by rw [Array.length_toList, esz, ← hn]; omega, eg, fun k => by rw [em k]⟩)
      case turn =>
        rintro ⟨hh, x⟩ rest b s' ⟨h', S', c, rfl, sb, R', hc, hg, hk⟩
        obtain ⟨k, tk, e1, e2⟩ := hg _ (List.mem_cons_self ..)
        have e1' : x = Value.int k tk := e1
        have e2' : hh = (intKind P w).hash k := e2
        subst e1' e2'
        rw [List.length_cons] at hc
        refine wpAny_bind (wpAny_holding (setR_add_hashed (s := { s with heap := h', drawn := d }) R' (by unfold scanBound; omega) fun h3 sb3 R3 => ?_))
        have sb' := sb.trans sb3
        have ho3 : h3.get? a = some o := (sb'.2 a ne.symm).trans ho
        refine wpAny_bind (heach _ _ (fun o' z => (sb'.2 a ne.symm).trans z) ?_)
        refine wpAny_bind (wpAny_setState_of (s := { s with heap := h3, drawn := d }) ho3 hd hf ?_)
        dsimp only
        rw [if_neg (by simp)]
        refine wpAny_pure ⟨h3, _, _, rfl, sb', R3, ?_, fun e he => hg e (List.mem_cons_of_mem _ he), fun j => ?_⟩
        · split <;> omega
        · rw [← hk j, Bool.or_eq_true, decide_eq_true_iff, List.map_cons, List.mem_cons]
          have ek : keyOf ((intKind P w).hash k, Value.int k tk) = k := rfl
          rw [ek]
          constructor
          · rintro ((z | z) | z)
            · exact .inl z
            · exact .inr (.inl z)
            · exact .inr (.inr z)
          · rintro (z | z | z)
            · exact .inl (.inl z)
            · exact .inl (.inr z)
            · exact .inr z
      case fin =>
        rintro b s' ⟨h', S', c, rfl, sb, R', hc, hg, hk⟩
        refine wpAny_pure ?_
        have eS : S' = fun k => Sr k || S k := by
          funext k
          have z := hk k
          simp only [List.map_nil, List.not_mem_nil, or_false] at z
          rw [Bool.eq_iff_iff, z, Bool.or_eq_true]
        rw [eS] at R'
        exact h h' d c sb R' (by omega)
end
end Kw

set_option Elab.async false
set_option linter.all false
set_option maxRecDepth 100000
set_option maxHeartbeats 4000000
namespace Kw
open PySem PySem.Spec PyProof.Rows L2
section
variable {P : Program} {w : World} {A : Around} {E : Value → Shared → Prop} {s : Shared} {l r : Addr} {S T : Int → Bool} {n m : Nat}
theorem set_ty (R : SetR w s.heap l S n) : s.TypeIs (.ref l) "set" := by
  obtain ⟨o, es, ep, t, ho, hx, _⟩ := R
  exact ⟨o, ho, hx.1⟩
theorem any_set {Q : Bool → Shared → Prop} (R : SetR w s.heap l S n) (h : Q true s) : wpAny (model P w) A (Builtin.Frozenset.isAnySet (.ref l)) Q E s := by
  unfold Builtin.Frozenset.isAnySet orM
  refine wpAny_bind (wpAny_isInstance (set_ty R) PySem.F.sub_set_set ?_)
  exact wpAny_pure h
theorem both_sets {Q : Bool → Shared → Prop} (Rl : SetR w s.heap l S n) (Rr : SetR w s.heap r T m) (h : Q true s) : wpAny (model P w) A (Builtin.Frozenset.isAnySet (.ref l) <&&> Builtin.Frozenset.isAnySet (.ref r)) Q E s := by
  unfold andM
  exact wpAny_bind (any_set Rl (any_set Rr h))
theorem fresh_q {h : Heap} : SetQ w (h.push { cls := .type "set", dict := none, data := .set #[] 0 (.fresh 0 0 (!w.params.followText "set-order")) }) h.objs.size (fun _ => false) 0 := by
  refine ⟨_, #[], 0, _, Heap.get?_push_size _ rfl, ⟨rfl, rfl, rfl⟩, rfl, (fun e he => by simp at he), (by simp), (fun k => by simp), (by decide), (by rfl), rfl, List.Pairwise.nil, ?_, Nat.le_refl 7, rfl⟩
  show _ ∨ (!w.params.followText "set-order") = true
  cases w.params.followText "set-order" <;> simp
theorem new_set_at {Q : Value → Shared → Prop} (h : Q (.ref s.heap.objs.size) { s with heap := s.heap.push { cls := .type "set", dict := none, data := .set #[] 0 (.fresh 0 0 (!w.params.followText "set-order")) } }) : wpAny (model P w) A (newSet (.type "set")) Q E s := by
  unfold newSet
  refine wpAny_bind (wpAny_byText ?_)
  simp only [newObj]
  exact wpAny_bind (wpAny_alloc (wpAny_pure h))
theorem copy_at {Q : Value → Shared → Prop} (R : SetR w s.heap l S n) (sm : Sml6 S)
    (h : ∀ h', (∀ b o, s.heap.get? b = some o → h'.get? b = some o) → SetQ w h' s.heap.objs.size S n → Q (.ref s.heap.objs.size) { s with heap := h' }) : wpAny (model P w) A (Builtin.Frozenset.copyOf l) Q E s := by
  unfold Builtin.Frozenset.copyOf Builtin.Frozenset.baseOf
  refine wpAny_bind (wpAny_bind (wpAny_isInstance (set_ty R) PySem.F.sub_set_set ?_))
  refine wpAny_pure ?_
  refine wpAny_bind ?_
  unfold newSet
  refine wpAny_bind (wpAny_byText ?_)
  have ll : l < s.heap.objs.size := R.lt
  have fin : wpAny (model P w) A (Builtin.Frozenset.addrOf (.ref s.heap.objs.size) >>= fun x => setMerge x l >>= fun _ => pure (Value.ref s.heap.objs.size)) Q E { s with heap := s.heap.push { cls := .type "set", dict := none, data := .set #[] 0 (.fresh 0 0 (!w.params.followText "set-order")) } } := by
    refine wpAny_bind (wpAny_pure ?_)
    refine wpAny_bind (merge0 (s := { s with heap := _ }) fresh_q (R.at fun o z => Heap.get?_push_of_some _ z) (Nat.ne_of_gt ll) sm fun h' sb R' => ?_)
    refine wpAny_pure (h h' (fun b o z => ?_) R')
    exact (sb.2 b (Nat.ne_of_lt (Heap.lt_size z))).trans (Heap.get?_push_of_some _ z)
  simp only [newObj]
  refine wpAny_bind (wpAny_alloc (wpAny_pure ?_))
  exact fin
theorem epoch_same {was : Nat} {id : String} {Q : Unit → Shared → Prop} {o : Obj} {es : Array (Int × Value)} {t : SetTable} (ho : s.heap.get? l = some o) (hd : o.data = .set es was t) (hf : t.fits es.size = true) (h : Q () s) : wpAny (model P w) A (Builtin.Frozenset.unchanged id l was) Q E s := by
  unfold Builtin.Frozenset.unchanged
  refine wpAny_bind (wpAny_setEpoch_of ho hd hf ?_)
  rw [if_neg (by simp)]
  exact wpAny_pure h
theorem or_body {Q : Value → Shared → Prop} (Rl : SetR w s.heap l S n) (Rr : SetR w s.heap r T m) (ne : l ≠ r) (sl : Sml6 S) (sr : Sml6 T)
    (h : ∀ h' d c, (∀ b o, s.heap.get? b = some o → h'.get? b = some o) → SetR w h' s.heap.objs.size (fun k => S k || T k) c → c ≤ 20 → Q (.ref s.heap.objs.size) { s with heap := h', drawn := d }) :
    wpAny (model P w) A (Builtin.«frozenset.__or__» ⟨[.ref l, .ref r], []⟩) (fun fin s' => ∃ v, fin = .done (.ret v) ∧ Q v s') E s := by
  refine wpAny_bind (m := Builtin.Frozenset.slot1 "__or__" ⟨[.ref l, .ref r], []⟩) ?_
  refine wpAny_of_eq (a := (Value.ref l, Value.ref r)) rfl ?_
  dsimp only
  refine wpAny_bind (both_sets Rl Rr ?_)
  refine wp_if_neg (by decide) ?_
  refine wpAny_bind (m := Builtin.Frozenset.addrOf (.ref l)) (wpAny_pure ?_)
  refine wpAny_bind ?_
  refine wpAny_bind (m := Builtin.Frozenset.copyOf l) (copy_at Rl sl fun h1 k1 R1 => ?_)
  have lr : r < s.heap.objs.size := Rr.lt
  have nr : (Value.ref r != Value.ref l) = true := by
    rw [bne_iff_ne]; exact fun z => ne (Value.ref.inj z).symm
  have Rr1 : SetR w h1 r T m := Rr.at fun o z => k1 _ _ z
  have big : h1.objs.size > s.heap.objs.size := by
    obtain ⟨o, _, _, _, ho, _⟩ := R1
    exact Heap.lt_size ho
  refine wp_if_pos nr ?_
  refine wpAny_bind (m := Builtin.Frozenset.addrOf (.ref s.heap.objs.size)) (wpAny_pure ?_)
  refine wpAny_bind (wpAny_holding ?_)
  unfold Builtin.Frozenset.updateFrom
  refine wpAny_bind (any_set (s := { s with heap := h1 }) Rr1 ?_)
  refine wp_if_pos rfl ?_
  refine wpAny_bind (m := Builtin.Frozenset.addrOf (.ref r)) (wpAny_pure ?_)
  unfold Builtin.Frozenset.merge
  obtain ⟨ro, res, rep, rt, rho, rhx, rhd, rg, rnd, rhm, rhb, rhf, rhn, rris, rled⟩ := id Rr1
  refine wpAny_bind (wpAny_setEpoch_of (s := { s with heap := h1 }) rho rhd rhf ?_)
  refine merge1 (s := { s with heap := h1 }) R1 Rr1 (Nat.ne_of_gt lr) sl sr (fun s' Q' ks q => epoch_same (ks _ rho) rhd rhf q) fun h2 d c sb R2 hc => ?_
  refine wpAny_pure (wpAny_pure ⟨_, rfl, h h2 d c (fun b o z => ?_) R2 hc⟩)
  exact (sb.2 b (Nat.ne_of_lt (Heap.lt_size z))).trans (k1 _ _ z)
theorem unseen_few {others : List Addr} {f : Option Addr} {Q : Array (Int × Value) → Shared → Prop} (R : SetR w s.heap l S n) (hn : n ≤ 1) (h : ∀ (es' : Array (Int × Value)) d, Els S n es' → Q es' { s with drawn := d }) : wpAny (model P w) A (setWalkUnseen l others f) Q E s := by
  obtain ⟨o, es, ep, t, ho, hx, hd, g, nd, hm, hb, hf, hsz, ris, led⟩ := R
  unfold setWalkUnseen
  refine wpAny_bind (wpAny_setState_of ho hd hf ?_)
  dsimp only
  refine wpAny_bind (wpAny_byText ?_)
  refine wp_if_pos (by rw [hsz, decide_eq_true hn, Bool.or_true]) ?_
  exact walk_at ho hd hf led fun es' d p => h es' d (Els.perm ⟨g, nd, hm, hsz⟩ p)
theorem size_at {Q : Nat → Shared → Prop} (R : SetR w s.heap l S n) (h : Q n s) : wpAny (model P w) A (Builtin.Frozenset.sizeOf l) Q E s := by
  obtain ⟨o, es, ep, t, ho, hx, hd, g, nd, hm, hb, hf, hn, ris, led⟩ := R
  unfold Builtin.Frozenset.sizeOf
  refine wpAny_bind (wpAny_setEntries_of ho hd hf (wpAny_pure ?_))
  rw [hn]; exact h
theorem sub_body {Q : Value → Shared → Prop} (Rl : SetR w s.heap l S n) (Rr : SetR w s.heap r T m) (ne : l ≠ r) (sl : Sml6 S) (sr : Sml6 T)
    (h : ∀ h' d c, (∀ b o, s.heap.get? b = some o → h'.get? b = some o) → SetR w h' s.heap.objs.size (fun k => S k && !T k) c → c ≤ 20 → Q (.ref s.heap.objs.size) { s with heap := h', drawn := d }) :
    wpAny (model P w) A (Builtin.«frozenset.__sub__» ⟨[.ref l, .ref r], []⟩) (fun fin s' => ∃ v, fin = .done (.ret v) ∧ Q v s') E s := by
  have szl : n ≤ 7 := by
    obtain ⟨o, es, ep, t, ho, hx, hd, g, nd, hm, hb, hf, hn, _⟩ := Rl
    rw [← hn]; exact (sm_of sl g nd hm).size
  have lr : r < s.heap.objs.size := Rr.lt
  have ll : l < s.heap.objs.size := Rl.lt
  refine wpAny_bind (m := Builtin.Frozenset.slot1 "__sub__" ⟨[.ref l, .ref r], []⟩) ?_
  refine wpAny_of_eq (a := (Value.ref l, Value.ref r)) rfl ?_
  dsimp only
  refine wpAny_bind (both_sets Rl Rr ?_)
  refine wp_if_neg (by decide) ?_
  refine wpAny_bind (m := Builtin.Frozenset.addrOf (.ref l)) (wpAny_pure ?_)
  refine wpAny_bind ?_
  unfold Builtin.Frozenset.difference
  dsimp only
  refine wpAny_bind (any_set Rr ?_)
  refine wp_if_neg (by decide) ?_
  refine wpAny_bind (m := Builtin.Frozenset.addrOf (.ref r)) (wpAny_pure ?_)
  refine wp_if_neg (show ¬ (!true && (r == sysModules)) = true by simp) ?_
  refine wp_if_pos rfl ?_
  refine wpAny_bind (size_at Rr ?_)
  refine wpAny_bind (size_at Rl ?_)
  by_cases big : n / 4 > m
  · refine wp_if_pos big ?_
    have m0 : m = 0 := by omega
    subst m0
    have hT : T = fun _ => false := by
      obtain ⟨o, es, ep, t, ho, hx, hd, g, nd, hm, hb, hf, hn, _⟩ := Rr
      funext k
      cases z : T k with
      | false => rfl
      | true =>
        have y := (hm k).mp z
        have : es.toList = [] := List.length_eq_zero_iff.mp (by rw [Array.length_toList]; exact hn)
        rw [this] at y; simp at y
    subst hT
    refine wpAny_bind (wpAny_rule ?_)
    refine wpAny_bind (copy_at Rl sl fun h1 k1 R1 => ?_)
    refine wpAny_bind (m := Builtin.Frozenset.addrOf (.ref s.heap.objs.size)) (wpAny_pure ?_)
    have Rr1 : SetR w h1 r (fun _ => false) 0 := Rr.at fun o z => k1 _ _ z
    have nr : (Value.ref r == Value.ref s.heap.objs.size) = false := beq_eq_false_iff_ne.mpr fun z => Nat.ne_of_lt lr (Value.ref.inj z)
    refine wpAny_bind (wpAny_holding ?_)
    unfold Builtin.Frozenset.differenceUpdate
    refine wp_if_neg (show ¬ (Value.ref r == Value.ref s.heap.objs.size) = true by rw [nr]; decide) ?_
    refine wpAny_bind (any_set (s := { s with heap := h1 }) Rr1 ?_)
    refine wp_if_pos rfl ?_
    refine wpAny_bind (m := Builtin.Frozenset.addrOf (.ref r)) (wpAny_pure ?_)
    refine wpAny_bind (size_at (s := { s with heap := h1 }) Rr1 ?_)
    refine wpAny_bind (size_at (s := { s with heap := h1 }) R1.r ?_)
    refine wp_if_neg (by simp) ?_
    obtain ⟨ro, res, rep, rt, rho, rhx, rhd, rg, rnd, rhm, rhb, rhf, rhn, rris, rled⟩ := id Rr1
    refine wpAny_bind (wpAny_setEpoch_of (s := { s with heap := h1 }) rho rhd rhf ?_)
    refine wpAny_bind (wpAny_holding ?_)
    refine wpAny_bind (unseen_few (s := { s with heap := h1 }) Rr1 (by decide) fun es' d el => ?_)
    have e0 : es' = #[] := Array.size_eq_zero_iff.mp el.2.2.2
    subst e0
    refine wpAny_pure ?_
    unfold setTidy
    obtain ⟨lo, les, lep, lt, lho, lhx, lhd, lg, lnd, lhm, lhb, lhf, lhn, lris, lled, lmsk, ldum⟩ := id R1
    refine wpAny_bind (wpAny_setState_of (s := { s with heap := h1, drawn := d }) lho lhd lhf ?_)
    dsimp only
    have td : lt.tooManyDummies = false := by
      unfold SetTable.tooManyDummies
      rw [ldum]; simp
    refine wp_if_neg (by rw [td]; decide) ?_
    have eS : (fun k => S k && !false) = S := by funext k; exact Bool.and_true _
    refine wpAny_pure (wpAny_pure (wpAny_pure ⟨_, rfl, h h1 d n k1 (by rw [eS]; exact R1.r) (by omega)⟩))
  · refine wp_if_neg big ?_
    unfold Builtin.Frozenset.baseOf
    refine wpAny_bind (wpAny_bind (wpAny_isInstance (set_ty Rl) PySem.F.sub_set_set ?_))
    refine wpAny_pure ?_
    refine wpAny_bind (m := newSet (.type "set")) (new_set_at ?_)
    refine wpAny_bind (m := Builtin.Frozenset.addrOf (.ref s.heap.objs.size)) (wpAny_pure ?_)
    have fq := fresh_q (w := w) (h := s.heap)
    have kp : ∀ b o, s.heap.get? b = some o → (s.heap.push { cls := .type "set", dict := none, data := .set #[] 0 (.fresh 0 0 (!w.params.followText "set-order")) }).get? b = some o := fun b o z => Heap.get?_push_of_some _ z
    generalize s.heap.push { cls := .type "set", dict := none, data := .set #[] 0 (.fresh 0 0 (!w.params.followText "set-order")) } = h1 at fq kp ⊢
    have Rl1 : SetR w h1 l S n := Rl.at fun o z => kp _ _ z
    have Rr1 : SetR w h1 r T m := Rr.at fun o z => kp _ _ z
    obtain ⟨lo, les, lep, lt, lho, lhx, lhd, lg, lnd, lhm, lhb, lhf, lhn, lris, lled⟩ := id Rl1
    refine wpAny_bind (wpAny_setEpoch_of (s := { s with heap := h1 }) lho lhd lhf ?_)
    refine wpAny_bind (wpAny_holding ?_)
    refine wpAny_bind (unseen_at (s := { s with heap := h1 }) (a := l) Rl1 fq.r (Nat.ne_of_lt ll) (fun b hb => ?_) fun es' h2 d el sb2 R2 => ?_)
    · rcases List.mem_cons.mp hb with z | z
      · rw [z]; exact ⟨_, _, Rr1⟩
      · rw [List.mem_singleton.mp z]; exact ⟨_, _, fq.r⟩
    obtain ⟨eg, en, em, esz⟩ := el
    refine wpAny_bind (MeetsSeq2.wpAny_forIn_array _ (fun rest b s' => ∃ h' S' c, s' = { s with heap := h', drawn := d } ∧ Heap.SameBut s.heap.objs.size h1 h' ∧ SetR w h' s.heap.objs.size S' c ∧ c + rest.length ≤ 14 ∧ (∀ e ∈ rest, GoodE e) ∧ (∀ k, S' k = true → T k = false) ∧ ∀ k, T k = false → ((S' k = true ∨ k ∈ rest.map keyOf) ↔ S k = true)) _ ?turn ?fin es' _ ⟨h2, _, 0, rfl, sb2, R2, by rw [Array.length_toList, esz]; omega, eg, (fun k z => (nomatch z)), fun k _ => by rw [em k]; simp⟩)
    case turn =>
      rintro ⟨hh, x⟩ rest b s' ⟨h', S', c, rfl, sb, R', hc, hg, hT, hk⟩
      obtain ⟨k, tk, e1, e2⟩ := hg _ (List.mem_cons_self ..)
      have e1' : x = Value.int k tk := e1
      have e2' : hh = (intKind P w).hash k := e2
      subst e1' e2'
      have ek : keyOf ((intKind P w).hash k, Value.int k tk) = k := rfl
      rw [List.length_cons] at hc
      have Rr2 : SetR w h' r T m := Rr1.at fun o z => (sb.2 r (Nat.ne_of_lt lr)).trans z
      have lho2 : h'.get? l = some lo := (sb.2 l (Nat.ne_of_lt ll)).trans lho
      refine wpAny_bind (wpAny_holding ?_)
      refine wp_if_pos rfl ?_
      refine wpAny_bind (wpAny_setFind_of (s := { s with heap := h', drawn := d }) (knd := intKind P w) (intKind_is P w k tk) rfl Rr2.setOf fun f hf' => ?_)
      by_cases hTk : T k = true
      · refine wp_if_neg (by rw [hf', hTk]; decide) ?_
        refine wpAny_pure ?_
        refine wpAny_bind (epoch_same (s := { s with heap := h', drawn := d }) lho2 lhd lhf ?_)
        refine wpAny_pure ⟨h', S', c, rfl, sb, R', by omega, fun e he => hg e (List.mem_cons_of_mem _ he), hT, fun j hj => ?_⟩
        rw [← hk j hj, List.map_cons, List.mem_cons, ek]
        constructor
        · rintro (z | z)
          · exact .inl z
          · exact .inr (.inr z)
        · rintro (z | z | z)
          · exact .inl z
          · rw [z, hTk] at hj; exact nomatch hj
          · exact .inr z
      · rw [Bool.not_eq_true] at hTk
        refine wp_if_pos (by rw [hf', hTk]; rfl) ?_
        refine wpAny_bind (setR_add_hashed (s := { s with heap := h', drawn := d }) R' (by unfold scanBound; omega) fun h3 sb3 R3 => ?_)
        have sb' := sb.trans sb3
        refine wpAny_pure ?_
        refine wpAny_bind (epoch_same (s := { s with heap := h3, drawn := d }) ((sb'.2 l (Nat.ne_of_lt ll)).trans lho) lhd lhf ?_)
        refine wpAny_pure ⟨h3, _, _, rfl, sb', R3, by split <;> omega, fun e he => hg e (List.mem_cons_of_mem _ he), fun j hj => ?_, fun j hj => ?_⟩
        · rw [Bool.or_eq_true, decide_eq_true_iff] at hj
          rcases hj with z | z
          · exact hT j z
          · rw [z]; exact hTk
        · rw [← hk j hj, List.map_cons, List.mem_cons, ek, Bool.or_eq_true, decide_eq_true_iff]
          constructor
          · rintro ((z | z) | z)
            · exact .inl z
            · exact .inr (.inl z)
            · exact .inr (.inr z)
          · rintro (z | z | z)
            · exact .inl (.inl z)
            · exact .inl (.inr z)
            · exact .inr z
    case fin =>
      rintro b s' ⟨h', S', c, rfl, sb, R', hc, hg, hT, hk⟩
      have eS : S' = fun k => S k && !T k := by
        funext k
        cases hTk : T k with
        | true =>
          cases z : S' k with
          | false => simp
          | true => have := hT k z; rw [hTk] at this; exact nomatch this
        | false =>
          have z := hk k hTk
          simp only [List.map_nil, List.not_mem_nil, or_false] at z
          rw [Bool.eq_iff_iff, z]; simp
      rw [eS] at R'
      refine wpAny_pure (wpAny_pure (wpAny_pure ⟨_, rfl, h h' d c (fun b o z => ?_) R' (by omega)⟩))
      exact (sb.2 b (Nat.ne_of_lt (Heap.lt_size z))).trans (kp _ _ z)
end
section
variable {X : Cx}
theorem entry_sor : entryFor table "set.__or__" = some Builtin.«frozenset.__or__» :=
  entryFor_alias (id' := "frozenset.__or__") (by kernel_rfl) rfl (by decide +kernel) (by kernel_rfl)
theorem entry_ssub : entryFor table "set.__sub__" = some Builtin.«frozenset.__sub__» :=
  entryFor_alias (id' := "frozenset.__sub__") (by kernel_rfl) rfl (by decide +kernel) (by kernel_rfl)
/-- s | t, two sets of small ints -/
def rOrS (w : World) (bin : Bool → Bool → Bool) : R2 := fun x y H Q => ∃ (a b : Addr) (S T : Int → Bool) (n m : Nat), x = .ref a ∧ y = .ref b ∧ a ≠ b ∧ H a = some (SetO w a S n) ∧ H b = some (SetO w b T m) ∧ Sml6 S ∧ Sml6 T ∧
  ∀ p c, H p = none → c ≤ 20 → Q (.ref p) (upd H p (SetO w p (fun k => bin (S k) (T k)) c))
theorem op_orS : OpR X (binaryOp .BitOr) (rOrS X.w fun a b => a || b) := by
  intro pins s σ H x y v u Q I rx ry h
  obtain ⟨a, b, S, T, n, m, rfl, rfl, ne, ha, hb, sS, sT, q⟩ := h
  cases (show v = Value.ref a from rx)
  cases (show u = Value.ref b from ry)
  have Ra := setO_get I ha
  have Rb := setO_get I hb
  refine wpAny_binaryOp_same (set_ty Ra) (set_ty Rb) PySem.F.fills_set_or PySem.F.slot_set_or ?_
  refine wpAny_call (codeAny_call_builtin PySem.F.slot_set_or.plain entry_sor (PySem.F.slot_set_or.check _ _ _ _ _ _ _ _ (set_ty Ra) (PySem.F.args_set_or_2 _ _) ?_))
  refine wpAny_mono (or_body (Q := fun v s' => v ≠ .notImplemented ∧ EP X pins σ Q v s') Ra Rb ne sS sT fun h' d c k R hc => ⟨(fun z => nomatch z), .ref s.heap.objs.size, _, ?_, rfl, q _ c (I.hok.fresh (Nat.le_refl _)) hc⟩) (fun fin s' z => ?_) fun _ _ z => z
  · exact I.call (ch := []) (Un.laid k (Nat.le_refl _) (I.hok.fresh (Nat.le_refl _))) (I.hok.laid k (Nat.le_refl _) (setO_new R)) I.bare (fun _ z => nomatch z)
  · obtain ⟨v, rfl, z⟩ := z
    exact z
theorem op_subS : OpR X (binaryOp .Sub) (rOrS X.w fun a b => a && !b) := by
  intro pins s σ H x y v u Q I rx ry h
  obtain ⟨a, b, S, T, n, m, rfl, rfl, ne, ha, hb, sS, sT, q⟩ := h
  cases (show v = Value.ref a from rx)
  cases (show u = Value.ref b from ry)
  have Ra := setO_get I ha
  have Rb := setO_get I hb
  refine wpAny_binaryOp_same (set_ty Ra) (set_ty Rb) PySem.F.fills_set_sub PySem.F.slot_set_sub ?_
  refine wpAny_call (codeAny_call_builtin PySem.F.slot_set_sub.plain entry_ssub (PySem.F.slot_set_sub.check _ _ _ _ _ _ _ _ (set_ty Ra) (PySem.F.args_set_sub_2 _ _) ?_))
  refine wpAny_mono (sub_body (Q := fun v s' => v ≠ .notImplemented ∧ EP X pins σ Q v s') Ra Rb ne sS sT fun h' d c k R hc => ⟨(fun z => nomatch z), .ref s.heap.objs.size, _, ?_, rfl, q _ c (I.hok.fresh (Nat.le_refl _)) hc⟩) (fun fin s' z => ?_) fun _ _ z => z
  · exact I.call (ch := []) (Un.laid k (Nat.le_refl _) (I.hok.fresh (Nat.le_refl _))) (I.hok.laid k (Nat.le_refl _) (setO_new R)) I.bare (fun _ z => nomatch z)
  · obtain ⟨v, rfl, z⟩ := z
    exact z
end
end Kw

set_option Elab.async false
set_option linter.all false
set_option maxRecDepth 100000
set_option maxHeartbeats 4000000
namespace Kc
open PySem PySem.Spec PyProof.Rows L2 Kg Kd Kr Kf
theorem ps_imp {X : Cx} {st : Stmt} {t t' : TS} (h : PS X st t) (i : ∀ D σ H, t' D σ H → t D σ H) : PS X st t' := ⟨fun pins s σ H D I z => h.run pins s σ H D I (i D σ H z)⟩
/-! ### rules that name the written part, for the blocks of comprehensions -/
theorem op_inK {X : Cx} {K : PySem.W.Frag} (h : X.K = K) : OpR X (compareOp .In) (rIn K false) := by subst h; exact op_in_seq
theorem op_notInK {X : Cx} {K : PySem.W.Frag} (h : X.K = K) : OpR X (compareOp .NotIn) (rIn K true) := by subst h; exact op_notIn_seq
theorem ix_tupK {X : Cx} {K : PySem.W.Frag} (h : X.K = K) : IxR X (rIxT K) := by subst h; exact ix_tup
theorem ix_listK {X : Cx} {K : PySem.W.Frag} (h : X.K = K) : IxR X (rIxL K) := by subst h; exact ix_list
theorem pe_fldK {X : Cx} {K : PySem.W.Frag} {e : Expr} {f : Str} {pos : Pos} {ta : TE} (h : X.K = K) (he : PE X e ta) (hb : attributeBase e f X.env (eval e X.env) = eval e X.env) : PE X (.Attribute e f pos) (tFld K ta f) := by subst h; exact pe_fld he hb
def rLenK (K : PySem.W.Frag) : List V → Hp → VK → Prop := fun xs H Q => ∃ p ys, xs = [.ref p] ∧ (SqL K H p ys ∨ SqT K H p ys) ∧ Q (.int (ys.length : Nat)) H
theorem call_lenK {X : Cx} {K : PySem.W.Frag} (h : X.K = K) : CallR X (.builtin "len") (rLenK K) := by
  subst h
  exact call_len_seq
/-! ### numbers in tuples -/
theorem inV_iV (j : Nat) : ∀ l : List Nat, inV (.int (j : Nat)) (l.map iV) = decide (j ∈ l)
  | [] => by simp [inV]
  | a :: l => by
    have z := inV_iV j l
    unfold inV at z ⊢
    rw [List.map_cons, List.any_cons, z]
    have e : eqV (iV a) (.int (j : Nat)) = decide (j = a) := by
      show (((a : Nat) : Int) == (j : Nat)) = _
      by_cases c : j = a
      · subst c; simp
      · have c2 : ¬ ((a : Nat) : Int) = (j : Nat) := by omega
        simp [c, c2]
    rw [e]
    by_cases c : j = a
    · simp [c]
    · simp [c]
theorem flat_iV : ∀ l : List Nat, (l.map iV).all flatV = true
  | [] => rfl
  | a :: l => by rw [List.map_cons, List.all_cons, flat_iV l]; rfl
theorem rgf_succ (P : Nat → Bool) (i : Nat) : (List.range (i + 1)).filter P = (List.range i).filter P ++ (if P i = true then [i] else []) := by
  rw [List.range_succ, List.filter_append]
  congr 1
  by_cases c : P i = true
  · simp [c]
  · simp [c]
theorem rgf_len (P : Nat → Bool) (i : Nat) : ((List.range i).filter P).length ≤ i := by
  have := List.length_filter_le P (List.range i)
  rwa [List.length_range] at this
/-- [i for i in range(n) if P(i)] where nothing that stands is changed -/
theorem lc_filt {n : Nat} {g : TG} {tt : TT} {te : TE} {vs : List Nat} {σ : L2.St} {H1 : Hp} {D : Addr} {Qd : Hp → Prop} (P : Nat → Bool) (nD : H1 D = none) (hn : n ≤ 900)
    (hs : ∀ (i : Nat) (H : Hp), i < n → Same H1 H → ∀ (R : V → Hp → Prop) (R0 : Hp → Prop), (∀ H', Same H H' → (P i = true → R (iV i) H') ∧ (P i = false → R0 H')) →
      g (.int (0 + (i : Nat))) (wipe σ vs) H fun σ2 H2 => wipe σ2 vs = wipe σ vs ∧ tt σ2 H2 fun b H3 => if b = true then te σ2 H3 R else R0 H3)
    (hd : ∀ H, Same H1 H → H D = some (.lst (((List.range n).filter P).map iV)) → Qd H) :
    ∃ W : Nat → Nat → Hp → Prop, (∃ m, W 0 m (upd H1 D (.lst []))) ∧ ∀ i m H, W i m H →
      ((Itr 0 n).stop i H ∧ Qd H) ∨ ((Itr 0 n).go i H ∧ ∃ Nx : Hp → Prop, (∀ H', Nx H' → ∃ m', m' < m ∧ W (i + 1) m' H') ∧ ∀ x H', (Itr 0 n).yld i H x H' → g x (wipe σ vs) H' fun σ2 H2 => wipe σ2 vs = wipe σ vs ∧ tt σ2 H2 fun b H3 =>
        if b = true then te σ2 H3 fun y H4 => ∃ acc, H4 D = some (.lst acc) ∧ acc.length < sizeLine ∧ Nx (upd H4 D (.lst (acc ++ [y]))) else Nx H3) := by
  refine lc_range (lo := 0) (n := n) (fun i H => Same H1 H ∧ H D = some (.lst (((List.range i).filter P).map iV))) ⟨same_new nD, upd_same⟩ (fun i H hi p => ?_) (fun H p => hd H p.1 p.2)
  refine hs i H hi p.1 _ _ (fun H' s' => ⟨fun c => ?_, fun c => ?_⟩)
  · refine ⟨_, s' _ _ p.2, ?_, fun b o z => ?_, ?_⟩
    · rw [List.length_map]
      have := rgf_len P i
      exact small1000 (by omega)
    · rw [upd_ne (ne_of_none z nD)]; exact s' _ _ (p.1 _ _ z)
    · rw [upd_same, rgf_succ, if_pos c, List.map_append]; rfl
  · refine ⟨p.1.trans s', ?_⟩
    rw [rgf_succ, if_neg (by rw [c]; exact Bool.false_ne_true), List.append_nil]
    exact s' _ _ p.2
/-! ### the parts of kinds -/
theorem tu_elders {H : Hp} {v : V} {es : List (List Nat)} (h : Tu H v (pdE es)) : ∃ a xs, v = .ref a ∧ H a = some (.tup xs) ∧ xs.length = es.length ∧ TuAll H xs (es.map pdI) := by
  unfold pdE at h
  cases h with
  | @tup a xs _ h1 h2 h3 => exact ⟨a, xs, rfl, h1, by rw [h3.length, List.length_map], h3⟩
theorem tus_at {H : Hp} {xs : List V} {es : List (List Nat)} (h : TuAll H xs (es.map pdI)) {i : Nat} (hi : i < es.length) : ∃ b, xs[i]? = some (.ref b) ∧ H b = some (.tup ((es.getD i []).map iV)) ∧ Tu H (.ref b) (pdI (es.getD i [])) := by
  have e : es[i]? = some (es.getD i []) := by rw [List.getD_eq_getElem?_getD, List.getElem?_eq_getElem hi]; rfl
  obtain ⟨v, h1, h2⟩ := h.get' (i := i) (d := pdI (es.getD i [])) (get_map e)
  obtain ⟨b, rfl, h3, _⟩ := tu_inv h2
  exact ⟨b, h1, h3, h2⟩
theorem getD_lots {es : List (List Nat)} {k : Nat} (hk : k < es.length) : (lotsT es).getD k [] = lot es k := by
  unfold lotsT
  rw [List.getD_eq_getElem?_getD, List.getElem?_map, List.getElem?_range hk]; rfl
theorem len_lots (es : List (List Nat)) : (lotsT es).length = es.length := by
  unfold lotsT
  rw [List.length_map, List.length_range]
theorem tab_at {H : Hp} {t : V} {es : List (List Nat)} (h : Tu H t (pdE (lotsT es))) {k : Nat} (hk : k < es.length) : ∃ a xs b, t = .ref a ∧ H a = some (.tup xs) ∧ xs[k]? = some (.ref b) ∧ H b = some (.tup ((lot es k).map iV)) ∧ Tu H (.ref b) (pdI (lot es k)) := by
  obtain ⟨a, xs, rfl, ha, _, hA⟩ := tu_elders h
  obtain ⟨b, h1, h2, h3⟩ := tus_at hA (i := k) (by rw [len_lots]; exact hk)
  rw [getD_lots hk] at h2 h3
  exact ⟨a, xs, b, rfl, ha, h1, h2, h3⟩
/-- the kinds of which k is an elder -/
def hei (es : List (List Nat)) (k : Nat) : List Nat := (List.range es.length).filter (fun i => decide (k ∈ es.getD i []))
/-- the kinds below n that are not in cl -/
def dif (n : Nat) (cl : List Nat) : List Nat := (List.range n).filter (fun i => !decide (i ∈ cl))
end Kc


set_option Elab.async false
set_option linter.all false
set_option maxRecDepth 100000
set_option maxHeartbeats 4000000
/-! Rows that are chosen; truths in lists. -/
namespace Kf
open PySem PySem.Spec PyProof.Rows L2 Kg Kd
theorem inV_fl : ∀ l : List Bool, inV (.bl false) (l.map V.bl) = !l.all id
  | [] => rfl
  | a :: l => by
    have z := inV_fl l
    unfold inV at z ⊢
    rw [List.map_cons, List.any_cons, List.all_cons, z]
    cases a <;> rfl
theorem flat_bls : ∀ l : List Bool, (l.map V.bl).all flatV = true
  | [] => rfl
  | a :: l => by rw [List.map_cons, List.all_cons, flat_bls l]; rfl
theorem pi_tupK {X : Cx} {K : PySem.W.Frag} {tg e : Expr} {te : TE} (h : X.K = K) (he : PE X e te) : PI X tg e (iTup K te) := by subst h; exact pi_tup he
/-- the first row that holds, from a place on -/
theorem chosen_from {lot : List Nat} : ∀ {rs : List Kf.Row} {i : Nat}, (∀ j, j < i → ∀ r, rs[j]? = some r → holds lot r.1 = false) → (∀ r, rs[i]? = some r → holds lot r.1 = true → chosenR lot rs = some i) ∧ (rs.length ≤ i → chosenR lot rs = none)
  | rs, i, h => by
    constructor
    · intro r hr ho
      unfold chosenR
      rw [List.findIdx?_eq_some_iff_getElem]
      obtain ⟨hl, e⟩ := List.getElem?_eq_some_iff.mp hr
      refine ⟨hl, by rw [e]; exact ho, fun j hj => ?_⟩
      have := h j hj rs[j] (List.getElem?_eq_getElem (by omega))
      rw [this]; simp
    · intro hl
      unfold chosenR
      rw [List.findIdx?_eq_none_iff]
      intro r hr
      obtain ⟨j, hj⟩ := List.getElem?_of_mem hr
      exact h j (by have := (List.getElem?_eq_some_iff.mp hj).1; omega) r hj
theorem answerR_chosen (lot : List Nat) (rs : List Kf.Row) : (∃ k r, chosenR lot rs = some k ∧ rs[k]? = some r ∧ answerR lot rs = r.2) ∨ (chosenR lot rs = none ∧ answerR lot rs = 0) := by
  unfold answerR chosenR
  cases e : rs.findIdx? (fun r => holds lot r.1) with
  | none =>
    refine .inr ⟨rfl, ?_⟩
    rw [List.findIdx?_eq_none_iff] at e
    rw [List.find?_eq_none.mpr (fun x hx => by rw [e x hx]; simp)]
    rfl
  | some k =>
    rw [List.findIdx?_eq_some_iff_getElem] at e
    obtain ⟨hk, h1, h2⟩ := e
    refine .inl ⟨k, rs[k], rfl, List.getElem?_eq_getElem hk, ?_⟩
    have : rs.find? (fun r => holds lot r.1) = some rs[k] := by
      rw [List.find?_eq_some_iff_getElem]
      exact ⟨h1, k, hk, rfl, fun j hj => by have := h2 j hj; simpa using this⟩
    rw [this]; rfl
/-- an index, or None -/
def oV : Option Nat → V
  | some k => .int ((k : Nat) : Int)
  | none => .non
end Kf

set_option Elab.async false
set_option linter.all false
set_option maxRecDepth 100000
set_option maxHeartbeats 4000000
/-! How many lots there are, at most. -/
namespace Kf
open PySem PySem.Spec PyProof.Rows L2 Kg Kd
theorem nodup_sub {α : Type} [DecidableEq α] : ∀ {l m : List α}, l.Nodup → (∀ x ∈ l, x ∈ m) → l.length ≤ m.length
  | [], _, _, _ => Nat.zero_le _
  | a :: l, m, h, s => by
    obtain ⟨h1, h2⟩ := List.nodup_cons.mp h
    have ha := s a (List.mem_cons_self ..)
    have hl := nodup_sub (l := l) (m := m.erase a) h2 (fun x hx => (List.mem_erase_of_ne (fun z => h1 (by rw [← z]; exact hx))).mpr (s x (List.mem_cons_of_mem _ hx)))
    rw [List.length_erase_of_mem ha] at hl
    have : 0 < m.length := List.length_pos_of_mem ha
    rw [List.length_cons]; omega
theorem nodup_ord {α : Type} {lt : α → α → Bool} (irr : ∀ a, lt a a = false) {l : List α} (h : l.Pairwise (fun a b => lt a b = true)) : l.Nodup :=
  h.imp fun {a b} z e => by subst e; rw [irr] at z; cases z
theorem som_in {n : Nat} (n6 : n ≤ 6) {l : List Nat} (h : Som n l) : l ∈ (List.range 64).map (ksOf n) := by
  obtain ⟨c, hc, e⟩ := ksOf_all h
  have : 2 ^ n ≤ 2 ^ 6 := Nat.pow_le_pow_right (by decide) n6
  exact List.mem_map.mpr ⟨c, List.mem_range.mpr (by omega), e⟩
theorem IsLots.len {es : List (List Nat)} {cl ho : List Nat} {sv : Bool} {ls : List (List Nat)} (n6 : es.length ≤ 6) (h : IsLots es cl ho sv ls) : ls.length ≤ 512 := by
  have som := fun {l : List Nat} (hl : l ∈ ls) => (h.som hl).1
  obtain ⟨A, B, rfl, h⟩ := h
  have hA : A.length ≤ 64 := by
    have z := nodup_sub (m := (List.range 64).map (ksOf es.length)) (nodup_ord lxN_irrefl h.oa) (fun x hx => som_in n6 (som (List.mem_append_left _ hx)))
    rw [List.length_map, List.length_range] at z
    exact z
  have hB : B.length ≤ 448 := by
    have z := nodup_sub (m := (List.range 7).flatMap fun m => ((List.range 64).map (ksOf es.length)).map fun l => (m, l)) (nodup_ord lpN_irrefl h.ob) (fun x hx => by
      have s := som_in n6 (som (List.mem_append_right A (List.mem_map.mpr ⟨x, hx, rfl⟩)))
      obtain ⟨_, ⟨ks, _, k2, _, _, k5⟩, _⟩ := (h.mb x).mp hx
      have := k2.len
      exact List.mem_flatMap.mpr ⟨x.1, List.mem_range.mpr (by omega), List.mem_map.mpr ⟨x.2, s, rfl⟩⟩)
    have e : ((List.range 7).flatMap fun m => ((List.range 64).map (ksOf es.length)).map fun l => (m, l)).length = 448 := by
      rw [List.length_flatMap]
      simp only [List.length_map, List.length_range]
      decide
    rw [e] at z
    exact z
  rw [List.length_append, List.length_map]; omega
end Kf

set_option Elab.async false
set_option linter.all false
set_option maxRecDepth 100000
set_option maxHeartbeats 4000000
/-! Parts of a tuple, elders of one new kind, lots made of them. -/
namespace Kf
open PySem PySem.Spec PyProof.Rows L2 Kg Kd
/-! ### all parts -/
def prtF (acc : List (List Nat)) (l : List Nat) : List (List Nat) := l.foldl (fun acc i => acc ++ acc.map (fun p => p ++ [i])) acc
def prt (l : List Nat) : List (List Nat) := prtF [[]] l
theorem prtF_cons (acc : List (List Nat)) (i : Nat) (l : List Nat) : prtF acc (i :: l) = prtF (acc ++ acc.map (fun p => p ++ [i])) l := rfl
theorem prt_take {l : List Nat} {i x : Nat} (h : l[i]? = some x) : prt (l.take (i + 1)) = prt (l.take i) ++ (prt (l.take i)).map (fun p => p ++ [x]) := by
  unfold prt prtF
  rw [List.take_add_one, h, List.foldl_append]
  rfl
theorem prtF_len : ∀ (l : List Nat) (acc : List (List Nat)), (prtF acc l).length = acc.length * 2 ^ l.length
  | [], acc => by simp [prtF]
  | i :: l, acc => by
    rw [prtF_cons, prtF_len l, List.length_append, List.length_map, List.length_cons, Nat.pow_succ]
    rw [← Nat.two_mul, Nat.mul_comm 2, Nat.mul_assoc, Nat.mul_comm 2]
theorem prt_len (l : List Nat) : (prt l).length = 2 ^ l.length := by
  unfold prt
  rw [prtF_len]
  simp
theorem prtF_mem {x : List Nat} : ∀ (l : List Nat) (acc : List (List Nat)), x ∈ prtF acc l ↔ ∃ p ∈ acc, ∃ s, s.Sublist l ∧ x = p ++ s
  | [], acc => by
    constructor
    · intro h; exact ⟨x, h, [], List.Sublist.refl _, by simp⟩
    · rintro ⟨p, hp, s, hs, e⟩
      rw [List.sublist_nil.mp hs, List.append_nil] at e
      rw [e]; exact hp
  | i :: l, acc => by
    rw [prtF_cons, prtF_mem l]
    constructor
    · rintro ⟨p, hp, s, hs, e⟩
      rcases List.mem_append.mp hp with h | h
      · exact ⟨p, h, s, hs.cons i, e⟩
      · obtain ⟨q, hq, rfl⟩ := List.mem_map.mp h
        exact ⟨q, hq, i :: s, hs.cons_cons i, by rw [e]; simp⟩
    · rintro ⟨p, hp, s, hs, e⟩
      cases hs with
      | cons _ h => exact ⟨p, List.mem_append_left _ hp, s, h, e⟩
      | @cons_cons s' _ _ h => exact ⟨p ++ [i], List.mem_append_right _ (List.mem_map.mpr ⟨p, hp, rfl⟩), s', h, by rw [e]; simp⟩
theorem prt_mem {l x : List Nat} : x ∈ prt l ↔ x.Sublist l := by
  unfold prt
  rw [prtF_mem]
  constructor
  · rintro ⟨p, hp, s, hs, e⟩
    rw [List.mem_singleton.mp hp] at e
    rw [e]; exact hs
  · intro h; exact ⟨[], List.mem_singleton.mpr rfl, x, h, rfl⟩
theorem prtF_nodup : ∀ (l : List Nat) (acc : List (List Nat)), l.Pairwise (· < ·) → acc.Nodup → (∀ p ∈ acc, ∀ x ∈ p, ∀ y ∈ l, x < y) → (prtF acc l).Nodup
  | [], acc, _, h, _ => h
  | i :: l, acc, hl, h, hb => by
    rw [List.pairwise_cons] at hl
    rw [prtF_cons]
    refine prtF_nodup l _ hl.2 ?_ ?_
    · refine List.nodup_append.mpr ⟨h, List.pairwise_map.mpr (h.imp fun ne e => ne (List.append_cancel_right e)), ?_⟩
      intro p hp q hq e
      obtain ⟨r, hr, rfl⟩ := List.mem_map.mp hq
      have : i ∈ p := by rw [e]; simp
      have := hb p hp i this i (List.mem_cons_self ..)
      omega
    · intro p hp x hx y hy
      rcases List.mem_append.mp hp with z | z
      · exact hb p z x hx y (List.mem_cons_of_mem _ hy)
      · obtain ⟨r, hr, rfl⟩ := List.mem_map.mp z
        rcases List.mem_append.mp hx with w | w
        · exact hb r hr x w y (List.mem_cons_of_mem _ hy)
        · rw [List.mem_singleton.mp w]; exact hl.1 y hy
theorem prt_nodup {l : List Nat} (h : l.Pairwise (· < ·)) : (prt l).Nodup := prtF_nodup l _ h (by simp) (fun p hp x hx => by rw [List.mem_singleton.mp hp] at hx; exact absurd hx (by simp))
theorem sub_asc : ∀ {l x : List Nat}, l.Pairwise (· < ·) → (x.Sublist l ↔ x.Pairwise (· < ·) ∧ ∀ y ∈ x, y ∈ l) := by
  intro l
  induction l with
  | nil =>
    intro x _
    constructor
    · intro h; rw [List.sublist_nil.mp h]; exact ⟨List.Pairwise.nil, fun y hy => hy⟩
    · rintro ⟨_, h⟩
      cases x with
      | nil => exact List.Sublist.refl _
      | cons a r => exact absurd (h a (List.mem_cons_self ..)) (by simp)
  | cons a l ih =>
    intro x hl
    constructor
    · intro h
      exact ⟨hl.sublist h, fun y hy => h.subset hy⟩
    · rintro ⟨hx, h⟩
      rw [List.pairwise_cons] at hl
      cases x with
      | nil => exact List.nil_sublist _
      | cons b r =>
        rw [List.pairwise_cons] at hx
        have hr : ∀ y ∈ r, y ∈ l := fun y hy => by
          rcases List.mem_cons.mp (h y (List.mem_cons_of_mem _ hy)) with e | e
          · have h1 := hx.1 y hy
            rcases List.mem_cons.mp (h b (List.mem_cons_self ..)) with e2 | e2
            · omega
            · have := hl.1 b e2; omega
          · exact e
        rcases List.mem_cons.mp (h b (List.mem_cons_self ..)) with e | e
        · rw [e]
          exact ((ih hl.2).mpr ⟨hx.2, hr⟩).cons_cons a
        · refine ((ih hl.2).mpr ⟨List.pairwise_cons.mpr hx, fun y hy => ?_⟩).cons a
          rcases List.mem_cons.mp hy with z | z
          · rw [z]; exact e
          · exact hr y z
abbrev ltL (a b : List Nat) : Prop := lpN (a.length, a) (b.length, b) = true
/-- all parts, the shortest first, then ascending -/
structure IsParts (l : List Nat) (ps : List (List Nat)) : Prop where
  ord : ps.Pairwise ltL
  mem : ∀ x, x ∈ ps ↔ x.Sublist l
theorem lpN_le {p q : Nat × List Nat} (h : lpN p q = true) : p.1 ≤ q.1 := by
  have z : Ku.lx (((p.1 : Nat) : Int) :: ci p.2) (((q.1 : Nat) : Int) :: ci q.2) = true := h
  rw [Ku.lx_cons] at z
  by_cases c : ((p.1 : Nat) : Int) = ((q.1 : Nat) : Int)
  · omega
  · rw [if_neg c] at z
    have := of_decide_eq_true z
    omega
theorem ltL_uniq {l m : List (List Nat)} (hl : l.Pairwise ltL) (hm : m.Pairwise ltL) (h : ∀ x, x ∈ l ↔ x ∈ m) : l = m :=
  ord_uniq (lt := fun a b => lpN (a.length, a) (b.length, b)) (fun a => lpN_irrefl _) (fun a b z => lpN_asym z) hl hm h
theorem IsParts.uniq {l : List Nat} {ps qs : List (List Nat)} (h : IsParts l ps) (k : IsParts l qs) : ps = qs := ltL_uniq h.ord k.ord fun x => (h.mem x).trans (k.mem x).symm
theorem IsParts.nodup {l : List Nat} {ps : List (List Nat)} (h : IsParts l ps) : ps.Nodup := h.ord.imp fun z e => by rw [e] at z; rw [ltL, lpN_irrefl] at z; cases z
theorem IsParts.len {l : List Nat} {ps : List (List Nat)} (h : IsParts l ps) : ps.length ≤ 2 ^ l.length := by
  rw [← prt_len l]
  exact nodup_sub h.nodup fun x hx => prt_mem.mpr ((h.mem x).mp hx)
/-! ### the elders of one new kind -/
def opn (n : Nat) (cl : List Nat) : List Nat := (List.range n).filter (fun i => !decide (i ∈ cl))
theorem opn_mem {n : Nat} {cl : List Nat} {x : Nat} : x ∈ opn n cl ↔ x < n ∧ x ∉ cl := by
  unfold opn
  rw [List.mem_filter, List.mem_range, Bool.not_eq_true', decide_eq_false_iff_not]
theorem opn_asc (n : Nat) (cl : List Nat) : (opn n cl).Pairwise (· < ·) := rg_filter
structure IsSing (n : Nat) (cl : List Nat) (sv : Bool) (sg : List (List Nat)) : Prop where
  ord : sg.Pairwise ltL
  mem : ∀ ks, ks ∈ sg ↔ (ks ≠ [] ∧ Som n ks ∧ rt cl sv ks = true)
theorem IsSing.uniq {n : Nat} {cl : List Nat} {sv : Bool} {ps qs : List (List Nat)} (h : IsSing n cl sv ps) (k : IsSing n cl sv qs) : ps = qs := ltL_uniq h.ord k.ord fun x => (h.mem x).trans (k.mem x).symm
theorem rt_iff {cl ks : List Nat} {sv : Bool} : rt cl sv ks = true ↔ (∀ k ∈ ks, k ∉ cl) ∧ (ks.length = 1 ∨ sv = true) := by
  unfold rt
  rw [Bool.and_eq_true, Bool.or_eq_true, decide_eq_true_iff, List.isEmpty_iff]
  refine and_congr_left' ?_
  rw [List.filter_eq_nil_iff]
  constructor
  · intro h k hk c; exact h k hk (decide_eq_true c)
  · intro h k hk c; exact h k hk (of_decide_eq_true c)
theorem sing_parts {n : Nat} {cl : List Nat} {ps : List (List Nat)} (h : IsParts (opn n cl) ps) : IsSing n cl true (ps.filter fun p => decide (0 < p.length)) := by
  refine ⟨h.ord.filter _, fun ks => ?_⟩
  rw [List.mem_filter, h.mem, sub_asc (opn_asc n cl), decide_eq_true_iff, rt_iff]
  constructor
  · rintro ⟨⟨h1, h2⟩, h3⟩
    exact ⟨fun e => by rw [e] at h3; simp at h3, ⟨h1, fun x hx => (opn_mem.mp (h2 x hx)).1⟩, fun k hk => (opn_mem.mp (h2 k hk)).2, .inr rfl⟩
  · rintro ⟨h1, h2, h3, _⟩
    exact ⟨⟨h2.asc, fun y hy => opn_mem.mpr ⟨h2.low y hy, h3 y hy⟩⟩, List.length_pos_iff.mpr h1⟩
theorem sing_one {n : Nat} {cl : List Nat} : IsSing n cl false ((opn n cl).map fun k => [k]) := by
  refine ⟨List.pairwise_map.mpr ((opn_asc n cl).imp fun {a b} h => ?_), fun ks => ?_⟩
  · show Ku.lx [1, ((a : Nat) : Int)] [1, ((b : Nat) : Int)] = true
    rw [Ku.lx_cons, if_pos rfl, Ku.lx_cons, if_neg (by omega)]
    exact decide_eq_true (by omega)
  · rw [List.mem_map, rt_iff]
    constructor
    · rintro ⟨k, hk, rfl⟩
      obtain ⟨h1, h2⟩ := opn_mem.mp hk
      exact ⟨by simp, ⟨by simp, fun x hx => by rw [List.mem_singleton.mp hx]; exact h1⟩, fun j hj => by rw [List.mem_singleton.mp hj]; exact h2, .inl rfl⟩
    · rintro ⟨h1, h2, h3, h4⟩
      rcases h4 with h4 | h4
      · match ks, h4 with
        | [k], _ => exact ⟨k, opn_mem.mpr ⟨h2.low k (List.mem_singleton.mpr rfl), h3 k (List.mem_singleton.mpr rfl)⟩, rfl⟩
      · cases h4
theorem IsSing.len {n : Nat} {cl : List Nat} {sv : Bool} {sg : List (List Nat)} (n6 : n ≤ 6) (h : IsSing n cl sv sg) : sg.length ≤ 64 := by
  have nd : sg.Nodup := h.ord.imp fun z e => by rw [e] at z; rw [ltL, lpN_irrefl] at z; cases z
  have z := nodup_sub nd (m := (List.range 64).map (ksOf n)) fun x hx => som_in n6 ((h.mem x).mp hx).2.1
  rwa [List.length_map, List.length_range] at z
theorem IsSing.six {n : Nat} {cl : List Nat} {sv : Bool} {sg : List (List Nat)} (n6 : n ≤ 6) (h : IsSing n cl sv sg) {ks : List Nat} (hk : ks ∈ sg) : ks.length ≤ 6 := by
  have := ((h.mem ks).mp hk).2.1.len; omega
/-! ### the late lots -/
def mS (es : List (List Nat)) (ho : List Nat) (sg : List (List Nat)) (l : List Nat) : Option Nat := if kn es ho l = true then none else (sg.find? (fun ks => decide (lotS es ks = l))).map List.length
theorem mS_nil (es : List (List Nat)) (ho : List Nat) : mS es ho [] = fun _ => none := by
  funext l
  unfold mS
  split <;> rfl
theorem mS_snoc {es : List (List Nat)} {ho : List Nat} {sg : List (List Nat)} {ks : List Nat} (l : List Nat) : mS es ho (sg ++ [ks]) l = if kn es ho (lotS es ks) = false ∧ mS es ho sg (lotS es ks) = none ∧ l = lotS es ks then some ks.length else mS es ho sg l := by
  by_cases c : kn es ho (lotS es ks) = false ∧ mS es ho sg (lotS es ks) = none ∧ l = lotS es ks
  · obtain ⟨c1, c2, rfl⟩ := c
    rw [if_pos ⟨c1, c2, rfl⟩]
    unfold mS at c2 ⊢
    rw [if_neg (by rw [c1]; exact Bool.false_ne_true)] at c2 ⊢
    rw [List.find?_append]
    rw [Option.map_eq_none_iff] at c2
    rw [c2]
    simp
  · rw [if_neg c]
    unfold mS
    by_cases k : kn es ho l = true
    · rw [if_pos k, if_pos k]
    · rw [if_neg k, if_neg k, List.find?_append]
      by_cases e : l = lotS es ks
      · subst e
        have c1 : kn es ho (lotS es ks) = false := Bool.not_eq_true _ ▸ k
        have c2 : ¬ mS es ho sg (lotS es ks) = none := fun z => c ⟨c1, z, rfl⟩
        unfold mS at c2
        rw [if_neg k, Option.map_eq_none_iff] at c2
        cases z : sg.find? (fun ks' => decide (lotS es ks' = lotS es ks)) with
        | none => exact absurd z c2
        | some v => rfl
      · cases z : sg.find? (fun ks' => decide (lotS es ks' = l)) with
        | some v => rfl
        | none => simp [Ne.symm e]
theorem find_first {α : Type} {p : α → Bool} {R : α → α → Prop} : ∀ {l : List α} {a : α}, l.Pairwise R → l.find? p = some a → ∀ b ∈ l, p b = true → b = a ∨ R a b
  | [], _, _, h, _, _, _ => by simp at h
  | c :: l, a, hl, h, b, hb, pb => by
    rw [List.pairwise_cons] at hl
    rw [List.find?_cons] at h
    cases pc : p c with
    | true =>
      rw [pc] at h
      have e : c = a := Option.some.inj h
      subst e
      rcases List.mem_cons.mp hb with z | z
      · exact .inl z
      · exact .inr (hl.1 b z)
    | false =>
      rw [pc] at h
      rcases List.mem_cons.mp hb with z | z
      · rw [z, pc] at pb; cases pb
      · exact find_first hl.2 h b z pb
theorem mS_late {es : List (List Nat)} {cl ho : List Nat} {sv : Bool} {sg : List (List Nat)} (S : IsSing es.length cl sv sg) (l : List Nat) (m : Nat) : mS es ho sg l = some m ↔ Late es cl ho sv (m, l) := by
  unfold mS
  by_cases k : kn es ho l = true
  · rw [if_pos k]
    constructor
    · intro h; cases h
    · intro h; have := h.1; rw [show kn es ho (m, l).2 = kn es ho l from rfl, k] at this; cases this
  · rw [if_neg k]
    have k' : kn es ho l = false := Bool.not_eq_true _ ▸ k
    constructor
    · intro h
      obtain ⟨ks, h1, h2⟩ := Option.map_eq_some_iff.mp h
      have hm := (S.mem ks).mp (List.mem_of_find?_eq_some h1)
      have hl : lotS es ks = l := of_decide_eq_true (List.find?_some (p := fun ks => decide (lotS es ks = l)) h1)
      refine ⟨k', ⟨ks, hm.1, hm.2.1, hm.2.2, hl, h2⟩, fun ks' a1 a2 a3 a4 => ?_⟩
      rcases find_first S.ord h1 ks' ((S.mem ks').mpr ⟨a1, a2, a3⟩) (decide_eq_true a4) with z | z
      · rw [z, h2]; exact Nat.le_refl _
      · have := lpN_le z
        show m ≤ ks'.length
        rw [← h2]; exact this
    · rintro ⟨_, ⟨ks, a1, a2, a3, a4, a5⟩, mn⟩
      have hk := (S.mem ks).mpr ⟨a1, a2, a3⟩
      cases z : sg.find? (fun ks => decide (lotS es ks = l)) with
      | none => exact absurd (decide_eq_true a4) (List.find?_eq_none.mp z ks hk)
      | some k0 =>
        have hm := (S.mem k0).mp (List.mem_of_find?_eq_some z)
        have hl : lotS es k0 = l := of_decide_eq_true (List.find?_some (p := fun ks => decide (lotS es ks = l)) z)
        have m1 := mn k0 hm.1 hm.2.1 hm.2.2 hl
        have a5' : ks.length = m := a5
        have m1' : m ≤ k0.length := m1
        rcases find_first S.ord z ks hk (decide_eq_true a4) with y | y
        · rw [← y]; exact congrArg some a5'
        · have := lpN_le y
          show some k0.length = some m
          congr 1
          have t : k0.length ≤ ks.length := this
          omega
/-! ### the lots of new kinds -/
def tab0 (es : List (List Nat)) : List (List Nat) := (List.range es.length).map (lot es)
def jn (n : Nat) (ls : List (List Nat)) : List Nat := (List.range n).filter (fun j => ls.any (fun l => decide (j ∈ l)))
theorem jn_som (n : Nat) (ls : List (List Nat)) : Som n (jn n ls) := Som.filter
def tabX (es ext : List (List Nat)) : List (List Nat) := ext.foldl (fun tab el => tab ++ [jn es.length (el.map fun e => tab.getD e [])]) (tab0 es)
theorem tab0_len (es : List (List Nat)) : (tab0 es).length = es.length := by unfold tab0; simp
theorem tabX_snoc (es ext : List (List Nat)) (el : List Nat) : tabX es (ext ++ [el]) = tabX es ext ++ [jn es.length (el.map fun e => (tabX es ext).getD e [])] := by
  unfold tabX
  rw [List.foldl_append]; rfl
theorem tabX_take {es ext : List (List Nat)} {i : Nat} {el : List Nat} (h : ext[i]? = some el) : tabX es (ext.take (i + 1)) = tabX es (ext.take i) ++ [jn es.length (el.map fun e => (tabX es (ext.take i)).getD e [])] := by
  rw [List.take_add_one, h]
  exact tabX_snoc ..
theorem tabX_len (es : List (List Nat)) : ∀ ext : List (List Nat), (tabX es ext).length = es.length + ext.length := by
  have key : ∀ (ext tab : List (List Nat)), (ext.foldl (fun tab el => tab ++ [jn es.length (el.map fun e => tab.getD e [])]) tab).length = tab.length + ext.length := by
    intro ext
    induction ext with
    | nil => intro tab; simp
    | cons a r ih =>
      intro tab
      rw [List.foldl_cons, ih, List.length_append, List.length_singleton, List.length_cons]; omega
  intro ext
  have := key ext (tab0 es)
  rw [tab0_len] at this
  exact this
theorem tabX_som (es : List (List Nat)) : ∀ ext : List (List Nat), ∀ l ∈ tabX es ext, Som es.length l := by
  have key : ∀ (ext tab : List (List Nat)), (∀ l ∈ tab, Som es.length l) → ∀ l ∈ ext.foldl (fun tab el => tab ++ [jn es.length (el.map fun e => tab.getD e [])]) tab, Som es.length l := by
    intro ext
    induction ext with
    | nil => intro tab h; exact h
    | cons a r ih =>
      intro tab h
      refine ih _ fun l hl => ?_
      rcases List.mem_append.mp hl with z | z
      · exact h l z
      · rw [List.mem_singleton.mp z]; exact jn_som ..
  intro ext
  refine key ext _ fun l hl => ?_
  obtain ⟨k, _, rfl⟩ := List.mem_map.mp hl
  exact lot_som es k
theorem tab0_get {es : List (List Nat)} {k : Nat} (h : k < es.length) : (tab0 es)[k]? = some (lot es k) := by
  unfold tab0
  rw [List.getElem?_map, List.getElem?_range h]; rfl
theorem jn_lotS {es : List (List Nat)} {ks : List Nat} (h : ∀ k ∈ ks, k < es.length) : jn es.length (ks.map fun e => (tab0 es).getD e []) = lotS es ks := by
  unfold jn lotS
  refine List.filter_congr fun j _ => ?_
  rw [List.any_map, Bool.eq_iff_iff, List.any_eq_true, List.any_eq_true]
  refine exists_congr fun k => and_congr_right fun hk => ?_
  show decide (j ∈ (tab0 es).getD k []) = true ↔ _
  rw [List.getD_eq_getElem?_getD, tab0_get (h k hk), decide_eq_true_iff]
  exact lot_mem (h k hk)
theorem tabX_one {es : List (List Nat)} {ks : List Nat} (h : ∀ k ∈ ks, k < es.length) : (tabX es [ks])[es.length]? = some (lotS es ks) := by
  have e := tabX_snoc es [] ks
  rw [List.nil_append] at e
  have e0 : tabX es [] = tab0 es := rfl
  rw [e, e0, jn_lotS h, List.getElem?_append_right (by rw [tab0_len]; exact Nat.le_refl _), tab0_len, Nat.sub_self]; rfl
theorem lot_inj {es : List (List Nat)} {k j : Nat} (hk : k < es.length) (hj : j < es.length) (h : lot es k = lot es j) : k = j := by
  have h1 : k ∈ lot es j := by rw [← h]; exact (lot_mem hk).mpr (abv_self es k)
  have h2 : j ∈ lot es k := by rw [h]; exact (lot_mem hj).mpr (abv_self es j)
  have := abv_le es j k ((lot_mem hj).mp h1)
  have := abv_le es k j ((lot_mem hk).mp h2)
  omega
end Kf

set_option Elab.async false
set_option linter.all false
set_option maxRecDepth 100000
set_option maxHeartbeats 4000000
/-! sorted(xs, key=lambda x: ..): the lambda of one parameter, made and called. -/
namespace Km
open PySem PySem.Spec PyProof.Rows L2 Kg Kd LamX
/-! ### the lambda's names: one parameter, captured ones and globals -/
structure LamS1 (sc scope : Scope) (a : Str) : Prop where
  kind : scope.kind = .function
  co : scope.isCoroutine = false
  gen : scope.isGenerator = false
  par : scope.names.lookup a = some .local
  own : ∀ y ∈ scope.names, y.2 ≠ .cell ∧ (y.2 = .local → y.1 = a)
  free : ∀ y ∈ scope.names, y.2 = .free → sc.names.lookup y.1 = some .cell ∨ sc.names.lookup y.1 = some .free
def lamS1B (sc scope : Scope) (a : Str) : Bool :=
  decide (scope.kind = .function) && !scope.isCoroutine && !scope.isGenerator && decide (scope.names.lookup a = some .local) && scope.names.all fun y => !decide (y.2 = .cell) && (!decide (y.2 = .local) || decide (y.1 = a)) && (!decide (y.2 = .free) || decide (sc.names.lookup y.1 = some .cell) || decide (sc.names.lookup y.1 = some .free))
theorem lamS1_by {sc scope : Scope} {a : Str} (h : lamS1B sc scope a = true) : LamS1 sc scope a := by
  unfold lamS1B at h
  simp only [Bool.and_eq_true, Bool.or_eq_true, Bool.not_eq_true', decide_eq_true_eq, decide_eq_false_iff_not, List.all_eq_true] at h
  obtain ⟨⟨⟨⟨h1, h2⟩, h3⟩, h4⟩, h5⟩ := h
  refine ⟨h1, h2, h3, h4, fun y hy => ⟨(h5 y hy).1.1, fun e => ?_⟩, fun y hy e => ?_⟩
  · rcases (h5 y hy).1.2 with z | z
    · exact absurd e z
    · exact z
  · rcases (h5 y hy).2 with (z | z) | z
    · exact absurd e z
    · exact .inl z
    · exact .inr z
theorem LamS1.has {X : Cx} {scope : Scope} {a : Str} (L : LamS1 X.env.scope scope a) (ok : X.Ok) : ∀ y ∈ scope.names, y.2 = .free → ∃ c, X.env.cells.lookup y.1 = some c := fun y hy e => by
  rcases L.free y hy e with k | k
  · exact ok.has _ (.inl k)
  · exact ok.has _ (.inr k)
/-- the context of the lambda's body -/
def lamCx1 (X : Cx) (a : Str) (A : Around) (outer : List Env) (s : Shared) (H : Hp) (scope : Scope) (f c' : Addr) : Cx :=
  { lamCx X A outer s H E0 scope f c' with
    N := a :: X.N
    xe := fun e s' => wpAny (model X.prog X.w) (A.deeper (lamEnv X scope s.heap.objs.size f c')) (leaving (lamEnv X scope s.heap.objs.size f c') e) (fun _ s'' => CX0 outer H s E0 e s'') (fun e' s'' => CX0 outer H s E0 e' s'') s' }
section
variable {X : Cx} {pins : List (Addr × Obj)} {σ : L2.St} {H : Hp} {s : Shared}
/-- a captured name is a cell of the def -/
theorem cap_back {scope : Scope} {a y : Str} {c : Addr} (L : LamS1 X.env.scope scope a) (ok : X.Ok) (h : (cloFrom X.env.cells scope.names []).lookup y = some c) : X.env.cells.lookup y = some c := by
  have z := cloFrom_mem (PySem.mem_of_lookup h)
  rcases z with z | ⟨z1, z2⟩
  · exact nomatch z
  · obtain ⟨d, hd⟩ := L.has ok _ z1 rfl
    have hd' : X.env.cells.lookup y = some d := hd
    rw [hd'] at z2
    exact hd'.trans (congrArg some z2.symm)
theorem cap_has {scope : Scope} {y : Str} (h : scope.names.lookup y = some .free) : ∃ c, (cloFrom X.env.cells scope.names []).lookup y = some c :=
  mem_lookup (cloFrom_has (PySem.mem_of_lookup h))
/-- the lambda's body begins: x stands under its parameter's name, the captured names as they stood -/
theorem lam_start1 {A : Around} {scope : Scope} {a : Str} {f c' : Addr} {g : Heap} {tk : Nat} {x : V} {u : Value} (I : Inv X pins σ H s) (L : LamS1 X.env.scope scope a) (na : a ∉ X.N) (e0 : Env0 X.prog X.w X.K X.mg X.base A X.stack s H) (hd : A.handled = none) (rx : RelV x u)
    (hns : g.Ns s.heap.objs.size fun y => ([(a, u)] : List (Str × Value)).reverse.lookup y) (kp : ∀ d o, s.heap.get? d = some o → g.get? d = some o) :
    Inv (lamCx1 X a A X.stack s H scope f c') [] (some x :: σ) H { s with heap := g, toks := tk } := by
  have none_ex : ∀ d : Addr, ¬ d ∈ (lamCx1 X a A X.stack s H scope f c').ex := fun d z => by
    have z : d ∈ ([] : List Addr) := z
    exact nomatch z
  have cellG : ∀ (d : Addr) (v : Option Value), s.heap.IsCell d v → g.IsCell d v := fun d v z => by
    obtain ⟨o, h1, h2⟩ := z
    exact ⟨o, kp _ _ h1, h2⟩
  have OK : (lamCx1 X a A X.stack s H scope f c').Ok := {
    mod := e0.mod
    kind := L.kind
    glob := rfl
    blt := rfl
    above := Nat.le_refl _
    inj := fun y z c h1 h2 => I.ok.inj y z c (cap_back L I.ok h1) (cap_back L I.ok h2)
    has := fun y hy => by
      rcases hy with z | z
      · exact absurd rfl (L.own (y, .cell) (PySem.mem_of_lookup z)).1
      · exact cap_has z
    cab := fun y c z _ => nomatch (show false = true from z)
    hd := fun _ => hd
    frames := Around.frames_deeper e0.frames
    stk := .inr ⟨rfl, rfl⟩
    exf := fun d z => (none_ex d z).elim
    bs := e0.bs
    bsz := e0.bsz
    noex := fun d _ _ => none_ex d
    exfs := fun d z => (none_ex d z).elim
    funs := e0.funs
    frf := e0.frf }
  have loc : ∀ (i : Nat) (y : Str) (v : V), (a :: X.N)[i]? = some y → (some x :: σ)[i]? = some (some v) → Vis scope y → ∃ r, RelV v r ∧ Look (lamEnv X scope s.heap.objs.size f c') g (fun y => ([(a, u)] : List (Str × Value)).reverse.lookup y) y r := by
    intro i y v n1 n2 vis
    match i, n1, n2 with
    | 0, n1, n2 =>
      have n1 : a = y := Option.some.inj n1
      have n2 : x = v := Option.some.inj (Option.some.inj n2)
      subst n1 n2
      exact ⟨u, rx, .inl ⟨L.par, by simp⟩⟩
    | i + 1, n1, n2 =>
      have n1 : X.N[i]? = some y := by simpa using n1
      have n2 : σ[i]? = some (some v) := by simpa using n2
      rcases vis with z | z | z
      · exact absurd (by rw [← (L.own (y, .local) (PySem.mem_of_lookup z)).2 rfl]; exact List.mem_of_getElem? n1) na
      · exact absurd rfl (L.own (y, .cell) (PySem.mem_of_lookup z)).1
      · obtain ⟨m, _, old⟩ := I.loc
        have up := L.free (y, .free) (PySem.mem_of_lookup z) rfl
        obtain ⟨r, h1, h2⟩ := old i y v n1 n2 (.inr up)
        obtain ⟨d, hd'⟩ := cap_has (X := X) z
        refine ⟨r, h1, .inr ⟨.inr z, d, hd', ?_⟩⟩
        rcases h2 with ⟨y1, _⟩ | ⟨_, d', y2, y3⟩
        · have y1 : X.env.scope.names.lookup y = some .local := y1
          rcases up with y4 | y4
          · have y4 : X.env.scope.names.lookup y = some .cell := y4
            rw [y1] at y4; cases y4
          · have y4 : X.env.scope.names.lookup y = some .free := y4
            rw [y1] at y4; cases y4
        · have e := (cap_back L I.ok hd').symm.trans y2
          rw [Option.some.inj e]
          exact cellG _ _ y3
  exact {
    ok := OK
    os := rfl
    bare := e0.bare
    base := Un.kept kp
    loc := ⟨_, hns, loc⟩
    cell := fun y c h => by
      obtain ⟨v, z⟩ := I.cell y c (cap_back L I.ok h)
      exact ⟨v, cellG _ _ z⟩
    free := e0.hok.fresh (Nat.le_refl _)
    freeC := fun y c h => I.freeC y c (cap_back L I.ok h)
    pin := fun q hq => nomatch (show q ∈ ([] : List (Addr × Obj)) from hq)
    hok := e0.hok.kept kp
    len := by show σ.length + 1 = X.N.length + 1; rw [I.len] }
/-- the lambda called with one value -/
theorem lam_call {A : Around} {scope : Scope} {a : Str} {f c' : Addr} {pm ctv : Value} {params : Arguments} {body : Expr} {k : Nat} {tb : TE} {Q : VK} {x : V} {u : Value}
    (I : Inv X pins σ H s) (L : LamS1 X.env.scope scope a) (na : a ∉ X.N) (hf : s.heap.get? f = some (PySem.W.kla_obj "<lambda>" (X.env.qual ++ "<lambda>") params body scope (cloFrom X.env.cells scope.names []) pm c' ctv))
    (hc : H c' = some (CodeO c' (X.env.qual ++ "<lambda>"))) (e0 : Env0 X.prog X.w X.K X.mg X.base A X.stack s H) (hr : Room (k + 1) A) (rx : RelV x u)
    (hbind : bindArgs (PySem.W.kla_fn "<lambda>" (X.env.qual ++ "<lambda>") params body scope (cloFrom X.env.cells scope.names []) pm (.ref c') ctv) ⟨[u], []⟩ = pure [(a, u)])
    (hbody : ∀ (A : Around) (s : Shared) (H : Hp), Room k (A.deeper (lamEnv X scope s.heap.objs.size f c')) → PE (lamCx1 X a A X.stack s H scope f c') body tb) (ht : tb (some x :: σ) H Q) :
    codeAny (model X.prog X.w) A (.call (.ref f) ⟨[u], []⟩) (fun r s' => match r with | .ok (.ret v) => EP X pins σ Q v s' | .ok _ => False | .error e => False) s := by
  obtain ⟨⟨oc, vs, t, hoc, hdc, hvc⟩, _, _⟩ := I.hok c' _ hc
  have rc : codeAny (model X.prog X.w) A (.call (.ref f) ⟨[u], []⟩) (CR CX0 X.stack X.prog X.w H s Q E0) s := by
    refine PySem.W.kla_callFunE hr.depth hf rfl L.co L.gen rfl ⟨c', oc, vs, t, rfl, hoc, hdc, hvc⟩ ?_
    rw [hbind]
    refine wpAny_pure (wpAny_newFunctionEnv (fun y hy => (L.own y hy).1) (fun y hy => ?_) (fun h₁ hns hsb => ⟨I.nolimit.fresh _ hsb, ?_⟩) L.kind)
    · rw [List.mem_singleton] at hy
      subst hy
      exact L.par
    show codeAny _ _ (.expr body (lamEnv X scope s.heap.objs.size f c')) _ _
    have kp : ∀ b o, s.heap.get? b = some o → h₁.get? b = some o := fun b o e => hsb.extBut b o (Nat.ne_of_lt (Heap.lt_size e)) (Heap.get?_push_of_some _ e)
    have J := lam_start1 (tk := s.toks + ([(a, u)] : List (Str × Value)).length) (f := f) (c' := c') I L na e0 hr.hd rx hns kp
    refine PySem.W.kla_codeExpr (wpAny_mono ((hbody _ s H (hr.deeper _)).run [] _ _ H Q J ht) (fun v s' hq => ?_) fun e s' hq => ?_)
    · obtain ⟨w', H', J', rv, q⟩ := hq
      exact ⟨w', H', J'.os, J'.bare, J'.base, J'.hok, rv, q⟩
    · exact hq
  refine codeAny_mono rc fun r s' hq => ?_
  cases r with
  | error e => exact (show False from hq).elim
  | ok fl =>
    cases fl with
    | ret u => exact I.after hq
    | next => exact False.elim hq
    | brk => exact False.elim hq
    | cont => exact False.elim hq
end
end Km

set_option Elab.async false
set_option linter.all false
set_option maxRecDepth 100000
set_option maxHeartbeats 4000000
/-! sorted(xs, key=..): the keys are pairs of an int and a tuple of ints. -/
namespace Km
open PySem PySem.Spec PyProof.Rows L2 Kg Kd LamX SrtO Srt Ku
section
variable {prog : Program} {w : World} {A : Around} {E : Value → Shared → Prop} {s : Shared}
theorem nt_cmpK {kv : Value → Int × List Int} (hu : A.units + 1 < cLine) : SrtO.Cmp prog w A s (tuples' true) (fun p => IsNT s.heap p.1 (kv p.2)) (fun p q => lp (kv p.2) (kv q.2)) := by
  intro p q h1 h2
  have h1 : IsNT s.heap p.1 (kv p.2) := h1
  have h2 : IsNT s.heap q.1 (kv q.2) := h2
  show wpAny (model prog w) A (keyLt' (tuples' true) p.1 q.1) (fun r s' => s' = s ∧ r = lp (kv p.2) (kv q.2)) (fun _ _ => False) s
  generalize kv p.2 = x at h1 ⊢
  generalize kv q.2 = y at h2 ⊢
  obtain ⟨a, o, t, b, n, e, ho, hc, hd, hb⟩ := h1
  obtain ⟨a', o', t', b', n', e', ho', hc', hd', hb'⟩ := h2
  rw [e, e']
  refine PySem.W.kat_lt ho hd ho' hd' ?_
  show PySem.W.KatLex prog w A true (decide (2 < 2)) _ [(.int x.1 t, .int y.1 t'), (.ref b, .ref b')] 0 s
  refine PySem.W.kat_cons (SeqAt.EqAt.int_int x.1 t y.1 t' prog w _ _ ?_)
  refine PySem.W.kat_go (fun e1 => ?_) (fun e1 => ?_)
  · have ex : x.1 = y.1 := by simpa using e1
    have el : lp x y = lx x.2 y.2 := by unfold lp; rw [lx_cons, if_pos ex]
    rw [el]
    refine PySem.W.kat_yes (PySem.W.kat_cons (eqAt_tup hb hb' hu prog w _ _ ?_))
    refine PySem.W.kat_go (fun e2 => ?_) (fun e2 => ?_)
    · have ey := of_decide_eq_true e2
      exact PySem.W.kat_yes (PySem.W.kat_nil ⟨rfl, by rw [ey, lx_irrefl]; rfl⟩)
    · obtain ⟨c, xs, ec, tc, ic⟩ := hb
      obtain ⟨c', xs', ec', tc', ic'⟩ := hb'
      cases ec
      cases ec'
      exact PySem.W.kat_no (PySem.W.kat_one _ _ (HT.lt_tupInts tc tc' ic ic' (by omega) ⟨rfl, rfl⟩))
  · have ex : ¬ x.1 = y.1 := by simpa using e1
    have el : lp x y = decide (x.1 < y.1) := by unfold lp; rw [lx_cons, if_neg ex]
    rw [el]
    exact PySem.W.kat_no (TS.oneLt_ints _ ⟨rfl, rfl⟩)
/-- the end of the sort -/
theorem key_tail {p kS : Addr} {keys : Array Value} {e e1 : Nat} {st : SortSt} {R : PySem.Fin → Shared → Prop} (hk : s.heap.get? kS = some (seqObj "list" keys e)) (hp : s.heap.get? p = some (seqObj "list" #[] e1)) (hne : kS ≠ p) (hks : keys.size ≤ sizeLine) (has : (arrOf st).size ≤ sizeLine) (hfl : failedOf st = none)
    (h : ∀ tk, R (.done (.ret .none)) { s with heap := (s.heap.update kS (Obj.mapSeq fun _ => (#[] : Array Value))).update p (Obj.mapSeq fun _ => (arrOf st).map (·.2)), toks := tk }) :
    wpAny (model prog w) A (ksk_tail p false e1 (.ref kS) st) R E s := by
  have s1 := Heap.SameBut.update s.heap kS (Obj.mapSeq fun _ => (#[] : Array Value))
  have hp1 : (s.heap.update kS (Obj.mapSeq fun _ => (#[] : Array Value))).get? p = some (seqObj "list" #[] e1) := (s1.2 p hne.symm).trans hp
  unfold ksk_tail
  try dsimp only
  refine wpAny_bind (listUpdate_at hk rfl ?_ hks (Nat.zero_le _))
  refine wpAny_bind (wpAny_letGo ?_)
  refine wpAny_bind (seqEpoch_at hp1 rfl ?_)
  refine wpAny_bind (listUpdate_at hp1 rfl ?_ (Nat.zero_le _) (by simp only [Bool.false_eq_true, if_false, Array.size_map]; omega))
  rw [hfl]
  simp only [bne_self_eq_false, Bool.false_eq_true, if_false]
  exact wpAny_pure (h _)
/-- the sort of the pairs -/
theorem key_end {p kS : Addr} {keys vs : List Value} {e e1 : Nat} {kv : Value → Int × List Int} {R : PySem.Fin → Shared → Prop} (hu : A.units + 1 < cLine) (hk : s.heap.get? kS = some (seqObj "list" keys.toArray e)) (hp : s.heap.get? p = some (seqObj "list" #[] e1)) (hne : kS ≠ p) (hl : keys.length = vs.length) (hz : vs.length ≤ sizeLine)
    (hK : ∀ q ∈ keys.zip vs, IsNT s.heap q.1 (kv q.2))
    (h : ∀ (ps : List Keyed) tk, Srtd (fun p q => lp (kv p.2) (kv q.2)) ps → Stb (fun p q => lp (kv p.2) (kv q.2)) ps (keys.zip vs) →
      R (.done (.ret .none)) { s with heap := (s.heap.update kS (Obj.mapSeq fun _ => (#[] : Array Value))).update p (Obj.mapSeq fun _ => (ps.map (·.2)).toArray), toks := tk }) :
    wpAny (model prog w) A (ksk_end p false vs.toArray e1 (.ref kS) keys.toArray) R E s := by
  have ez : (keys.toArray.zip vs.toArray).toList = keys.zip vs := by simp
  have hzl : (keys.zip vs).length = vs.length := by rw [List.length_zip, hl, Nat.min_self]
  have fin : ∀ st : SortSt, failedOf st = none → Srtd (fun p q : Keyed => lp (kv p.2) (kv q.2)) (arrOf st).toList → Stb (fun p q : Keyed => lp (kv p.2) (kv q.2)) (arrOf st).toList (keys.zip vs) → wpAny (model prog w) A (ksk_tail p false e1 (.ref kS) st) R E s := by
    intro st hf h1 h2
    have hsz : (arrOf st).size = vs.length := by rw [← Array.length_toList, h2.len, hzl]
    refine key_tail hk hp hne (by rw [List.size_toArray, hl]; exact hz) (by rw [hsz]; exact hz) hf fun tk => ?_
    have z := h (arrOf st).toList tk h1 h2
    have ea : ((arrOf st).toList.map (·.2)).toArray = (arrOf st).map (·.2) := by
      apply Array.ext'
      simp
    rw [ea] at z
    exact z
  unfold ksk_end
  simp only [Bool.false_eq_true, if_false]
  by_cases h2 : vs.toArray.size < 2
  · rw [if_pos h2, if_pos h2]
    refine wpAny_bind (wpAny_pure ?_)
    rw [StateT.run_pure]
    refine wpAny_bind (wpAny_pure ?_)
    try dsimp only
    refine fin (SortSt.mk' general' (keys.toArray.zip vs.toArray) #[] 7 none) rfl ?_ ?_
    · show Srtd _ (keys.toArray.zip vs.toArray).toList
      rw [ez]
      rw [List.size_toArray] at h2
      match hq : keys.zip vs, hzl with
      | [], _ => exact List.Pairwise.nil
      | [x], _ => exact List.pairwise_singleton _ _
      | x :: y :: r, hh => rw [List.length_cons, List.length_cons] at hh; omega
    · show Stb _ (keys.toArray.zip vs.toArray).toList _
      rw [ez]; exact Stb.refl _
  · rw [if_neg h2, if_neg h2]
    rw [List.size_toArray] at h2
    have kt : ∃ fs, PySem.W.KatTups s.heap keys fs ∧ fs.length = keys.length ∧ ∀ f, f ∈ fs → ∃ n t, f = Value.int n t := by
      have go : ∀ (ks us : List Value), ks.length = us.length → (∀ q ∈ ks.zip us, IsNT s.heap q.1 (kv q.2)) → ∃ fs, PySem.W.KatTups s.heap ks fs ∧ fs.length = ks.length ∧ ∀ f, f ∈ fs → ∃ n t, f = Value.int n t := by
        intro ks
        induction ks with
        | nil => exact fun us _ _ => ⟨[], PySem.W.KatTups.nil, rfl, fun f hf => by simp at hf⟩
        | cons v ks ih =>
          intro us hl x
          cases us with
          | nil => simp at hl
          | cons u us =>
            obtain ⟨fs, kk, hl', hi⟩ := ih us (by simpa using hl) fun q hq => x q (List.mem_cons_of_mem _ hq)
            obtain ⟨a, o, t, b, n, e, ho, hc, hd, _⟩ := x (v, u) (List.mem_cons_self ..)
            have e : v = .ref a := e
            rw [e]
            refine ⟨.int (kv u).1 t :: fs, PySem.W.KatTups.cons ho hc hd rfl kk, by simp [hl'], ?_⟩
            intro f hf
            rcases List.mem_cons.mp hf with rfl | hf
            · exact ⟨_, t, rfl⟩
            · exact hi f hf
      exact go keys vs hl hK
    obtain ⟨fs, f1, f2, f3⟩ := kt
    refine wpAny_bind (PySem.W.kat_kind (T := .type "int") f1 (by omega) (fun f hm => ?_) (by rfl) ?_)
    · obtain ⟨x, t, rfl⟩ := f3 f hm
      exact PySem.W.Looks.now
    have ei : (Value.type "int" != Value.type "tuple") = true := by first | decide +kernel | rfl | decide
    rw [ei]
    have O : Swo (fun p q : Keyed => lp (kv p.2) (kv q.2)) := swo_lp (α := Keyed) (fun p => kv p.2)
    refine wpAny_bind (wpAny_mono (wpS_sortO (st0 := SortSt.mk' (tuples' true) (keys.toArray.zip vs.toArray) #[] 7 none)
      (Q := fun _ st' => Srtd (fun p q : Keyed => lp (kv p.2) (kv q.2)) (arrOf st').toList ∧ Stb (fun p q : Keyed => lp (kv p.2) (kv q.2)) (arrOf st').toList (keys.toArray.zip vs.toArray).toList ∧ failedOf st' = none) O (nt_cmpK hu) rfl
        (fun q hq => hK q (by rw [← ez]; exact hq)) rfl rfl fun st' a1 a2 a3 => ⟨a1, a2, a3⟩) ?_ fun _ _ e => e)
    rintro ⟨⟨⟩, st'⟩ s' ⟨rfl, hp1, hp2, hf⟩
    try dsimp only
    rw [ez] at hp2
    exact fin st' hf hp1 hp2
end
end Km

set_option Elab.async false
set_option linter.all false
set_option maxRecDepth 100000
set_option maxHeartbeats 4000000
namespace Km
open PySem PySem.Spec PyProof.Rows L2 Kg Kd LamX SrtO Srt Ku
/-- what is a key of x -/
def KeyV (K : PySem.W.Frag) (H : Hp) (v : V) (p : Int × List Int) : Prop := ∃ t b, v = .ref t ∧ H t = some (.tup [.int p.1, .ref b]) ∧ SqT K H b (p.2.map V.int)
theorem KeyV.same {K : PySem.W.Frag} {H H' : Hp} {v : V} {p : Int × List Int} (h : KeyV K H v p) (t : ∀ a xs, H a = some (.tup xs) → H' a = some (.tup xs)) (q : ∀ a xs, SqT K H a xs → SqT K H' a xs) : KeyV K H' v p := by
  obtain ⟨a, b, e, h1, h2⟩ := h
  exact ⟨a, b, e, t _ _ h1, q _ _ h2⟩
theorem sqt_keep {K : PySem.W.Frag} {H H' : Hp} {a : Addr} {xs : List V} (h : SqT K H a xs) (k : ∀ b o, H b = some o → (∀ ys, o ≠ .lst ys) → H' b = some o) : SqT K H' a xs := by
  rcases h with h | h
  · refine .inl ?_
    rcases h with h | ⟨o, h⟩
    · exact .inl (k _ _ h (fun ys z => nomatch z))
    · exact .inr ⟨o, k _ _ h (fun ys z => nomatch z)⟩
  · exact .inr h
section
variable {X : Cx} {pins : List (Addr × Obj)} {σ : L2.St} {H : Hp} {s : Shared}
theorem isNT_of (I : Inv X pins σ H s) {v : V} {u : Value} {p : Int × List Int} (h : KeyV X.K H v p) (r : RelV v u) : IsNT s.heap u p := by
  obtain ⟨t, b, rfl, ht, hb⟩ := h
  cases (show u = Value.ref t from r)
  obtain ⟨_, its2, r2, o, ho, hc, n, hd'⟩ := I.hok _ _ ht
  obtain ⟨u1, u2, rfl, ri, rj⟩ := vals2 r2
  obtain ⟨t1, rfl⟩ := ri
  cases (show u2 = Value.ref b from rj)
  exact ⟨t, o, t1, b, n, rfl, ho, hc, hd', tupI_raw I hb⟩
/-- an object that is not tracked, made since the def began, is written and tracked from then on -/
theorem inv_take {p : Addr} {o : Obj} {u : HO} {h' : Heap} {t' : Nat} (I : Inv X pins σ H s) (hp : s.heap.get? p = some o) (hn : H p = none) (h0 : X.s_0.heap.objs.size ≤ p) (hL : p ≠ X.env.locals) (hcl : ∀ v, o.data ≠ .cell v) (hpn : ∀ q ∈ X.pn ++ pins, q.1 ≠ p)
    (k : ∀ b v, b ≠ p → s.heap.get? b = some v → h'.get? b = some v) (hs : Heap.SameBut p s.heap h') (hob : ObjOk X.prog X.w (upd H p u) h' p u) (hq : ∃ v, h'.get? p = some v) : Inv X pins σ (upd H p u) { s with heap := h', toks := t' } := by
  have ne : ∀ b v, H b = some v → b ≠ p := fun b v e z => by rw [z, hn] at e; cases e
  refine I.step (g' := s.gens) (d' := s.drawn) (ch := [p]) (fun b hb => ?_) (fun b v _ _ hb e n => k b v (fun z => hb (by rw [z]; exact List.mem_singleton.mpr rfl)) e) (fun b v _ _ hb e n => ⟨v.slots, k b v (fun z => hb (by rw [z]; exact List.mem_singleton.mpr rfl)) e⟩)
    (fun b v hb e n => by rw [upd_ne (fun z => hb (by rw [z]; exact List.mem_singleton.mpr rfl))]; exact n) (fun b v hb e => ⟨v, k b v (fun z => hb (by rw [z]; exact List.mem_singleton.mpr rfl)) e⟩) (fun b xs e => by rw [upd_ne (ne b _ e)]; exact e) (fun b x v e => by rw [upd_ne (ne b _ e)]; exact e) (fun b ps e => ⟨#[], by rw [upd_ne (ne b _ e), e]; simp⟩)
    (fun m hm => hm.sameBut hs hL.symm) (fun b v e => ?_) I.bare
  · rw [List.mem_singleton] at hb
    subst hb
    refine ⟨.inr h0, hL, fun x c e z => ?_, hpn⟩
    obtain ⟨w', oc, ho, hd⟩ := I.cell x c e
    rw [z, hp] at ho
    cases ho
    exact hcl _ hd
  · by_cases hb : b = p
    · subst hb
      rw [upd_same] at e
      cases e
      exact hob
    · rw [upd_ne hb] at e
      refine (I.hok b v e).stay (fun c w' hc q => k c w' ?_ q) (fun c q => by rw [upd_ne (ne c _ q)]; exact q) fun c xs q => by rw [upd_ne (ne c _ q)]; exact q
      rcases hc with z | z
      · rw [z]; exact hb
      · exact ne c _ z
theorem vals_at {xs : List V} {us : List Value} (r : Vals xs us) {i : Nat} {u : Value} (h : us[i]? = some u) : ∃ x, xs[i]? = some x ∧ RelV x u := by
  induction r generalizing i with
  | nil => simp at h
  | cons a t ih =>
    cases i with
    | zero =>
      simp at h
      subst h
      exact ⟨_, rfl, a⟩
    | succ i => exact ih (by simpa using h)
/-- the keys are made, the pairs sorted -/
theorem key_rest {p kS f : Addr} {fo : Obj} {e1 : Nat} {A : Around} {vs : List Value} {xs : List V} {k : V → Int × List Int} {R : PySem.Fin → Shared → Prop} {E : Value → Shared → Prop} (hu : A.units + 1 < cLine)
    (I : Inv X ((p, seqObj "list" #[] e1) :: (f, fo) :: pins) σ H s) (hkS : H kS = some (.lst [])) {Hb : Hp} (sb : Same Hb H) (nkS : Hb kS = none) (nP : Hb p = none) (h0 : X.s_0.heap.objs.size ≤ p) (hpn : ∀ q ∈ X.pn ++ ((f, fo) :: pins), q.1 ≠ p)
    (rv : Vals xs vs) (hx : ∀ x ∈ xs, ∃ a, x = V.ref a) (hz : xs.length ≤ 900)
    (call_ : ∀ (x : V) (u : Value) (H1 : Hp) (s1 : Shared), x ∈ xs → RelV x u → Inv X ((p, seqObj "list" #[] e1) :: (f, fo) :: pins) σ H1 s1 → Same Hb H1 →
      wpAny (model X.prog X.w) A (call (.ref f) [u]) (EP X ((p, seqObj "list" #[] e1) :: (f, fo) :: pins) σ (fun v H2 => Same H1 H2 ∧ KeyV X.K H2 v (k x))) (fun _ _ => False) s1)
    (done : ∀ ys H' s', Inv X ((f, fo) :: pins) σ H' s' → Same Hb H' → H' p = some (.lst ys) → Srtd (fun x y => lp (k x) (k y)) ys → Stb (fun x y => lp (k x) (k y)) ys xs → R (.done (.ret .none)) s') :
    wpAny (model X.prog X.w) A (ksk_rest p (.ref f) false vs.toArray e1 (.ref kS)) R E s := by
  obtain ⟨b1, b2⟩ := refs_back rv hx
  have vl : vs.length = xs.length := rv.length.symm
  unfold ksk_rest
  refine wpAny_bind (wpAny_rule ?_)
  first
    | rw [List.forIn_toArray]
    | (rw [← Array.forIn_toList]; simp only [List.toList_toArray])
    | rw [← Array.forIn_toList]
  refine wpAny_bind (ksk_fold (fun i s' => ∃ (H' : Hp) (ks : List V), Inv X ((p, seqObj "list" #[] e1) :: (f, fo) :: pins) σ H' s' ∧ Same Hb H' ∧ H' kS = some (.lst ks) ∧ ks.length = i ∧ ∀ (j : Nat) v x, ks[j]? = some v → xs[j]? = some x → KeyV X.K H' v (k x)) vs 0 s
    ⟨H, [], I, sb, hkS, rfl, fun j v x h => by simp at h⟩ ?step ?done)
  case step =>
    rintro j u s' hu' ⟨H', ks, I', sb', hk', kl, kk⟩
    simp only [Nat.zero_add] at kl ⊢
    obtain ⟨x, hxj, rx⟩ := vals_at rv hu'
    have hj : j < vs.length := (List.getElem?_eq_some_iff.mp hu').1
    refine wpAny_bind (wpAny_attempt (wpAny_mono (call_ x u H' s' (List.mem_of_getElem? hxj) rx I' sb') (fun w s2 he => ?_) fun _ _ hF => hF.elim))
    obtain ⟨v, H2, I2, rw2, s2', kv2⟩ := he
    try dsimp only
    have hk2 := s2' _ _ hk'
    obtain ⟨z, its, n, ri, ho⟩ := (show ObjOk X.prog X.w H2 s2.heap kS (.lst ks) from I2.hok _ _ hk2)
    have il : its.length = ks.length := ri.length.symm
    obtain ⟨c2, hc2⟩ : ∃ c2, (s2.heap.update kS (Obj.mapSeq (·.push w))).get? kS = some (seqObj "list" (its.toArray.push w) c2) := ⟨_, get?_update_seq ho (·.push w)⟩
    refine wpAny_bind (listUpdate_at ho rfl ?_ (by rw [List.size_toArray, il]; exact z) (by rw [Array.size_push, List.size_toArray, il]; omega))
    have ea : (its ++ [w]).toArray = its.toArray.push w := by simp
    have small : (ks ++ [v]).length ≤ sizeLine := by
      rw [List.length_append, List.length_singleton]
      exact Nat.le_of_lt (small1000 (by omega))
    refine wpAny_pure ⟨rfl, upd H2 kS (.lst (ks ++ [v])), ks ++ [v], I2.write (x := kS) (e := kS) (t' := s2.toks) (by rw [hk2]; trivial) (.inl rfl) (fun b v' hb e => by rw [Heap.get?_update_ne _ _ _ _ hb]; exact e) ⟨_, hc2⟩ ⟨small, its ++ [w], c2, ri.append (.cons rw2 .nil), by rw [ea]; exact hc2⟩, fun b o e => ?_, upd_same, by rw [List.length_append, kl]; rfl, fun i v' x' h1 h2 => ?_⟩
    · rw [upd_ne (ne_of_none e nkS)]; exact s2' _ _ (sb' _ _ e)
    · have tupk : ∀ a ys, H2 a = some (.tup ys) → upd H2 kS (.lst (ks ++ [v])) a = some (.tup ys) := fun a ys e => by
        rw [upd_ne (fun z => by rw [z, hk2] at e; cases e)]; exact e
      have sqk : ∀ a ys, SqT X.K H2 a ys → SqT X.K (upd H2 kS (.lst (ks ++ [v]))) a ys := fun a ys e => sqt_keep e fun b o e' no => by
        rw [upd_ne (fun z => no ks (by rw [z, hk2] at e'; exact (Option.some.inj e').symm))]; exact e'
      by_cases c : i < ks.length
      · rw [List.getElem?_append_left c] at h1
        exact ((kk i v' x' h1 h2).same (fun a ys e => s2' _ _ e) (fun a ys e => sqt_keep e fun b o e' _ => s2' _ _ e')).same tupk sqk
      · have ei : i = ks.length := by
          have := (List.getElem?_eq_some_iff.mp h1).1
          rw [List.length_append, List.length_singleton] at this
          omega
        subst ei
        rw [List.getElem?_append_right (Nat.le_refl _), Nat.sub_self] at h1
        cases h1
        rw [kl, hxj] at h2
        cases h2
        exact kv2.same tupk sqk
  case done =>
    rintro s' ⟨H', ks, I', sb', hk', kl, kk⟩
    rw [Nat.zero_add] at kl
    obtain ⟨z, its, n, ri, ho⟩ := (show ObjOk X.prog X.w H' s'.heap kS (.lst ks) from I'.hok _ _ hk')
    have il : its.length = ks.length := ri.length.symm
    obtain ⟨pp1, pp2, pp3, pp4, pp5⟩ := I'.pin (p, seqObj "list" #[] e1) (List.mem_append_right _ (List.mem_cons_self ..))
    have hne : kS ≠ p := fun z => by rw [z] at hk'; rw [pp2] at hk'; cases hk'
    try dsimp only
    refine wpAny_bind (listItems_at ho rfl ?_)
    refine key_end (kv := fun u => k (backV u)) hu ho pp1 hne (by omega) (by rw [vl]; exact Nat.le_of_lt (small1000 (by omega))) (fun q hq => ?_) (fun ps tk h1 h2 => ?_)
    · obtain ⟨j, hj⟩ := List.mem_iff_getElem?.mp hq
      rw [List.getElem?_zip_eq_some] at hj
      obtain ⟨v, hv, rvv⟩ := vals_at ri hj.1
      obtain ⟨x, hxx, rxx⟩ := vals_at rv hj.2
      have e := kk j v x hv hxx
      have ex : x = backV q.2 := by
        rw [b1, List.getElem?_map, hj.2] at hxx
        exact (Option.some.inj hxx).symm
      rw [ex] at e
      exact isNT_of I' e rvv
    · -- the sorted list
      have zl : (its.zip vs).length = vs.length := by rw [List.length_zip]; omega
      have I1 : Inv X ((f, fo) :: pins) σ (upd H' kS (.lst [])) { s' with heap := s'.heap.update kS (Obj.mapSeq fun _ => (#[] : Array Value)), toks := tk } := by
        obtain ⟨c2, hc2⟩ : ∃ c2, (s'.heap.update kS (Obj.mapSeq fun _ => (#[] : Array Value))).get? kS = some (seqObj "list" #[] c2) := ⟨_, get?_update_seq ho (fun _ => #[])⟩
        exact (I'.pins_of (pins' := (f, fo) :: pins) fun q hq => I'.pin q (List.mem_append_right _ (List.mem_cons_of_mem _ hq))).write (x := kS) (e := kS) (t' := tk) (by rw [hk']; trivial) (.inl rfl) (fun b v' hb e => by rw [Heap.get?_update_ne _ _ _ _ hb]; exact e) ⟨_, hc2⟩ ⟨Nat.zero_le _, [], c2, .nil, hc2⟩
      have hp1 : (s'.heap.update kS (Obj.mapSeq fun _ => (#[] : Array Value))).get? p = some (seqObj "list" #[] e1) := by rw [Heap.get?_update_ne _ _ _ _ hne.symm]; exact pp1
      have O : Swo (fun x y : V => lp (k x) (k y)) := swo_lp k
      have g1 : Srtd (fun x y => lp (k x) (k y)) (ps.map fun q : Keyed => backV q.2) := srtd_map h1
      have g2 : Stb (fun x y => lp (k x) (k y)) (ps.map fun q : Keyed => backV q.2) xs := by
        have z := Stb.map O (fun q : Keyed => backV q.2) h2
        have e : (its.zip vs).map (fun q : Keyed => backV q.2) = xs := by
          rw [b1]
          have : (its.zip vs).map (fun q : Keyed => backV q.2) = ((its.zip vs).map Prod.snd).map backV := by rw [List.map_map]; rfl
          rw [this, List.map_snd_zip (by omega)]
        rw [e] at z
        exact z
      have hv3 : ∀ u ∈ ps.map (·.2), ∃ a, u = Value.ref a := fun u hu => by
        obtain ⟨q, hq, rfl⟩ := List.mem_map.mp hu
        exact b2 _ (List.of_mem_zip (h2.perm.mem_iff.mp hq)).2
      obtain ⟨c3, hc3⟩ : ∃ c3, ((s'.heap.update kS (Obj.mapSeq fun _ => (#[] : Array Value))).update p (Obj.mapSeq fun _ => (ps.map (·.2)).toArray)).get? p = some (seqObj "list" (ps.map (·.2)).toArray c3) := ⟨_, get?_update_seq hp1 (fun _ => (ps.map (·.2)).toArray)⟩
      have np1 : upd H' kS (.lst []) p = none := by rw [upd_ne hne.symm]; exact pp2
      have em : ps.map (fun q : Keyed => backV q.2) = (ps.map (·.2)).map backV := by rw [List.map_map]; rfl
      have I2 := inv_take (p := p) (u := .lst (ps.map fun q : Keyed => backV q.2)) (t' := tk) (h' := (s'.heap.update kS (Obj.mapSeq fun _ => (#[] : Array Value))).update p (Obj.mapSeq fun _ => (ps.map (·.2)).toArray)) I1 hp1 np1 h0 pp3 (fun v z => nomatch z) hpn
        (fun b v hb e => by rw [Heap.get?_update_ne _ _ _ _ hb]; exact e) (Heap.SameBut.update ..) ⟨by rw [g2.len]; exact Nat.le_of_lt (small1000 (by omega)), _, c3, by rw [em]; exact vals_back hv3, hc3⟩ ⟨_, hc3⟩
      refine done _ _ _ I2 (fun b o e => ?_) upd_same g1 g2
      rw [upd_ne (ne_of_none e nP), upd_ne (ne_of_none e nkS)]
      exact sb' _ _ e
end
end Km

set_option Elab.async false
set_option linter.all false
set_option maxRecDepth 100000
set_option maxHeartbeats 4000000
namespace Km
open PySem PySem.Spec PyProof.Rows L2 Kg Kd LamX SrtO Srt Ku
section
variable {X : Cx} {pins : List (Addr × Obj)} {σ : L2.St} {H : Hp} {s : Shared}
theorem fs_sub {b : Addr} (I : Inv X pins σ H s) (h : b ∈ X.fs) : b ∈ frs X.stack := by
  rcases I.ok.stk with e | ⟨e, hf⟩
  · rw [e]; exact h
  · rw [e]
    show b ∈ List.filterMap (·.frame) (X.env :: X.outer)
    rw [List.filterMap_cons, hf]
    exact List.mem_cons_of_mem _ h
/-- what is tracked is there -/
theorem ok_there {P : Program} {w : World} {h : Heap} {a : Addr} {o : HO} (x : ObjOk P w H h a o) : ∃ ob, h.get? a = some ob := by
  cases o with
  | lst xs => obtain ⟨_, _, _, _, z⟩ := x; exact ⟨_, z⟩
  | tup xs => obtain ⟨_, _, _, ob, z, _⟩ := x; exact ⟨ob, z⟩
  | dK kvs => obtain ⟨_, _, _, _, ob, _, _, z, _⟩ := x; exact ⟨ob, z⟩
  | dT kvs => obtain ⟨_, _, _, _, ob, _, _, z, _⟩ := x; exact ⟨ob, z⟩
  | set S n => obtain ⟨ob, _, _, _, z, _⟩ := x; exact ⟨ob, z⟩
  | ins C dx fs => obtain ⟨_, _, _, z, _⟩ := x; exact ⟨_, z⟩
  | own y => exact x
  | xd fs => obtain ⟨_, ⟨ob, _, _, z, _⟩, _⟩ := x; exact ⟨ob, z⟩
  | rng lo hi => obtain ⟨_, _, _, z⟩ := x; exact ⟨_, z⟩
  | frz ob u => exact ⟨ob, x.1⟩
  | tbl ps => exact ⟨_, x⟩
  | met f y => exact ⟨_, x⟩
  | ext φ => exact x.2.1
/-- sorted(l, key=f) -/
theorem sorted_key {f l : Addr} {fo : Obj} {vs : List Value} {xs : List V} {k : V → Int × List Int} {Q : VK} {E : Value → Shared → Prop} (hu : X.A.units + 64 < cLine)
    (I : Inv X pins σ H s) (hf : s.heap.get? f = some fo) (hfn : H f = none) (hfs : f ∉ frs X.stack) (hfc : ∀ v, fo.data ≠ .cell v) (hfL : f ≠ X.env.locals)
    (rv : Vals xs vs) (hx : ∀ x ∈ xs, ∃ a, x = V.ref a) (hz : xs.length ≤ 900)
    (hcol : ∀ (Q : List Value → Shared → Prop), (∀ (h' : Heap) (tk : Nat), (∀ b o, s.heap.get? b = some o → h'.get? b = some o) → Q vs { s with heap := h', toks := tk }) → wpAny (model X.prog X.w) X.A.in1 (collect (.ref l)) Q (fun e s' => E e s') s)
    (call_ : ∀ (p : Addr × Obj) (x : V) (u : Value) (H1 : Hp) (s1 : Shared), x ∈ xs → RelV x u → Inv X (p :: (f, fo) :: pins) σ H1 s1 → Same H H1 →
      wpAny (model X.prog X.w) X.A.in1.in1 (call (.ref f) [u]) (EP X (p :: (f, fo) :: pins) σ (fun v H2 => Same H1 H2 ∧ KeyV X.K H2 v (k x))) (fun _ _ => False) s1)
    (q : ∀ ys p H', Srtd (fun x y => lp (k x) (k y)) ys → Stb (fun x y => lp (k x) (k y)) ys xs → Same H H' → H p = none → H' p = some (.lst ys) → Q (.ref p) H') :
    wpAny (model X.prog X.w) X.A (call (.builtin "sorted") [.ref l] [(Str.ofString "key", .ref f)]) (EP X pins σ Q) E s := by
  have vl : vs.length = xs.length := rv.length.symm
  have hz' : vs.length ≤ sizeLine := by rw [vl]; exact Nat.le_of_lt (small1000 (by omega))
  refine call_function_entry_kw kind_sorted plain_sorted entry_sorted (ksk_s1 _ _) ?_
  unfold Builtin.«sorted»
  refine wpAny_bind (m := checkCount "sorted" 1 1 _) (wpAny_pure ?_)
  refine wpAny_bind (hcol _ fun h' tk kp' => ?_)
  refine wpAny_bind (wpAny_newList ?_ hz')
  have hoL : (h'.push (seqObj "list" vs.toArray 0)).get? h'.objs.size = some (seqObj "list" vs.toArray 0) := Heap.get?_push_size _ rfl
  show wpAny _ _ _ _ _ { s with heap := h'.push (seqObj "list" vs.toArray 0), toks := tk }
  refine wpAny_bind (wpAny_holding (wpAny_call_entry_kw slot_list_sort ⟨_, hoL, rfl⟩ entry_list_sort ?_ (ksk_l1 _ _)))
  rw [ksk_t1]
  obtain ⟨e1, ho1⟩ : ∃ e1, ((h'.push (seqObj "list" vs.toArray 0)).update h'.objs.size (Obj.mapSeq fun _ => (#[] : Array Value))).get? h'.objs.size = some (seqObj "list" #[] e1) := ⟨_, get?_update_seq hoL fun _ => #[]⟩
  unfold ksk_tree
  refine wpAny_bind (listItems_at hoL rfl ?_)
  refine wpAny_bind (listUpdate_at hoL rfl ?_ (by rw [List.size_toArray]; exact hz') (Nat.zero_le _))
  refine wpAny_bind (seqEpoch_at ho1 rfl ?_)
  refine wpAny_bind (wpAny_newTuple ?_ (by show vs.length ≤ _; exact hz'))
  refine wpAny_bind (wpAny_newList ?_ (Nat.zero_le _))
  refine wpAny_holding ?_
  generalize hP : h'.objs.size = p at hoL ho1 ⊢
  generalize hA : (h'.push (seqObj "list" vs.toArray 0)).update p (Obj.mapSeq fun _ => (#[] : Array Value)) = hAA at ho1 ⊢
  have szA : hAA.objs.size = p + 1 := by rw [← hA, Heap.size_update, size_push', hP]
  have kpA : ∀ b o, s.heap.get? b = some o → hAA.get? b = some o := fun b o e => by
    have lt := Heap.lt_size (kp' b o e)
    rw [← hA, Heap.get?_update_ne _ _ _ _ (Nat.ne_of_lt (by rw [hP] at lt; exact lt))]
    exact Heap.get?_push_of_some _ (kp' b o e)
  have hk2 : (hAA.push (seqObj "tuple" vs.toArray 0)).objs.size = p + 2 := by rw [size_push', szA]
  have kp1 : ∀ b o, s.heap.get? b = some o → ((hAA.push (seqObj "tuple" vs.toArray 0)).push (seqObj "list" #[] 0)).get? b = some o := fun b o e => Heap.get?_push_of_some _ (Heap.get?_push_of_some _ (kpA b o e))
  have off : ∀ b o, s.heap.get? b = some o → b < p := fun b o z => by
    have lt := Heap.lt_size (kp' b o z)
    rw [hP] at lt
    exact lt
  have far : ∀ b, p ≤ b → H b = none := fun b hb => by
    cases z : H b with
    | none => rfl
    | some u =>
      obtain ⟨ob, z2⟩ := ok_there (I.hok b u z)
      exact absurd (Nat.lt_of_lt_of_le (off b ob z2) hb) (Nat.lt_irrefl _)
  have locp : X.env.locals < p := by
    obtain ⟨m, ⟨o, es, ep, z, _⟩, _⟩ := I.loc
    exact off _ _ z
  have s0p : X.s_0.heap.objs.size ≤ p := Nat.le_trans I.ok.above (Nat.le_of_lt locp)
  have nofs : p ∉ X.fs := fun z => by
    obtain ⟨_, o, z2, _⟩ := I.ok.funs.mem z
    exact absurd (Nat.lt_of_lt_of_le (Heap.lt_size z2) s0p) (Nat.lt_irrefl _)
  have nP : H p = none := far p (Nat.le_refl _)
  have nK : H (p + 2) = none := far (p + 2) (Nat.le_add_right _ _)
  have I0 : Inv X ((f, fo) :: pins) σ H s := I.pins_of (pins' := (f, fo) :: pins) fun r hr => by
    rcases List.mem_cons.mp hr with z | z
    · rw [z]
      exact ⟨hf, hfn, hfL, fun y => hfs (fs_sub I y), hfc⟩
    · exact I.pin r (List.mem_append_right _ z)
  have pinp : ∀ b, p ≤ b → ∀ r ∈ X.pn ++ ((f, fo) :: pins), r.1 ≠ b := fun b hb r hr z => by
    have lt := off _ _ (I0.pin r hr).1
    rw [z] at lt
    exact absurd (Nat.lt_of_lt_of_le lt hb) (Nat.lt_irrefl _)
  have hkS : ((hAA.push (seqObj "tuple" vs.toArray 0)).push (seqObj "list" #[] 0)).get? (p + 2) = some (seqObj "list" #[] 0) := by rw [← hk2]; exact Heap.get?_push_size _ rfl
  have I1 : Inv X ((f, fo) :: pins) σ (upd H (p + 2) (.lst [])) { s with heap := (hAA.push (seqObj "tuple" vs.toArray 0)).push (seqObj "list" #[] 0), toks := tk } :=
    inv_take (s := { s with heap := (hAA.push (seqObj "tuple" vs.toArray 0)).push (seqObj "list" #[] 0), toks := tk }) (o := seqObj "list" #[] 0) (p := p + 2) (t' := tk) (h' := (hAA.push (seqObj "tuple" vs.toArray 0)).push (seqObj "list" #[] 0)) (I0.kept (t' := tk) kp1) hkS nK (Nat.le_trans s0p (Nat.le_add_right _ _)) (Nat.ne_of_gt (Nat.lt_of_lt_of_le locp (Nat.le_add_right _ _))) (fun v z => nomatch z) (pinp _ (Nat.le_add_right _ _)) (fun b v _ z => z) ⟨rfl, fun b _ => rfl⟩ ⟨Nat.zero_le _, [], 0, .nil, hkS⟩ ⟨_, hkS⟩
  have hpn := pinp p (Nat.le_refl _)
  have I2 : Inv X ((p, seqObj "list" #[] e1) :: (f, fo) :: pins) σ (upd H (p + 2) (.lst [])) { s with heap := (hAA.push (seqObj "tuple" vs.toArray 0)).push (seqObj "list" #[] 0), toks := tk } := I1.pins_of fun r hr => by
    rcases List.mem_cons.mp hr with z | z
    · rw [z]
      exact ⟨Heap.get?_push_of_some _ (Heap.get?_push_of_some _ ho1), by rw [upd_ne (by show p ≠ p + 2; omega)]; exact nP, Nat.ne_of_gt locp, nofs, fun v z => nomatch z⟩
    · exact I1.pin r (List.mem_append_right _ z)
  rw [hk2]
  refine key_rest (k := k) (xs := xs) (p := p) (kS := p + 2) (in2_units hu) I2 upd_same (Hb := H) (same_new nK) nK nP s0p hpn rv hx hz (fun x u H1 s1 hm rx J sm => call_ _ x u H1 s1 hm rx J sm) fun ys H' s' J sm hp hs hb => ⟨_, rfl, ?_⟩
  exact wpAny_pure ⟨_, rfl, .ref p, H', J.pins_of (pins' := pins) fun r hr => J.pin r (List.mem_append_right _ (List.mem_cons_of_mem _ hr)), rfl, q ys p H' hs hb sm nP hp⟩
end
end Km

set_option Elab.async false
set_option linter.all false
set_option maxRecDepth 100000
set_option maxHeartbeats 4000000
namespace Km
open PySem PySem.Spec PyProof.Rows L2 Kg Kd LamX SrtO Srt Ku
/-- sorted(e, key=lambda a: body), e a list -/
def tSortLam (K : PySem.W.Frag) (T : List (Addr × Str)) (t : TA) (tb : TE) : TE := fun σ H Q => t σ H fun us H1 => ∃ (l : Addr) (xs : List V) (k : V → Int × List Int), us = [.ref l] ∧ H1 l = some (.lst xs) ∧ (∀ x ∈ xs, ∃ a, x = V.ref a) ∧ xs.length ≤ 900 ∧ Tabs T H1 ∧
  (∀ H2, ExtN H1 H2 → ∀ x ∈ xs, tb (some x :: σ) H2 (fun v H3 => Same H2 H3 ∧ KeyV K H3 v (k x))) ∧
  ∀ ys p H', Srtd (fun x y => lp (k x) (k y)) ys → Stb (fun x y => lp (k x) (k y)) ys xs → ExtN H1 H' → Tabs T H' → H' p = some (.lst ys) → Q (.ref p) H'
section
variable {X : Cx}
theorem pe_sortLam {T : List (Addr × Str)} {c P : Addr} {k : Nat} {a : Str} {e : Expr} {params : Arguments} {body : Expr} {scope : Scope} {t : TA} {tb : TE} {p1 lpos kpos pos : Pos} (hg : Gl X "sorted") (hm : X.mg "sorted" = none) (hv : bootBuiltins "sorted" = some (.builtin "sorted")) (ha : PA X [e] t)
    (TB : TabB X.base X.mg c P) (hcode : X.env.code = .ref c) (hmT : (P, X.env.qual ++ "<lambda>") ∈ T) (hu : ∀ p ∈ T, p.1 = P → p.2 = X.env.qual ++ "<lambda>") (hr : Room (k + 3) X.A) (L : LamS1 X.env.scope scope a) (na : a ∉ X.N) (hdef : defaultsOf params X.env = ([], []))
    (hbind : ∀ (q : Str) (cl : List (Str × Addr)) (pm cv ctv u : Value), bindArgs (PySem.W.kla_fn "<lambda>" q params body scope cl pm cv ctv) ⟨[u], []⟩ = pure [(a, u)])
    (hbody : ∀ (A : Around) (s : Shared) (H : Hp) (f c' : Addr), Room k (A.deeper (lamEnv X scope s.heap.objs.size f c')) → PE (lamCx1 X a A X.stack s H scope f c') body tb)
    (he : backTo pos (starEach [e] X.env) = (false, eval e X.env) :: backTo pos (starEach [] X.env) := by rfl) (hpl : (backTo pos (starEach [e] X.env)).any (·.1) = false := by rfl) :
    PE X (.Call (.Name "sorted" p1) [e] [⟨some "key", .Lambda params body scope lpos, kpos⟩] pos) (tSortLam X.K T t tb) := by
  refine ⟨fun pins s σ H Q I h => ?_⟩
  refine wpAny_Call_Name_kw (ld_blt I hg hm hv ?_ (by decide) (by decide))
  refine PyProof.Rows.callWith_kw (thn (ha.run pos pins s σ H _ I h) fun us s1 ⟨vs, H1, I1, r1, q1⟩ => ?_) he hpl rfl rfl
  obtain ⟨l, xs, kf, rfl, hl, hx, hz, hT, hk, q⟩ := q1
  obtain ⟨u, rfl, ru⟩ := vals1 r1
  cases (show u = Value.ref l from ru)
  show wpAny _ _ (evalAll [(do let v ← eval (.Lambda params body scope lpos) X.env; standAt pos; pure v)]) _ _ s1
  refine wpAny_evalAll_cons (wpAny_bind (lam_make2 I1 TB hcode hmT hu hT hdef (L.has I1.ok) fun f c' pm ctv H2 s2 I2 eN T2 hf hfn hfs hco => wpAny_bind (wpAny_standAt (wpAny_pure (wpAny_evalAll_nil ?_)))))
  show wpAny _ _ (call (.builtin "sorted") [.ref l] [(Str.ofString "key", .ref f)]) _ _ s2
  have hl2 := eN _ _ hl (fun ps z => nomatch z)
  obtain ⟨its, rv, hL, hz2⟩ := I2.list (SqL.of hl2)
  have fL : f ≠ X.env.locals := fun z => by
    obtain ⟨m, ⟨o, es, ep, ho, hd, _⟩, _⟩ := I2.loc
    rw [← z, hf] at ho
    cases ho
    cases hd
  have hr1 : Room (k + 1) X.A.in1.in1 := Room.in1 (Room.in1 hr)
  refine sorted_key (k := kf) hr.units I2 hf hfn hfs (fun v z => nomatch z) fL rv hx hz (fun R hR => collect_list hL.isList (hR _ s2.toks (fun b o e => ?_)) (by rw [← rv.length]; exact hz2)) (fun p x u H3 s3 hm3 rx J sm => ?_) (fun ys p H' g1 g2 sm np hp => ?_)
  · have lt := Heap.lt_size e
    rw [Heap.get?_update_ne _ _ _ _ (Nat.ne_of_lt lt)]
    exact Heap.get?_push_of_some _ e
  · have hf3 := (J.pin (f, _) (List.mem_append_right _ (List.mem_cons_of_mem _ (List.mem_cons_self ..)))).1
    exact wpAny_call (lam_call J L na hf3 (sm _ _ hco) J.env0.in1.in1 hr1 rx (hbind _ _ _ _ _ _) (fun A s H hr' => hbody A s H f c' hr') (hk H3 (eN.trans (.of sm)) x hm3))
  · exact q ys p H' g1 g2 (eN.trans (.of sm)) (T2.ext sm) hp
end
end Km

set_option Elab.async false
set_option linter.all false
set_option maxRecDepth 100000
set_option maxHeartbeats 4000000
namespace Km
open PySem PySem.Spec PyProof.Rows L2 Kg Kd LamX SrtO Srt Ku
/-- sorted(e, key=lambda a: body), e a dict whose keys are tuples -/
def tSortLamD (K : PySem.W.Frag) (T : List (Addr × Str)) (t : TA) (tb : TE) : TE := fun σ H Q => t σ H fun us H1 => ∃ (d : Addr) (kvs : List (List Key × V)), us = [.ref d] ∧ H1 d = some (.dT kvs) ∧ kvs.length ≤ 900 ∧ Tabs T H1 ∧
  ∀ H2 bs, ExtN H1 H2 → Tabs T H2 → IsKeys H2 kvs bs → ∃ k : V → Int × List Int, (∀ H3, Same H2 H3 → ∀ x ∈ bs.map V.ref, tb (some x :: σ) H3 (fun v H4 => Same H3 H4 ∧ KeyV K H4 v (k x))) ∧
  ∀ ys p H', Srtd (fun x y => lp (k x) (k y)) ys → Stb (fun x y => lp (k x) (k y)) ys (bs.map V.ref) → Same H2 H' → Tabs T H' → H' p = some (.lst ys) → Q (.ref p) H'
theorem vals_refs : ∀ bs : List Addr, Vals (bs.map V.ref) (bs.map Value.ref)
  | [] => .nil
  | _ :: bs => .cons rfl (vals_refs bs)
section
variable {X : Cx}
theorem pe_sortLamD {T : List (Addr × Str)} {c P : Addr} {k : Nat} {a : Str} {e : Expr} {params : Arguments} {body : Expr} {scope : Scope} {t : TA} {tb : TE} {p1 lpos kpos pos : Pos} (hc : X.calm = true) (hg : Gl X "sorted") (hm : X.mg "sorted" = none) (hv : bootBuiltins "sorted" = some (.builtin "sorted")) (ha : PA X [e] t)
    (TB : TabB X.base X.mg c P) (hcode : X.env.code = .ref c) (hmT : (P, X.env.qual ++ "<lambda>") ∈ T) (hu : ∀ p ∈ T, p.1 = P → p.2 = X.env.qual ++ "<lambda>") (hr : Room (k + 3) X.A) (L : LamS1 X.env.scope scope a) (na : a ∉ X.N) (hdef : defaultsOf params X.env = ([], []))
    (hbind : ∀ (q : Str) (cl : List (Str × Addr)) (pm cv ctv u : Value), bindArgs (PySem.W.kla_fn "<lambda>" q params body scope cl pm cv ctv) ⟨[u], []⟩ = pure [(a, u)])
    (hbody : ∀ (A : Around) (s : Shared) (H : Hp) (f c' : Addr), Room k (A.deeper (lamEnv X scope s.heap.objs.size f c')) → PE (lamCx1 X a A X.stack s H scope f c') body tb)
    (he : backTo pos (starEach [e] X.env) = (false, eval e X.env) :: backTo pos (starEach [] X.env) := by rfl) (hpl : (backTo pos (starEach [e] X.env)).any (·.1) = false := by rfl) :
    PE X (.Call (.Name "sorted" p1) [e] [⟨some "key", .Lambda params body scope lpos, kpos⟩] pos) (tSortLamD X.K T t tb) := by
  refine ⟨fun pins s σ H Q I h => ?_⟩
  refine wpAny_Call_Name_kw (ld_blt I hg hm hv ?_ (by decide) (by decide))
  refine PyProof.Rows.callWith_kw (thn (ha.run pos pins s σ H _ I h) fun us s1 ⟨vs, H1, I1, r1, q1⟩ => ?_) he hpl rfl rfl
  obtain ⟨d, kvs, rfl, hd, hz, hT, q⟩ := q1
  obtain ⟨u, rfl, ru⟩ := vals1 r1
  cases (show u = Value.ref d from ru)
  show wpAny _ _ (evalAll [(do let v ← eval (.Lambda params body scope lpos) X.env; standAt pos; pure v)]) _ _ s1
  refine wpAny_evalAll_cons (wpAny_bind (lam_make2 I1 TB hcode hmT hu hT hdef (L.has I1.ok) fun f c' pm ctv H2 s2 I2 eN T2 hf hfn hfs hco => wpAny_bind (wpAny_standAt (wpAny_pure (wpAny_evalAll_nil ?_)))))
  show wpAny _ _ (call (.builtin "sorted") [.ref d] [(Str.ofString "key", .ref f)]) _ _ s2
  have hd2 := eN _ _ hd (fun ps z => nomatch z)
  obtain ⟨z, lo, ks, pr, o, es, ep, ho, hx, hdt, hes, hn⟩ := (show ObjOk X.prog X.w H2 s2.heap d (.dT kvs) from I2.hok _ _ hd2)
  have l1 : es.size = ks.length := size_of_entries hes
  have l2 : kvs.length = ks.length := Paired.length pr
  obtain ⟨kf, hk, q⟩ := q H2 (ks.map fun x => x.2.1) eN T2 (isKeys_of pr)
  have fL : f ≠ X.env.locals := fun z => by
    obtain ⟨m, ⟨o, es, ep, ho, hd, _⟩, _⟩ := I2.loc
    rw [← z, hf] at ho
    cases ho
    cases hd
  have hr1 : Room (k + 1) X.A.in1.in1 := Room.in1 (Room.in1 hr)
  refine sorted_key (k := kf) (xs := (ks.map fun x => x.2.1).map V.ref) (vs := (ks.map fun x => x.2.1).map Value.ref) hr.units I2 hf hfn hfs (fun v z => nomatch z) fL (vals_refs _) (fun x hm => by obtain ⟨b, _, rfl⟩ := List.mem_map.mp hm; exact ⟨b, rfl⟩) (by rw [List.length_map, List.length_map]; omega)
    (fun R hR => PySem.W.kdu_collect (A := X.A.in1) (kdl_raw lo hx hdt) (I2.ok.hd hc) ho (by omega) fun h' tk acc kp it => ?_) (fun p x u H3 s3 hm3 rx J sm => ?_) (fun ys p H' g1 g2 sm np hp => q ys p H' g1 g2 sm (T2.ext sm) hp)
  · have ea : acc.toList = (ks.map fun x => x.2.1).map Value.ref := by
      rw [List.map_map]
      have hl : acc.toList.length = ks.length := by rw [Array.length_toList, it.1]; exact l1
      apply List.ext_getElem?
      intro j
      rw [List.getElem?_map]
      by_cases hj : j < ks.length
      · have h1 : acc.toList[j]? = some acc.toList[j] := List.getElem?_eq_getElem (by omega)
        obtain ⟨en, hen, hv⟩ := it.2 j acc.toList[j] (by rw [← Array.getElem?_toList]; exact h1)
        have qe := entry_at hes j
        rw [hen, List.getElem?_eq_getElem hj] at qe
        have e2 : en = entryOfKey (tupleKind (mixKind X.prog X.w)) ks[j] := Option.some.inj qe
        rw [h1, List.getElem?_eq_getElem hj, hv, e2]
        rfl
      · rw [List.getElem?_eq_none (by omega), List.getElem?_eq_none (by omega)]
        rfl
    rw [ea]
    exact hR h' tk kp
  · have hf3 := (J.pin (f, _) (List.mem_append_right _ (List.mem_cons_of_mem _ (List.mem_cons_self ..)))).1
    exact wpAny_call (lam_call J L na hf3 (sm _ _ hco) J.env0.in1.in1 hr1 rx (hbind _ _ _ _ _ _) (fun A s H hr' => hbody A s H f c' hr') (hk H3 sm x hm3))
end
end Km

set_option Elab.async false
set_option linter.all false
set_option maxRecDepth 100000
set_option maxHeartbeats 4000000
namespace Km
open PySem PySem.Spec PyProof.Rows L2 Kg Kd LamX
/-- a def by its body, its code object told -/
theorem okC {P : Program} {w : World} {K : PySem.W.Frag} {mg : Str → Option Value} {base : Heap} {x qual : Str} {st : Stmt} {f : Addr} {fd : FuncData} {N ps : List Str} {k : Nat} {sp : Sp} (F : Fun K x qual st f fd) (S : FnScope N ps (defScope st)) (len : ∀ vs H Q E, sp vs H Q E → vs.length = ps.length)
    (body : ∀ (A : Around) (outer : List Env) (s : Shared) (H : Hp) (vs : List V) (Q : VK) (E : XK), Room k (A.deeper (envOfC qual (defScope st) s.heap.objs.size f fd.code)) → sp vs H Q E →
      ∃ t, PSs (cxOf CX0 P w K mg base N qual (defScope st) f fd.code A outer s H E).nox (defBody st) t ∧ t { nx := fun _ H' => Q .non H', rt := Q } (start N vs) H) : FnOk P w K mg base CX0 (k + 1) f fd ps sp := by
  obtain ⟨z1, z2, z3, z4, z5, z6, z7, z8, z9, e, h1, h2⟩ := F.ex
  subst e
  refine fn_of h1 h2 S len fun A outer s H vs Q E r p => ?_
  obtain ⟨t, b1, b2⟩ := body A outer s H vs Q E r p
  exact ⟨t, b1.nox, b2⟩
end Km

set_option Elab.async false
set_option linter.all false
set_option maxRecDepth 100000
set_option maxHeartbeats 4000000
/-! Comprehensions over tuples, lists and ranges in which nothing that stands is changed. -/
namespace Kf
open PySem PySem.Spec PyProof.Rows L2 Kg Kd
theorem rgm_succ (P : Nat → Bool) (f : Nat → V) (i : Nat) : ((List.range (i + 1)).filter P).map f = ((List.range i).filter P).map f ++ (if P i = true then [f i] else []) := by
  rw [List.range_succ, List.filter_append, List.map_append]
  congr 1
  by_cases c : P i = true
  · simp [c]
  · simp [c]
theorem rgm_len (P : Nat → Bool) (f : Nat → V) (i : Nat) : (((List.range i).filter P).map f).length ≤ i := by
  have := List.length_filter_le P (List.range i)
  rw [List.length_map]
  rwa [List.length_range] at this
section
variable {K : PySem.W.Frag} {a : Addr} {xs : List V} {g : TG} {tt : TT} {te : TE} {vs : List Nat} {σ : L2.St} {H1 : Hp} {D : Addr} {Qd : Hp → Prop} {n : Nat}
/-- what one turn asks -/
def FmTurn (P : Nat → Bool) (f : Nat → V) (g : TG) (tt : TT) (te : TE) (vs : List Nat) (σ : L2.St) (H1 : Hp) (i : Nat) (x : V) : Prop :=
  ∀ (H : Hp), Same H1 H → ∀ (R : V → Hp → Prop) (R0 : Hp → Prop), (∀ H', Same H H' → (P i = true → R (f i) H') ∧ (P i = false → R0 H')) →
    g x (wipe σ vs) H fun σ2 H2 => wipe σ2 vs = wipe σ vs ∧ tt σ2 H2 fun b H3 => if b = true then te σ2 H3 R else R0 H3
theorem fm_step {P : Nat → Bool} {f : Nat → V} {i : Nat} {x : V} {H : Hp} (nD : H1 D = none) (hn : i < 900) (p : Same H1 H ∧ H D = some (.lst (((List.range i).filter P).map f))) (hs : FmTurn P f g tt te vs σ H1 i x) :
    g x (wipe σ vs) H fun σ2 H2 => wipe σ2 vs = wipe σ vs ∧ tt σ2 H2 fun b H3 =>
      if b = true then te σ2 H3 fun y H4 => ∃ acc, H4 D = some (.lst acc) ∧ acc.length < sizeLine ∧ (Same H1 (upd H4 D (.lst (acc ++ [y]))) ∧ (upd H4 D (.lst (acc ++ [y]))) D = some (.lst (((List.range (i + 1)).filter P).map f))) else (Same H1 H3 ∧ H3 D = some (.lst (((List.range (i + 1)).filter P).map f))) := by
  refine hs H p.1 _ _ (fun H' s' => ⟨fun c => ?_, fun c => ?_⟩)
  · refine ⟨_, s' _ _ p.2, ?_, fun b o z => ?_, ?_⟩
    · have := rgm_len P f i
      exact small1000 (by omega)
    · rw [upd_ne (ne_of_none z nD)]; exact s' _ _ (p.1 _ _ z)
    · rw [upd_same, rgm_succ, if_pos c]
  · refine ⟨p.1.trans s', ?_⟩
    rw [rgm_succ, if_neg (by rw [c]; exact Bool.false_ne_true), List.append_nil]
    exact s' _ _ p.2
theorem lc_tfm (P : Nat → Bool) (f : Nat → V) (nD : H1 D = none) (hn : xs.length ≤ 900) (ha : H1 a = some (.tup xs)) (hs : ∀ (i : Nat) (x : V), xs[i]? = some x → FmTurn P f g tt te vs σ H1 i x)
    (hd : ∀ H, Same H1 H → H D = some (.lst (((List.range xs.length).filter P).map f)) → Qd H) :
    ∃ W : Nat → Nat → Hp → Prop, (∃ m, W 0 m (upd H1 D (.lst []))) ∧ ∀ i m H, W i m H →
      ((Itt K a).stop i H ∧ Qd H) ∨ ((Itt K a).go i H ∧ ∃ Nx : Hp → Prop, (∀ H', Nx H' → ∃ m', m' < m ∧ W (i + 1) m' H') ∧ ∀ x H', (Itt K a).yld i H x H' → g x (wipe σ vs) H' fun σ2 H2 => wipe σ2 vs = wipe σ vs ∧ tt σ2 H2 fun b H3 =>
        if b = true then te σ2 H3 fun y H4 => ∃ acc, H4 D = some (.lst acc) ∧ acc.length < sizeLine ∧ Nx (upd H4 D (.lst (acc ++ [y]))) else Nx H3) :=
  lc_tup (K := K) (a := a) (xs := xs) (fun i H => Same H1 H ∧ H D = some (.lst (((List.range i).filter P).map f))) ⟨same_new nD, upd_same⟩ (fun i H _ p => SqT.of (p.1 _ _ ha))
    (fun i x H hx p => fm_step nD (by have := (List.getElem?_eq_some_iff.mp hx).1; omega) p (hs i x hx)) (fun H p => hd H p.1 p.2)
theorem lc_lfm (P : Nat → Bool) (f : Nat → V) (nD : H1 D = none) (hn : xs.length ≤ 900) (ha : H1 a = some (.lst xs)) (hs : ∀ (i : Nat) (x : V), xs[i]? = some x → FmTurn P f g tt te vs σ H1 i x)
    (hd : ∀ H, Same H1 H → H D = some (.lst (((List.range xs.length).filter P).map f)) → Qd H) :
    ∃ W : Nat → Nat → Hp → Prop, (∃ m, W 0 m (upd H1 D (.lst []))) ∧ ∀ i m H, W i m H →
      ((Itl K a).stop i H ∧ Qd H) ∨ ((Itl K a).go i H ∧ ∃ Nx : Hp → Prop, (∀ H', Nx H' → ∃ m', m' < m ∧ W (i + 1) m' H') ∧ ∀ x H', (Itl K a).yld i H x H' → g x (wipe σ vs) H' fun σ2 H2 => wipe σ2 vs = wipe σ vs ∧ tt σ2 H2 fun b H3 =>
        if b = true then te σ2 H3 fun y H4 => ∃ acc, H4 D = some (.lst acc) ∧ acc.length < sizeLine ∧ Nx (upd H4 D (.lst (acc ++ [y]))) else Nx H3) :=
  lc_list (K := K) (a := a) (xs := xs) (fun i H => Same H1 H ∧ H D = some (.lst (((List.range i).filter P).map f))) ⟨same_new nD, upd_same⟩ (fun i H _ p => SqL.of (p.1 _ _ ha))
    (fun i x H hx p => fm_step nD (by have := (List.getElem?_eq_some_iff.mp hx).1; omega) p (hs i x hx)) (fun H p => hd H p.1 p.2)
theorem lc_rfm (P : Nat → Bool) (f : Nat → V) (nD : H1 D = none) (hn : n ≤ 900) (hs : ∀ (i : Nat), i < n → FmTurn P f g tt te vs σ H1 i (.int (0 + (i : Nat))))
    (hd : ∀ H, Same H1 H → H D = some (.lst (((List.range n).filter P).map f)) → Qd H) :
    ∃ W : Nat → Nat → Hp → Prop, (∃ m, W 0 m (upd H1 D (.lst []))) ∧ ∀ i m H, W i m H →
      ((Itr 0 n).stop i H ∧ Qd H) ∨ ((Itr 0 n).go i H ∧ ∃ Nx : Hp → Prop, (∀ H', Nx H' → ∃ m', m' < m ∧ W (i + 1) m' H') ∧ ∀ x H', (Itr 0 n).yld i H x H' → g x (wipe σ vs) H' fun σ2 H2 => wipe σ2 vs = wipe σ vs ∧ tt σ2 H2 fun b H3 =>
        if b = true then te σ2 H3 fun y H4 => ∃ acc, H4 D = some (.lst acc) ∧ acc.length < sizeLine ∧ Nx (upd H4 D (.lst (acc ++ [y]))) else Nx H3) :=
  lc_range (lo := 0) (n := n) (fun i H => Same H1 H ∧ H D = some (.lst (((List.range i).filter P).map f))) ⟨same_new nD, upd_same⟩
    (fun i H hi p => fm_step nD (by omega) p (hs i hi)) (fun H p => hd H p.1 p.2)
def all1 : Nat → Bool := fun _ => true
theorem rg_all1 (n : Nat) : (List.range n).filter all1 = List.range n := List.filter_eq_self.mpr fun _ _ => rfl
/-- a turn without a test -/
theorem fm_one {f : Nat → V} {i : Nat} {x : V} (mono : ∀ {x σ H A B}, (∀ s h, A s h → B s h) → g x σ H A → g x σ H B) (hs : ∀ (H : Hp), Same H1 H → ∀ (R : V → Hp → Prop), (∀ H', Same H H' → R (f i) H') → g x (wipe σ vs) H fun σ2 H2 => wipe σ2 vs = wipe σ vs ∧ te σ2 H2 R) : FmTurn all1 f g tYes te vs σ H1 i x :=
  fun H s R R0 h => mono (fun s2 h2 z => ⟨z.1, by
    have e : tYes s2 h2 (fun b H3 => if b = true then te s2 H3 R else R0 H3) = (if true = true then te s2 h2 R else R0 h2) := rfl
    rw [e, if_pos rfl]; exact z.2⟩) (hs H s R (fun H' s' => (h H' s').1 rfl))
theorem gName_mono' {i : Nat} {x : V} {σ : L2.St} {H : Hp} {A B : L2.St → Hp → Prop} (h : ∀ s h, A s h → B s h) (z : gName i x σ H A) : gName i x σ H B := h _ _ z
/-- the items of a list, by their places -/
theorem rg_map {α : Type} {l : List α} {f : Nat → V} {v : α → V} (h : ∀ i x, l[i]? = some x → f i = v x) : (List.range l.length).map f = l.map v := by
  apply List.ext_getElem?
  intro i
  rw [List.getElem?_map, List.getElem?_map]
  by_cases c : i < l.length
  · rw [List.getElem?_range c, List.getElem?_eq_getElem c]
    show some (f i) = some (v l[i])
    rw [h i l[i] (List.getElem?_eq_getElem c)]
  · rw [List.getElem?_eq_none (by rw [List.length_range]; omega), List.getElem?_eq_none (by omega)]; rfl
theorem rg_filt {α : Type} {f : Nat → V} {v : α → V} {P : Nat → Bool} {Q : α → Bool} : ∀ {l : List α}, (∀ i x, l[i]? = some x → P i = Q x ∧ f i = v x) → ((List.range l.length).filter P).map f = (l.filter Q).map v := by
  intro l h
  have key : ∀ m, m ≤ l.length → ((List.range m).filter P).map f = ((l.take m).filter Q).map v := by
    intro m
    induction m with
    | zero => intro _; simp
    | succ m ih =>
      intro hm
      obtain ⟨e1, e2⟩ := h m l[m] (List.getElem?_eq_getElem (by omega))
      rw [rgm_succ, ih (by omega), List.take_add_one, List.getElem?_eq_getElem (show m < l.length by omega), List.filter_append, List.map_append]
      congr 1
      by_cases c : P m = true
      · rw [if_pos c]
        rw [e1] at c
        simp [c, e2]
      · rw [if_neg c]
        rw [e1] at c
        simp [c]
  have := key l.length (Nat.le_refl _)
  rwa [List.take_length] at this
end
end Kf

set_option Elab.async false
set_option linter.all false
set_option maxRecDepth 100000
set_option maxHeartbeats 4000000
/-! Heaps of which all but the tables stays. -/
namespace Kf
open PySem PySem.Spec PyProof.Rows L2 Kg Kd LamX
/-- all but tables stays as it was, and the tables of T go on -/
def Gr (T : List (Addr × Str)) (H H' : Hp) : Prop := ExtN H H' ∧ (Tabs T H → Tabs T H')
theorem Gr.refl (T : List (Addr × Str)) (H : Hp) : Gr T H H := ⟨.refl H, id⟩
theorem Gr.trans {T : List (Addr × Str)} {H H1 H2 : Hp} (a : Gr T H H1) (b : Gr T H1 H2) : Gr T H H2 := ⟨a.1.trans b.1, fun t => b.2 (a.2 t)⟩
theorem Gr.of {T : List (Addr × Str)} {H H' : Hp} (s : Same H H') : Gr T H H' := ⟨.of s, fun t => t.ext s⟩
theorem Gr.thn {T : List (Addr × Str)} {H H1 H2 : Hp} (a : Gr T H H1) (b : Same H1 H2) : Gr T H H2 := a.trans (.of b)
theorem Gr.aft {T : List (Addr × Str)} {H H1 H2 : Hp} (a : Same H H1) (b : Gr T H1 H2) : Gr T H H2 := Gr.trans (.of a) b
theorem Gr.tup {T : List (Addr × Str)} {H H' : Hp} (g : Gr T H H') {a : Addr} {xs : List V} (h : H a = some (.tup xs)) : H' a = some (.tup xs) := g.1 _ _ h fun _ z => nomatch z
theorem Gr.lst {T : List (Addr × Str)} {H H' : Hp} (g : Gr T H H') {a : Addr} {xs : List V} (h : H a = some (.lst xs)) : H' a = some (.lst xs) := g.1 _ _ h fun _ z => nomatch z
theorem Gr.ins {T : List (Addr × Str)} {H H' : Hp} (g : Gr T H H') {a C dx : Addr} {fs : List (Str × V)} (h : H a = some (.ins C dx fs)) : H' a = some (.ins C dx fs) := g.1 _ _ h fun _ z => nomatch z
theorem Gr.kf {T : List (Addr × Str)} {H H' : Hp} (g : Gr T H H') : KF H H' := fun a o h f => g.1 a o h fun ps z => by rw [z] at f; exact f
mutual
theorem da_ext {av : Addr → Prop} {H H' : Hp} (k : ExtN H H') : ∀ {v : V} {d : PyData}, Da av H v d → Da av H' v d
  | _, _, .non => .non
  | _, _, .bl b => .bl b
  | _, _, .int i => .int i
  | _, _, .str x => .str x
  | _, _, .lst n h z r => .lst n (k _ _ h fun _ y => nomatch y) z (das_ext k r)
  | _, _, .tup n h z r => .tup n (k _ _ h fun _ y => nomatch y) z (das_ext k r)
  | _, _, .dc0 n h => .dc0 n (k _ _ h fun _ y => nomatch y)
  | _, _, .dc1 n h => .dc1 n (k _ _ h fun _ y => nomatch y)
theorem das_ext {av : Addr → Prop} {H H' : Hp} (k : ExtN H H') : ∀ {vs : List V} {ds : List PyData}, DaAll av H vs ds → DaAll av H' vs ds
  | _, _, .nil => .nil
  | _, _, .cons h r => .cons (da_ext k h) (das_ext k r)
end
theorem Gr.da {T : List (Addr × Str)} {H H' : Hp} {av : Addr → Prop} {v : V} {d : PyData} (g : Gr T H H') (h : Da av H v d) : Da av H' v d := da_ext g.1 h
theorem Gr.tu {T : List (Addr × Str)} {H H' : Hp} {v : V} {d : PyData} (g : Gr T H H') (h : Tu H v d) : Tu H' v d := h.keep g.kf
theorem Gr.tus {T : List (Addr × Str)} {H H' : Hp} {v : List V} {d : List PyData} (g : Gr T H H') (h : TuAll H v d) : TuAll H' v d := h.keep g.kf
/-- what changes lists alone leaves tables -/
theorem tabs_keep {T : List (Addr × Str)} {ds : Addr → Prop} {H H' : Hp} (k : Keep ds H H') (hd : ∀ a, ds a → ∃ xs, H a = some (.lst xs)) (t : Tabs T H) : Tabs T H' := by
  intro p hp
  obtain ⟨ps, h1, h2, h3⟩ := t p hp
  refine ⟨ps, k _ _ h1 fun z => ?_, h2, fun pos cv hc => ?_⟩
  · obtain ⟨xs, e⟩ := hd _ z
    rw [h1] at e; cases e
  · obtain ⟨c, e1, e2⟩ := h3 pos cv hc
    refine ⟨c, e1, k _ _ e2 fun z => ?_⟩
    obtain ⟨xs, e⟩ := hd _ z
    rw [e2] at e
    unfold CodeO at e
    cases e
/-- what was put at a place where nothing but a table may have stood -/
theorem ne_gr {T : List (Addr × Str)} {H H1 : Hp} {p b : Addr} {o : HO} (g : Gr T H H1) (n : H1 p = none) (h : H b = some o) (z : ∀ ps, o ≠ .tbl ps) : b ≠ p := fun e => by
  have y := g.1 _ _ h z
  rw [e, n] at y; cases y
/-- one more list item at D, which was new -/
theorem Gr.putL {T : List (Addr × Str)} {H H1 H2 : Hp} {D : Addr} {xs : List V} {u : HO} (n : H D = none) (g : Gr T H H1) (h : H1 D = some (.lst xs)) : Gr T H (upd H1 D u) := by
  refine ⟨fun b o e z => ?_, fun t => tabs_keep (ds := fun a => a = D) (Keep.put rfl) (fun a z => ⟨xs, by rw [z]; exact h⟩) (g.2 t)⟩
  rw [upd_ne (ne_of_none e n)]; exact g.1 b o e z
end Kf
namespace Kf
open PySem PySem.Spec PyProof.Rows L2 Kg Kd LamX
theorem tabs_put {T : List (Addr × Str)} {H : Hp} {D : Addr} {o u : HO} (h : H D = some o) (n1 : ∀ ps, o ≠ .tbl ps) (n2 : ∀ φ, o ≠ .ext φ) (t : Tabs T H) : Tabs T (upd H D u) := by
  intro p hp
  obtain ⟨ps, h1, h2, h3⟩ := t p hp
  refine ⟨ps, ?_, h2, fun pos cv hc => ?_⟩
  · rw [upd_ne fun z => n1 ps (by rw [z, h] at h1; exact Option.some.inj h1)]; exact h1
  · obtain ⟨c, e1, e2⟩ := h3 pos cv hc
    refine ⟨c, e1, ?_⟩
    rw [upd_ne fun z => n2 _ (by rw [z, h] at e2; exact Option.some.inj e2)]; exact e2
theorem Gr.putD {T : List (Addr × Str)} {H H1 : Hp} {D : Addr} {kvs : List (List Key × V)} {u : HO} (n : H D = none) (g : Gr T H H1) (h : H1 D = some (.dT kvs)) : Gr T H (upd H1 D u) :=
  ⟨fun b o e z => by rw [upd_ne (ne_of_none e n)]; exact g.1 b o e z, fun t => tabs_put h (fun _ z => nomatch z) (fun _ z => nomatch z) (g.2 t)⟩
end Kf

set_option Elab.async false
set_option linter.all false
set_option maxRecDepth 100000
set_option maxHeartbeats 4000000
/-! Tuples of kinds read off the heap; sorted lists of them. -/
namespace Kf
open PySem PySem.Spec PyProof.Rows L2 Kg Kd LamX
def toN : V → Nat
  | .int i => i.toNat
  | _ => 0
def dec (H : Hp) : V → List Nat
  | .ref t => match H t with
    | some (.tup vs) => vs.map toN
    | _ => []
  | _ => []
theorem dec_at {H : Hp} {t : Addr} {l : List Nat} (h : H t = some (.tup (l.map iV))) : dec H (.ref t) = l := by
  simp only [dec, h]
  rw [List.map_map]
  exact (List.map_congr_left (fun x _ => (by show ((x : Nat) : Int).toNat = x; omega))).trans (List.map_id _)
theorem dec_tu {H : Hp} {x : V} {l : List Nat} (h : Tu H x (pdI l)) : dec H x = l := by
  obtain ⟨a, rfl, ha, _⟩ := tu_inv h
  exact dec_at ha
theorem dec_tus {H : Hp} : ∀ {xs : List V} {ls : List (List Nat)}, TuAll H xs (ls.map pdI) → xs.map (dec H) = ls
  | [], [], _ => rfl
  | x :: xs, l :: ls, .cons h r => by rw [List.map_cons, dec_tu h, dec_tus r]
theorem tus_of {H : Hp} : ∀ {ys : List V}, (∀ y ∈ ys, Tu H y (pdI (dec H y))) → TuAll H ys ((ys.map (dec H)).map pdI)
  | [], _ => .nil
  | y :: ys, h => .cons (h y (List.mem_cons_self ..)) (tus_of fun z hz => h z (List.mem_cons_of_mem _ hz))
theorem tus_mem {H : Hp} : ∀ {xs : List V} {ls : List (List Nat)}, TuAll H xs (ls.map pdI) → ∀ x ∈ xs, Tu H x (pdI (dec H x))
  | [], [], _, _, hx => nomatch hx
  | x :: xs, l :: ls, .cons h r, y, hy => by
    rcases List.mem_cons.mp hy with e | e
    · rw [e, dec_tu h]; exact h
    · exact tus_mem r y e
theorem tus_ref {H : Hp} {xs : List V} {ls : List (List Nat)} (h : TuAll H xs (ls.map pdI)) : ∀ x ∈ xs, ∃ a, x = V.ref a := fun x hx => by
  obtain ⟨a, e, _⟩ := tu_inv (tus_mem h x hx)
  exact ⟨a, e⟩
theorem dec_sorted {α : Type} {H : Hp} {xs ys : List V} {ls : List (List Nat)} {g : List Nat → α} {lt : α → α → Bool} (tri : ∀ a b, a = b ∨ lt a b = true ∨ lt b a = true) (inj : ∀ a b, g a = g b → a = b) (hx : TuAll H xs (ls.map pdI)) (nd : ls.Nodup)
    (srt : ys.Pairwise (fun x y => lt (g (dec H y)) (g (dec H x)) = false)) (pm : ys.Perm xs) : ∃ ms : List (List Nat), TuAll H ys (ms.map pdI) ∧ ms.Pairwise (fun a b => lt (g a) (g b) = true) ∧ (∀ l, l ∈ ms ↔ l ∈ ls) ∧ ms.length = ls.length := by
  have p2 : (ys.map (dec H)).Perm ls := by rw [← dec_tus hx]; exact pm.map _
  refine ⟨ys.map (dec H), tus_of fun y hy => tus_mem hx y (pm.mem_iff.mp hy), ?_, fun l => p2.mem_iff, p2.length_eq⟩
  have nd2 : (ys.map (dec H)).Nodup := p2.nodup_iff.mpr nd
  refine List.pairwise_map.mpr (((List.pairwise_map.mp nd2).and srt).imp fun {a b} z => ?_)
  rcases tri (g (dec H a)) (g (dec H b)) with e | e | e
  · exact absurd (inj _ _ e) z.1
  · exact e
  · rw [z.2] at e; cases e
theorem lp_tri (a b : Int × List Int) : a = b ∨ Ku.lp a b = true ∨ Ku.lp b a = true := by
  rcases Ku.lx_tri (a.1 :: a.2) (b.1 :: b.2) with e | e | e
  · exact .inl (Prod.ext (List.cons.inj e).1 (List.cons.inj e).2)
  · exact .inr (.inl e)
  · exact .inr (.inr e)
/-- (len(l), l) -/
def gLen (l : List Nat) : Int × List Int := (((l.length : Nat) : Int), ci l)
theorem gLen_inj (a b : List Nat) (h : gLen a = gLen b) : a = b := ci_inj (Prod.mk.inj h).2
end Kf

set_option Elab.async false
set_option linter.all false
set_option maxRecDepth 100000
set_option maxHeartbeats 4000000
/-! Comprehensions over tuples and lists whose items are known as data; the number of lots. -/
namespace Kf
open PySem PySem.Spec PyProof.Rows L2 Kg Kd LamX
/-- one turn that tells b of the item, and y if b holds -/
def FmT (b : Bool) (y : V) (g : TG) (tt : TT) (te : TE) (vs : List Nat) (σ : L2.St) (H1 : Hp) (x : V) : Prop :=
  ∀ (H : Hp), Same H1 H → ∀ (R : V → Hp → Prop) (R0 : Hp → Prop), (∀ H', Same H H' → (b = true → R y H') ∧ (b = false → R0 H')) →
    g x (wipe σ vs) H fun σ2 H2 => wipe σ2 vs = wipe σ vs ∧ tt σ2 H2 fun b H3 => if b = true then te σ2 H3 R else R0 H3
section
variable {K : PySem.W.Frag} {a : Addr} {xs : List V} {g : TG} {tt : TT} {te : TE} {vs : List Nat} {σ : L2.St} {H1 : Hp} {D : Addr} {Qd : Hp → Prop} {n : Nat} {α : Type} {ls : List α}
def atB (ls : List α) (q : α → Bool) : Nat → Bool := fun i => match ls[i]? with | some e => q e | none => false
def atV (ls : List α) (v : α → V) : Nat → V := fun i => match ls[i]? with | some e => v e | none => .non
theorem atB_at {q : α → Bool} {i : Nat} {e : α} (h : ls[i]? = some e) : atB ls q i = q e := by simp only [atB, h]
theorem atV_at {v : α → V} {i : Nat} {e : α} (h : ls[i]? = some e) : atV ls v i = v e := by simp only [atV, h]
theorem rg_at (q : α → Bool) (v : α → V) : ((List.range ls.length).filter (atB ls q)).map (atV ls v) = (ls.filter q).map v := rg_filt fun i x h => ⟨atB_at h, atV_at h⟩
theorem fmt_turn {q : α → Bool} {v : α → V} {i : Nat} {x : V} {e : α} (h : ls[i]? = some e) (z : FmT (q e) (v e) g tt te vs σ H1 x) : FmTurn (atB ls q) (atV ls v) g tt te vs σ H1 i x := by
  intro H s R R0 hR
  refine z H s R R0 fun H' s' => ?_
  have y := hR H' s'
  rw [atB_at h, atV_at h] at y
  exact y
/-- a turn without a test -/
theorem fmt_one {y x : V} (mono : ∀ {x σ H A B}, (∀ s h, A s h → B s h) → g x σ H A → g x σ H B) (hs : ∀ (H : Hp), Same H1 H → ∀ (R : V → Hp → Prop), (∀ H', Same H H' → R y H') → g x (wipe σ vs) H fun σ2 H2 => wipe σ2 vs = wipe σ vs ∧ te σ2 H2 R) : FmT true y g tYes te vs σ H1 x :=
  fun H s R R0 h => mono (fun s2 h2 z => ⟨z.1, by
    have e : tYes s2 h2 (fun b H3 => if b = true then te s2 H3 R else R0 H3) = (if true = true then te s2 h2 R else R0 h2) := rfl
    rw [e, if_pos rfl]; exact z.2⟩) (hs H s R (fun H' s' => (h H' s').1 rfl))
theorem filt_all (l : List α) : l.filter (fun _ => true) = l := List.filter_eq_self.mpr fun _ _ => rfl
theorem lc_tI (q : α → Bool) (v : α → V) (nD : H1 D = none) (hn : xs.length ≤ 900) (ha : H1 a = some (.tup xs)) (hl : xs.length = ls.length) (hs : ∀ (i : Nat) (x : V) (e : α), xs[i]? = some x → ls[i]? = some e → FmT (q e) (v e) g tt te vs σ H1 x)
    (hd : ∀ H, Same H1 H → H D = some (.lst ((ls.filter q).map v)) → Qd H) :
    ∃ W : Nat → Nat → Hp → Prop, (∃ m, W 0 m (upd H1 D (.lst []))) ∧ ∀ i m H, W i m H →
      ((Itt K a).stop i H ∧ Qd H) ∨ ((Itt K a).go i H ∧ ∃ Nx : Hp → Prop, (∀ H', Nx H' → ∃ m', m' < m ∧ W (i + 1) m' H') ∧ ∀ x H', (Itt K a).yld i H x H' → g x (wipe σ vs) H' fun σ2 H2 => wipe σ2 vs = wipe σ vs ∧ tt σ2 H2 fun b H3 =>
        if b = true then te σ2 H3 fun y H4 => ∃ acc, H4 D = some (.lst acc) ∧ acc.length < sizeLine ∧ Nx (upd H4 D (.lst (acc ++ [y]))) else Nx H3) :=
  lc_tfm (atB ls q) (atV ls v) nD hn ha (fun i x hx => by
    have hi : i < ls.length := by have := (List.getElem?_eq_some_iff.mp hx).1; omega
    exact fmt_turn (List.getElem?_eq_getElem hi) (hs i x _ hx (List.getElem?_eq_getElem hi))) (fun H s h => hd H s (by rw [hl, rg_at] at h; exact h))
theorem lc_lI (q : α → Bool) (v : α → V) (nD : H1 D = none) (hn : xs.length ≤ 900) (ha : H1 a = some (.lst xs)) (hl : xs.length = ls.length) (hs : ∀ (i : Nat) (x : V) (e : α), xs[i]? = some x → ls[i]? = some e → FmT (q e) (v e) g tt te vs σ H1 x)
    (hd : ∀ H, Same H1 H → H D = some (.lst ((ls.filter q).map v)) → Qd H) :
    ∃ W : Nat → Nat → Hp → Prop, (∃ m, W 0 m (upd H1 D (.lst []))) ∧ ∀ i m H, W i m H →
      ((Itl K a).stop i H ∧ Qd H) ∨ ((Itl K a).go i H ∧ ∃ Nx : Hp → Prop, (∀ H', Nx H' → ∃ m', m' < m ∧ W (i + 1) m' H') ∧ ∀ x H', (Itl K a).yld i H x H' → g x (wipe σ vs) H' fun σ2 H2 => wipe σ2 vs = wipe σ vs ∧ tt σ2 H2 fun b H3 =>
        if b = true then te σ2 H3 fun y H4 => ∃ acc, H4 D = some (.lst acc) ∧ acc.length < sizeLine ∧ Nx (upd H4 D (.lst (acc ++ [y]))) else Nx H3) :=
  lc_lfm (atB ls q) (atV ls v) nD hn ha (fun i x hx => by
    have hi : i < ls.length := by have := (List.getElem?_eq_some_iff.mp hx).1; omega
    exact fmt_turn (List.getElem?_eq_getElem hi) (hs i x _ hx (List.getElem?_eq_getElem hi))) (fun H s h => hd H s (by rw [hl, rg_at] at h; exact h))
/-! the items themselves -/
theorem tus_zip {H : Hp} {dd : α → PyData} : ∀ {xs : List V} {ls : List α}, TuAll H xs (ls.map dd) → ∀ (q : α → Bool), TuAll H (((xs.zip ls).filter fun p => q p.2).map fun p => p.1) ((ls.filter q).map dd)
  | [], [], _, q => .nil
  | x :: xs, l :: ls, .cons h r, q => by
    have z := tus_zip r q
    rw [List.zip_cons_cons, List.filter_cons, List.filter_cons]
    cases c : q l with
    | true => simp only [c, if_true, List.map_cons]; exact .cons h z
    | false => simpa [c] using z
theorem zip_get {i : Nat} {x : V} {e : α} (hx : xs[i]? = some x) (he : ls[i]? = some e) : (xs.zip ls)[i]? = some (x, e) := by
  rw [List.getElem?_zip_eq_some]; exact ⟨hx, he⟩
theorem lc_tS {dd : α → PyData} (q : α → Bool) (nD : H1 D = none) (hn : xs.length ≤ 900) (ha : H1 a = some (.tup xs)) (hx : TuAll H1 xs (ls.map dd)) (hs : ∀ (i : Nat) (x : V) (e : α), xs[i]? = some x → ls[i]? = some e → Tu H1 x (dd e) → FmT (q e) x g tt te vs σ H1 x)
    (hd : ∀ H ys, Same H1 H → H D = some (.lst ys) → TuAll H ys ((ls.filter q).map dd) → Qd H) :
    ∃ W : Nat → Nat → Hp → Prop, (∃ m, W 0 m (upd H1 D (.lst []))) ∧ ∀ i m H, W i m H →
      ((Itt K a).stop i H ∧ Qd H) ∨ ((Itt K a).go i H ∧ ∃ Nx : Hp → Prop, (∀ H', Nx H' → ∃ m', m' < m ∧ W (i + 1) m' H') ∧ ∀ x H', (Itt K a).yld i H x H' → g x (wipe σ vs) H' fun σ2 H2 => wipe σ2 vs = wipe σ vs ∧ tt σ2 H2 fun b H3 =>
        if b = true then te σ2 H3 fun y H4 => ∃ acc, H4 D = some (.lst acc) ∧ acc.length < sizeLine ∧ Nx (upd H4 D (.lst (acc ++ [y]))) else Nx H3) := by
  have hl : xs.length = ls.length := by rw [hx.length, List.length_map]
  refine lc_tI (ls := xs.zip ls) (fun p => q p.2) (fun p => p.1) nD hn ha (by rw [List.length_zip]; omega) (fun i x p hxi hp => ?_) (fun H s h => hd H _ s h ((tus_zip hx q).keep (.of_same s)))
  obtain ⟨x', e⟩ := p
  obtain ⟨h1, h2⟩ := List.getElem?_zip_eq_some.mp hp
  have ex : x' = x := Option.some.inj (h1.symm.trans hxi)
  subst ex
  obtain ⟨d, g1, g2⟩ := hx.get hxi
  rw [List.getElem?_map, h2] at g1
  cases g1
  exact hs i _ e hxi h2 g2
theorem lc_lS {dd : α → PyData} (q : α → Bool) (nD : H1 D = none) (hn : xs.length ≤ 900) (ha : H1 a = some (.lst xs)) (hx : TuAll H1 xs (ls.map dd)) (hs : ∀ (i : Nat) (x : V) (e : α), xs[i]? = some x → ls[i]? = some e → Tu H1 x (dd e) → FmT (q e) x g tt te vs σ H1 x)
    (hd : ∀ H ys, Same H1 H → H D = some (.lst ys) → TuAll H ys ((ls.filter q).map dd) → Qd H) :
    ∃ W : Nat → Nat → Hp → Prop, (∃ m, W 0 m (upd H1 D (.lst []))) ∧ ∀ i m H, W i m H →
      ((Itl K a).stop i H ∧ Qd H) ∨ ((Itl K a).go i H ∧ ∃ Nx : Hp → Prop, (∀ H', Nx H' → ∃ m', m' < m ∧ W (i + 1) m' H') ∧ ∀ x H', (Itl K a).yld i H x H' → g x (wipe σ vs) H' fun σ2 H2 => wipe σ2 vs = wipe σ vs ∧ tt σ2 H2 fun b H3 =>
        if b = true then te σ2 H3 fun y H4 => ∃ acc, H4 D = some (.lst acc) ∧ acc.length < sizeLine ∧ Nx (upd H4 D (.lst (acc ++ [y]))) else Nx H3) := by
  have hl : xs.length = ls.length := by rw [hx.length, List.length_map]
  refine lc_lI (ls := xs.zip ls) (fun p => q p.2) (fun p => p.1) nD hn ha (by rw [List.length_zip]; omega) (fun i x p hxi hp => ?_) (fun H s h => hd H _ s h ((tus_zip hx q).keep (.of_same s)))
  obtain ⟨x', e⟩ := p
  obtain ⟨h1, h2⟩ := List.getElem?_zip_eq_some.mp hp
  have ex : x' = x := Option.some.inj (h1.symm.trans hxi)
  subst ex
  obtain ⟨d, g1, g2⟩ := hx.get hxi
  rw [List.getElem?_map, h2] at g1
  cases g1
  exact hs i _ e hxi h2 g2
/-- [x for x, y in zip(xs, ys) if ..] of two lists -/
theorem lc_zS {b : Addr} {ys : List V} {dd : α → PyData} (q : α → Bool) (nD : H1 D = none) (hn : xs.length ≤ 900) (ha : H1 a = some (.lst xs)) (hb : H1 b = some (.lst ys)) (hx : TuAll H1 xs (ls.map dd)) (hy : ys.length = ls.length)
    (hs : ∀ (i : Nat) (x y : V) (e : α), xs[i]? = some x → ys[i]? = some y → ls[i]? = some e → Tu H1 x (dd e) → ∀ (H : Hp) (t : Addr), Same H1 H → H t = some (.tup [x, y]) → ∀ (R : V → Hp → Prop) (R0 : Hp → Prop), (∀ H', Same H H' → (q e = true → R x H') ∧ (q e = false → R0 H')) →
      g (.ref t) (wipe σ vs) H fun σ2 H2 => wipe σ2 vs = wipe σ vs ∧ tt σ2 H2 fun b H3 => if b = true then te σ2 H3 R else R0 H3)
    (hd : ∀ H zs, Same H1 H → H D = some (.lst zs) → TuAll H zs ((ls.filter q).map dd) → Qd H) :
    ∃ W : Nat → Nat → Hp → Prop, (∃ m, W 0 m (upd H1 D (.lst []))) ∧ ∀ i m H, W i m H →
      ((Itz K a b).stop i H ∧ Qd H) ∨ ((Itz K a b).go i H ∧ ∃ Nx : Hp → Prop, (∀ H', Nx H' → ∃ m', m' < m ∧ W (i + 1) m' H') ∧ ∀ x H', (Itz K a b).yld i H x H' → g x (wipe σ vs) H' fun σ2 H2 => wipe σ2 vs = wipe σ vs ∧ tt σ2 H2 fun b H3 =>
        if b = true then te σ2 H3 fun y H4 => ∃ acc, H4 D = some (.lst acc) ∧ acc.length < sizeLine ∧ Nx (upd H4 D (.lst (acc ++ [y]))) else Nx H3) := by
  have hl : xs.length = ls.length := by rw [hx.length, List.length_map]
  have zl : (xs.zip ls).length = xs.length := by rw [List.length_zip]; omega
  refine lc_it (walk_zip (K := K) (xs := xs) (ys := ys) (n := xs.length) (by omega)) (fun i H => Same H1 H ∧ H D = some (.lst (((List.range i).filter (atB (xs.zip ls) fun p => q p.2)).map (atV (xs.zip ls) fun p => p.1)))) ⟨same_new nD, upd_same⟩ (fun i H _ p => ⟨SqL.of (p.1 _ _ ha), SqL.of (p.1 _ _ hb)⟩) (fun i v H H' hi p yy => ?_) (fun H p => ?_)
  · obtain ⟨t, v1, v2, rfl, nT, rfl, f1, f2⟩ := yy
    have s' := same_new (o := HO.tup [v1, v2]) nT
    have he : ls[i]? = some ls[i] := List.getElem?_eq_getElem (by omega)
    have hz : (xs.zip ls)[i]? = some (v1, ls[i]) := zip_get f1 he
    obtain ⟨dx, g1, g2⟩ := hx.get f1
    rw [List.getElem?_map, he] at g1
    cases g1
    refine hs i v1 v2 _ f1 f2 he g2 _ t (p.1.trans s') upd_same _ _ (fun H2 s2 => ⟨fun c => ⟨_, s2 _ _ (s' _ _ p.2), ?_, fun bb o z => ?_, ?_⟩, fun c => ⟨p.1.trans (s'.trans s2), ?_⟩⟩)
    · have := rgm_len (atB (xs.zip ls) fun p => q p.2) (atV (xs.zip ls) fun p => p.1) i
      exact small1000 (by omega)
    · rw [upd_ne (ne_of_none z nD)]; exact s2 _ _ (s' _ _ (p.1 _ _ z))
    · rw [upd_same, rgm_succ, atB_at hz, atV_at hz, if_pos c]
    · rw [rgm_succ, atB_at hz, atV_at hz, if_neg (by rw [c]; exact Bool.false_ne_true), List.append_nil]
      exact s2 _ _ (s' _ _ p.2)
  · obtain ⟨s, h⟩ := p
    rw [← zl, rg_at] at h
    exact hd H _ s h ((tus_zip hx q).keep (.of_same s))
end
/-! ### the first that is so -/
theorem find_at {α : Type} {l : List α} {q : α → Bool} {i : Nat} {e : α} (h : ∀ z ∈ l.take i, q z = false) (he : l[i]? = some e) (qe : q e = true) : l.find? q = some e := by
  have hi : i < l.length := (List.getElem?_eq_some_iff.mp he).1
  have e1 : l = l.take i ++ e :: l.drop (i + 1) := by
    have : l.drop i = e :: l.drop (i + 1) := by
      obtain ⟨z1, z2⟩ := List.getElem?_eq_some_iff.mp he
      rw [List.drop_eq_getElem_cons z1, z2]
    rw [← this, List.take_append_drop]
  rw [e1, List.find?_append]
  have n : (l.take i).find? q = none := List.find?_eq_none.mpr fun z hz => by rw [h z hz]; exact Bool.false_ne_true
  rw [n, List.find?_cons_of_pos qe]; rfl
theorem find_no {α : Type} {l : List α} {q : α → Bool} (h : ∀ z ∈ l, q z = false) : l.find? q = none := List.find?_eq_none.mpr fun z hz => by rw [h z hz]; exact Bool.false_ne_true
theorem take_no {α : Type} {l : List α} {q : α → Bool} {i : Nat} {e : α} (h : ∀ z ∈ l.take i, q z = false) (he : l[i]? = some e) (qe : q e = false) : ∀ z ∈ l.take (i + 1), q z = false := by
  intro z hz
  rw [List.take_add_one, he] at hz
  rcases List.mem_append.mp hz with y | y
  · exact h z y
  · rw [show z = e from List.mem_singleton.mp y]; exact qe
theorem find_hd {α : Type} (l : List α) (q : α → Bool) : (l.filter q).head? = l.find? q := by
  induction l with
  | nil => rfl
  | cons a r ih =>
    rw [List.filter_cons, List.find?_cons]
    cases q a with
    | true => rfl
    | false => simpa using ih
/-! ### how many lots there are -/
theorem IsLots.nodup {es : List (List Nat)} {cl ho : List Nat} {sv : Bool} {ls : List (List Nat)} (h : IsLots es cl ho sv ls) : ls.Nodup := by
  obtain ⟨A, B, rfl, P⟩ := h
  refine List.nodup_append.mpr ⟨nodup_ord (fun a => lxN_irrefl a) P.oa, ?_, fun a ha b hb e => ?_⟩
  · refine List.pairwise_map.mpr (List.Pairwise.imp_of_mem (fun {p q} hp hq z e => ?_) P.ob)
    have l1 := (P.mb p).mp hp
    have l2 := (P.mb q).mp hq
    obtain ⟨_, ⟨k1, a1, a2, a3, a4, a5⟩, m1⟩ := l1
    obtain ⟨_, ⟨k2, b1, b2, b3, b4, b5⟩, m2⟩ := l2
    have e1 : p.1 = q.1 := by
      have := m1 k2 b1 b2 b3 (b4.trans e.symm)
      have := m2 k1 a1 a2 a3 (a4.trans e)
      omega
    have : p = q := Prod.ext e1 e
    rw [this, lpN_irrefl] at z
    cases z
  · obtain ⟨p, hp, e2⟩ := List.mem_map.mp hb
    have l1 := ((P.mb p).mp hp).1
    have k1 := (P.ma a).mp ha
    rw [e2, ← e] at l1
    rw [l1] at k1
    cases k1
theorem IsLots.len63 {es : List (List Nat)} {cl ho : List Nat} {sv : Bool} {ls : List (List Nat)} (n6 : es.length ≤ 6) (h : IsLots es cl ho sv ls) : ls.length ≤ 63 := by
  have hs : ∀ l ∈ ls, l ∈ ((List.range 63).map fun i => ksOf es.length (i + 1)) := fun l hl => by
    obtain ⟨so, ne⟩ := h.som hl
    obtain ⟨c, hc, rfl⟩ := ksOf_all so
    have : 2 ^ es.length ≤ 2 ^ 6 := Nat.pow_le_pow_right (by decide) n6
    have c0 : c ≠ 0 := fun z => ne (by rw [z, ksOf_zero])
    refine List.mem_map.mpr ⟨c - 1, List.mem_range.mpr (by omega), ?_⟩
    show ksOf es.length (c - 1 + 1) = _
    rw [show c - 1 + 1 = c by omega]
  have z := nodup_sub h.nodup hs
  rwa [List.length_map, List.length_range] at z
/-! ### the answers that are told -/
def ansL (c : Ch) (ls : List (List Nat)) : List Nat := (List.range 10).filter (fun a => ls.any (fun l => decide (c.answer l = a)))
theorem ansL_mem {c : Ch} {ls : List (List Nat)} {a n : Nat} (h : c.ok n) : a ∈ ansL c ls ↔ ∃ l ∈ ls, c.answer l = a := by
  unfold ansL
  rw [List.mem_filter, List.mem_range, List.any_eq_true]
  constructor
  · rintro ⟨_, l, h1, h2⟩; exact ⟨l, h1, of_decide_eq_true h2⟩
  · rintro ⟨l, h1, h2⟩
    have := Ch.answer_le (lot := l) h
    exact ⟨by omega, l, h1, decide_eq_true h2⟩
end Kf

set_option Elab.async false
set_option linter.all false
set_option maxRecDepth 100000
set_option maxHeartbeats 4000000
/-! Walks over a list or a tuple; trees without idle tests and without same sides. -/
namespace Kf
open PySem PySem.Spec PyProof.Rows L2 Kg Kd
def iSq (K : PySem.W.Frag) (tl : TE) : TI := fun σ H R => tl σ H fun x H1 => ∃ a xs, x = .ref a ∧ ((SqL K H1 a xs ∧ R (Itl K a) H1) ∨ (SqT K H1 a xs ∧ R (Itt K a) H1))
theorem pi_sq {X : Cx} {tg l : Expr} {tl : TE} (hl : PE X l tl) : PI X tg l (iSq X.K tl) := by
  refine ⟨fun pins s σ H R I h => ?_⟩
  refine thn (hl.run pins s σ H _ I h) fun v s1 ⟨x, H1, I1, r1, q1⟩ => ?_
  obtain ⟨a, xs, e, q⟩ := q1
  subst e
  cases r1
  rcases q with ⟨hq, q⟩ | ⟨hq, q⟩
  · obtain ⟨its, rv, p, hz⟩ := I1.list hq
    refine wpAny_pyIter_list p.isList ?_
    refine ⟨s1.heap.objs.size, [s1.heap.objs.size], _, _, H1, rfl, I1.kept (t' := s1.toks) fun b o e => Heap.get?_push_of_some _ e, turn_list a _, ⟨_, Heap.get?_push_size _ rfl, rfl, rfl⟩, fun b hb => ?_, q⟩
    have e : b = s1.heap.objs.size := by simpa using hb
    subst e
    exact I1.fpOk (Nat.le_refl _) (I1.hok.fresh (Nat.le_refl _))
  · obtain ⟨its, rv, p, hz⟩ := I1.tuple hq
    refine wpAny_pyIter_tuple (show s1.heap.IsTuple a its.toArray from p) ?_
    refine ⟨s1.heap.objs.size, [s1.heap.objs.size], _, _, H1, rfl, I1.kept (t' := s1.toks) fun b o e => Heap.get?_push_of_some _ e, turn_tuple a _, ⟨_, Heap.get?_push_size _ rfl, rfl, rfl⟩, fun b hb => ?_, q⟩
    have e : b = s1.heap.objs.size := by simpa using hb
    subst e
    exact I1.fpOk (Nat.le_refl _) (I1.hok.fresh (Nat.le_refl _))
/-- lots in a list or a tuple -/
def SqA (H : Hp) (a : Addr) (xs : List V) : Prop := H a = some (.lst xs) ∨ H a = some (.tup xs)
theorem SqA.same {H H' : Hp} {a : Addr} {xs : List V} (h : SqA H a xs) (s : Same H H') : SqA H' a xs := h.imp (s _ _) (s _ _)
def Tr.beq : Tr → Tr → Bool
  | .ans a, .ans b => a == b
  | .tst k y n, .tst k' y' n' => k == k' && (y.beq y' && n.beq n')
  | _, _ => false
theorem Tr.beq_iff : ∀ {t u : Tr}, t.beq u = true ↔ t = u
  | .ans a, .ans b => by
    show (a == b) = true ↔ _
    rw [beq_iff_eq]
    exact ⟨fun h => by rw [h], fun h => Tr.ans.inj h⟩
  | .ans _, .tst _ _ _ => ⟨fun h => (nomatch h), fun h => (nomatch h)⟩
  | .tst _ _ _, .ans _ => ⟨fun h => (nomatch h), fun h => (nomatch h)⟩
  | .tst k y n, .tst k' y' n' => by
    show (k == k' && (y.beq y' && n.beq n')) = true ↔ _
    rw [Bool.and_eq_true, Bool.and_eq_true, beq_iff_eq, Tr.beq_iff, Tr.beq_iff]
    constructor
    · rintro ⟨rfl, rfl, rfl⟩; rfl
    · intro h
      have := Tr.tst.inj h
      exact this
instance : DecidableEq Tr := fun _ _ => decidable_of_iff _ Tr.beq_iff
def wk (k : Nat) (ls : List (List Nat)) : List (List Nat) := ls.filter fun l => decide (k ∈ l)
def wo (k : Nat) (ls : List (List Nat)) : List (List Nat) := ls.filter fun l => !decide (k ∈ l)
theorem wk_len (k : Nat) (ls : List (List Nat)) : (wk k ls).length ≤ ls.length := List.length_filter_le ..
theorem wo_len (k : Nat) (ls : List (List Nat)) : (wo k ls).length ≤ ls.length := List.length_filter_le ..
theorem wk_nil {k : Nat} {ls : List (List Nat)} (h : wk k ls = []) : wo k ls = ls := List.filter_eq_self.mpr fun l hl => by
  have := List.filter_eq_nil_iff.mp h l hl
  simpa using this
theorem wo_nil {k : Nat} {ls : List (List Nat)} (h : wo k ls = []) : wk k ls = ls := List.filter_eq_self.mpr fun l hl => by
  have := List.filter_eq_nil_iff.mp h l hl
  simpa using this
theorem mem_wk {k : Nat} {ls : List (List Nat)} {l : List Nat} : l ∈ wk k ls ↔ l ∈ ls ∧ k ∈ l := by
  unfold wk; rw [List.mem_filter, decide_eq_true_iff]
theorem mem_wo {k : Nat} {ls : List (List Nat)} {l : List Nat} : l ∈ wo k ls ↔ l ∈ ls ∧ k ∉ l := by
  unfold wo; rw [List.mem_filter]; simp
namespace Tr
/-- a tree without the tests that all these lots answer the same -/
def cut : Tr → List (List Nat) → Tr
  | .ans a, _ => .ans a
  | .tst k y n, ls => if wo k ls = [] then y.cut (wk k ls) else if wk k ls = [] then n.cut (wo k ls) else .tst k (y.cut (wk k ls)) (n.cut (wo k ls))
/-- a tree without the tests whose sides are the same -/
def fold : Tr → Tr
  | .ans a => .ans a
  | .tst k y n => if y.fold = n.fold then y.fold else .tst k y.fold n.fold
theorem cut_dep : ∀ (t : Tr) (ls : List (List Nat)), (t.cut ls).dep ≤ t.dep
  | .ans _, _ => Nat.le_refl _
  | .tst k y n, ls => by
    have h1 := cut_dep y (wk k ls)
    have h2 := cut_dep n (wo k ls)
    have e : (Tr.tst k y n).dep = 1 + max y.dep n.dep := rfl
    rw [e, cut]
    split
    · omega
    · split
      · omega
      · show 1 + max _ _ ≤ _
        omega
theorem fold_dep : ∀ (t : Tr), t.fold.dep ≤ t.dep
  | .ans _ => Nat.le_refl _
  | .tst k y n => by
    have h1 := fold_dep y
    have h2 := fold_dep n
    have e : (Tr.tst k y n).dep = 1 + max y.dep n.dep := rfl
    rw [e, fold]
    split
    · omega
    · show 1 + max _ _ ≤ _
      omega
theorem cut_size : ∀ (t : Tr) (ls : List (List Nat)), (t.cut ls).size ≤ t.size
  | .ans _, _ => Nat.le_refl _
  | .tst k y n, ls => by
    have h1 := cut_size y (wk k ls)
    have h2 := cut_size n (wo k ls)
    have e : (Tr.tst k y n).size = 1 + y.size + n.size := rfl
    rw [e, cut]
    split
    · omega
    · split
      · omega
      · show 1 + _ + _ ≤ _
        omega
theorem fold_size : ∀ (t : Tr), t.fold.size ≤ t.size
  | .ans _ => Nat.le_refl _
  | .tst k y n => by
    have h1 := fold_size y
    have h2 := fold_size n
    have e : (Tr.tst k y n).size = 1 + y.size + n.size := rfl
    rw [e, fold]
    split
    · omega
    · show 1 + _ + _ ≤ _
      omega
theorem cut_ok {m : Nat} : ∀ {t : Tr} {ls : List (List Nat)}, t.ok m → (t.cut ls).ok m
  | .ans _, _, h => h
  | .tst k y n, ls, h => by
    have h1 := cut_ok (ls := wk k ls) h.2.1
    have h2 := cut_ok (ls := wo k ls) h.2.2
    rw [cut]
    split
    · exact h1
    · split
      · exact h2
      · exact ⟨h.1, h1, h2⟩
theorem fold_ok {m : Nat} : ∀ {t : Tr}, t.ok m → t.fold.ok m
  | .ans _, h => h
  | .tst k y n, h => by
    have h1 := fold_ok h.2.1
    have h2 := fold_ok h.2.2
    rw [fold]
    split
    · exact h1
    · exact ⟨h.1, h1, h2⟩
theorem cut_ans : ∀ (t : Tr) {ls : List (List Nat)} {l : List Nat}, l ∈ ls → (t.cut ls).answer l = t.answer l
  | .ans _, _, _, _ => rfl
  | .tst k y n, ls, l, h => by
    have e : (Tr.tst k y n).answer l = if k ∈ l then y.answer l else n.answer l := rfl
    rw [e, cut]
    by_cases c : k ∈ l
    · have m := mem_wk.mpr ⟨h, c⟩
      rw [if_pos c]
      split
      · exact cut_ans y m
      · split
        · next z => rw [z] at m; cases m
        · show (if k ∈ l then _ else _) = _
          rw [if_pos c]; exact cut_ans y m
    · have m := mem_wo.mpr ⟨h, c⟩
      rw [if_neg c]
      split
      · next z => rw [z] at m; cases m
      · split
        · exact cut_ans n m
        · show (if k ∈ l then _ else _) = _
          rw [if_neg c]; exact cut_ans n m
theorem fold_ans (l : List Nat) : ∀ t : Tr, t.fold.answer l = t.answer l
  | .ans _ => rfl
  | .tst k y n => by
    have e : (Tr.tst k y n).answer l = if k ∈ l then y.answer l else n.answer l := rfl
    rw [e, fold]
    split
    · next z =>
      rw [fold_ans l y, ← fold_ans l n, ← z, fold_ans l y]
      split <;> rfl
    · show (if k ∈ l then _ else _) = _
      rw [fold_ans l y, fold_ans l n]
/-- each test has lots on both sides -/
def good : Tr → List (List Nat) → Prop
  | .ans _, _ => True
  | .tst k y n, ls => wk k ls ≠ [] ∧ wo k ls ≠ [] ∧ y.good (wk k ls) ∧ n.good (wo k ls)
/-- no test has the same sides -/
def norm : Tr → Prop
  | .ans _ => True
  | .tst _ y n => y ≠ n ∧ y.norm ∧ n.norm
theorem good_cut : ∀ (t : Tr) (ls : List (List Nat)), (t.cut ls).good ls
  | .ans _, _ => trivial
  | .tst k y n, ls => by
    rw [cut]
    split
    · next z => rw [wo_nil z]; exact good_cut y ls
    · split
      · next z => rw [wk_nil z]; exact good_cut n ls
      · next z1 z2 => exact ⟨z2, z1, good_cut y _, good_cut n _⟩
theorem good_mono : ∀ {t : Tr} {ls ms : List (List Nat)}, t.good ls → (∀ l ∈ ls, l ∈ ms) → t.good ms
  | .ans _, _, _, _, _ => trivial
  | .tst k y n, ls, ms, h, s => by
    have a1 : ∀ l ∈ wk k ls, l ∈ wk k ms := fun l hl => mem_wk.mpr ⟨s l (mem_wk.mp hl).1, (mem_wk.mp hl).2⟩
    have a2 : ∀ l ∈ wo k ls, l ∈ wo k ms := fun l hl => mem_wo.mpr ⟨s l (mem_wo.mp hl).1, (mem_wo.mp hl).2⟩
    refine ⟨fun z => ?_, fun z => ?_, good_mono h.2.2.1 a1, good_mono h.2.2.2 a2⟩
    · obtain ⟨l, hl⟩ := List.exists_mem_of_ne_nil _ h.1
      have := a1 l hl
      rw [z] at this; cases this
    · obtain ⟨l, hl⟩ := List.exists_mem_of_ne_nil _ h.2.1
      have := a2 l hl
      rw [z] at this; cases this
theorem good_fold : ∀ {t : Tr} {ls : List (List Nat)}, t.good ls → t.fold.good ls
  | .ans _, _, _ => trivial
  | .tst k y n, ls, h => by
    rw [fold]
    split
    · exact good_mono (good_fold h.2.2.1) fun l hl => (mem_wk.mp hl).1
    · exact ⟨h.1, h.2.1, good_fold h.2.2.1, good_fold h.2.2.2⟩
theorem cut_good : ∀ {t : Tr} {ls : List (List Nat)}, t.good ls → t.cut ls = t
  | .ans _, _, _ => rfl
  | .tst k y n, ls, h => by
    rw [cut, if_neg h.2.1, if_neg h.1, cut_good h.2.2.1, cut_good h.2.2.2]
theorem norm_fold : ∀ t : Tr, t.fold.norm
  | .ans _ => trivial
  | .tst k y n => by
    rw [fold]
    split
    · exact norm_fold y
    · next z => exact ⟨z, norm_fold y, norm_fold n⟩
theorem fold_norm : ∀ {t : Tr}, t.norm → t.fold = t
  | .ans _, _ => rfl
  | .tst k y n, h => by
    rw [fold, fold_norm h.2.1, fold_norm h.2.2, if_neg h.1]
end Tr
def trimT (ls : List (List Nat)) (t : Tr) : Tr := if ls = [] then t.fold else (t.cut ls).fold
/-- trimmed once more it stays -/
theorem trim_again {ls : List (List Nat)} (h : ls ≠ []) (t : Tr) : trimT ls (trimT ls t) = trimT ls t := by
  unfold trimT
  rw [if_neg h, if_neg h, Tr.cut_good (Tr.good_fold (Tr.good_cut t ls)), Tr.fold_norm (Tr.norm_fold _)]
theorem trim_ans {ls : List (List Nat)} {l : List Nat} (h : l ∈ ls) (t : Tr) : (trimT ls t).answer l = t.answer l := by
  unfold trimT
  rw [if_neg (fun z => by rw [z] at h; cases h), Tr.fold_ans, Tr.cut_ans t h]
theorem trim_dep (ls : List (List Nat)) (t : Tr) : (trimT ls t).dep ≤ t.dep := by
  unfold trimT
  split
  · exact Tr.fold_dep t
  · exact Nat.le_trans (Tr.fold_dep _) (Tr.cut_dep t ls)
theorem trim_size (ls : List (List Nat)) (t : Tr) : (trimT ls t).size ≤ t.size := by
  unfold trimT
  split
  · exact Tr.fold_size t
  · exact Nat.le_trans (Tr.fold_size _) (Tr.cut_size t ls)
theorem trim_ok {ls : List (List Nat)} {m : Nat} {t : Tr} (h : t.ok m) : (trimT ls t).ok m := by
  unfold trimT
  split
  · exact Tr.fold_ok h
  · exact Tr.fold_ok (Tr.cut_ok h)
theorem eqv_tr : ∀ t u : Tr, PyData.eqv t.d u.d = decide (t = u)
  | .ans a, .ans b => by
    show PyData.eqv (.int _) (.int _) = _
    rw [PyData.eqv]
    by_cases c : a = b
    · subst c; simp
    · have : ¬ ((a : Nat) : Int) = (b : Nat) := by omega
      simp [c, this]
  | .ans _, .tst _ _ _ => by
    show PyData.eqv (.int _) (.tuple _) = _
    simp [PyData.eqv]
  | .tst _ _ _, .ans _ => by
    show PyData.eqv (.tuple _) (.int _) = _
    simp [PyData.eqv]
  | .tst k y n, .tst k' y' n' => by
    have h1 := eqv_tr y y'
    have h2 := eqv_tr n n'
    show PyData.eqv (.tuple [.int ((k : Nat) : Int), y.d, n.d]) (.tuple [.int ((k' : Nat) : Int), y'.d, n'.d]) = _
    simp only [PyData.eqv, PyData.eqvAll, h1, h2]
    by_cases c : k = k'
    · subst c; by_cases c1 : y = y' <;> by_cases c2 : n = n' <;> simp [c1, c2]
    · have : ¬ ((k : Nat) : Int) = (k' : Nat) := by omega
      simp [c, this]
theorem sh_tr {t : Tr} (h : t.dep ≤ 60) : SeqAt.shaped t.d = true := by
  unfold SeqAt.shaped
  rw [Bool.and_eq_true]
  exact ⟨Tr.d_lay t, decide_eq_true (by rw [Tr.d_dep]; omega)⟩
end Kf

set_option Elab.async false
set_option linter.all false
set_option maxRecDepth 100000
set_option maxHeartbeats 8000000
namespace Kc
open PySem PySem.Spec PyProof.Rows L2 Kg Kd Kr Kf Kl
abbrev sWk : Stmt := topS 15
abbrev nWk : List Str := ["some", "kind", "lot"]
theorem scWk : FnScope nWk ["some", "kind"] (defScope sWk) := ⟨rfl, rfl, rfl, by decide +kernel, rfl, by decide +kernel, by decide +kernel⟩
def spWk (pick : Nat → List (List Nat) → List (List Nat)) : Sp := fun vs H Q _ => ∃ (a : Addr) (xs : List V) (ls : List (List Nat)) (k : Nat), vs = [.ref a, .int ((k : Nat) : Int)] ∧ SqA H a xs ∧ TuAll H xs (ls.map pdI) ∧ ls.length ≤ 900 ∧
  ∀ H' D ys, Same H H' → H D = none → H' D = some (.lst ys) → TuAll H' ys ((pick k ls).map pdI) → Q (.ref D) H'
abbrev sWo : Stmt := topS 16
theorem scWo : FnScope nWk ["some", "kind"] (defScope sWo) := ⟨rfl, rfl, rfl, by decide +kernel, rfl, by decide +kernel, by decide +kernel⟩
section
variable {P : Program} {w : World} {K : PySem.W.Frag} {mg : Str → Option Value} {base : Heap} {f : Addr} {fd : FuncData} {k : Nat}
theorem ok_wk (F : Fun K "with_kind" "with_kind" sWk f fd) : FnOk P w K mg base CX0 (k + 1) f fd ["some", "kind"] (spWk wk) := by
  refine F.ok scWk (fun vs H Q E h => ?_) (fun cdv A outer s H vs Q E hr h => ?_)
  · obtain ⟨a, xs, ls, k, rfl, _⟩ := h
    rfl
  · obtain ⟨a, xs, ls, k, rfl, ha, hA, l9, q⟩ := h
    refine ⟨_, (pss_one (ps_ret (pe_lc (own := [("lot", 2)]) (g := (gName 2)) rfl scWk.nd (pi_sq (pv 0))
        (blkOk_by (N := nWk) (sc := defScope sWk) (by decide +kernel)) (fun _ _ _ _ _ => (pg_name (i := 2) scWk.nd rfl (.inl rfl))) (fun _ _ _ _ _ => pts_one (pt_cmpR (op_inK (K := K) rfl) (pv 1) (pv 2) rfl))
        (fun _ _ _ _ _ => (pv 2))))), ?_⟩
    have xl : xs.length = ls.length := by rw [hA.length, List.length_map]
    rcases ha with ha | ha
    · refine ⟨_, rfl, a, xs, rfl, .inl ⟨SqL.of ha, fun D nD => ?_⟩⟩
      refine lc_lS (K := K) (a := a) (xs := xs) (ls := ls) (dd := pdI) (fun l => decide (k ∈ l)) nD (by omega) ha hA (fun j x l hx hl tx => ?_) (fun H8 zs s8 hD tD => q H8 D zs s8 nD hD tD)
      intro H1 s1 R R0 hR
      obtain ⟨al, rfl, hal, _⟩ := tu_inv (tx.same s1)
      refine ⟨rfl, _, rfl, _, rfl, al, _, rfl, .inr (SqT.of hal), rfl, flat_iV _, _, rfl, ?_⟩
      have e : inV (.int ((k : Nat) : Int)) (l.map iV) = decide (k ∈ l) := inV_iV ..
      rw [e]
      have z := hR H1 (Same.refl H1)
      by_cases c : k ∈ l
      · refine iteD (decide_eq_true c) ⟨_, rfl, z.1 (decide_eq_true c)⟩
      · refine iteE (decide_eq_false c) (z.2 (decide_eq_false c))
    · refine ⟨_, rfl, a, xs, rfl, .inr ⟨SqT.of ha, fun D nD => ?_⟩⟩
      refine lc_tS (K := K) (a := a) (xs := xs) (ls := ls) (dd := pdI) (fun l => decide (k ∈ l)) nD (by omega) ha hA (fun j x l hx hl tx => ?_) (fun H8 zs s8 hD tD => q H8 D zs s8 nD hD tD)
      intro H1 s1 R R0 hR
      obtain ⟨al, rfl, hal, _⟩ := tu_inv (tx.same s1)
      refine ⟨rfl, _, rfl, _, rfl, al, _, rfl, .inr (SqT.of hal), rfl, flat_iV _, _, rfl, ?_⟩
      have e : inV (.int ((k : Nat) : Int)) (l.map iV) = decide (k ∈ l) := inV_iV ..
      rw [e]
      have z := hR H1 (Same.refl H1)
      by_cases c : k ∈ l
      · refine iteD (decide_eq_true c) ⟨_, rfl, z.1 (decide_eq_true c)⟩
      · refine iteE (decide_eq_false c) (z.2 (decide_eq_false c))
theorem ok_wo (F : Fun K "without_kind" "without_kind" sWo f fd) : FnOk P w K mg base CX0 (k + 1) f fd ["some", "kind"] (spWk wo) := by
  refine F.ok scWo (fun vs H Q E h => ?_) (fun cdv A outer s H vs Q E hr h => ?_)
  · obtain ⟨a, xs, ls, k, rfl, _⟩ := h
    rfl
  · obtain ⟨a, xs, ls, k, rfl, ha, hA, l9, q⟩ := h
    refine ⟨_, (pss_one (ps_ret (pe_lc (own := [("lot", 2)]) (g := (gName 2)) rfl scWo.nd (pi_sq (pv 0))
        (blkOk_by (N := nWk) (sc := defScope sWo) (by decide +kernel)) (fun _ _ _ _ _ => (pg_name (i := 2) scWo.nd rfl (.inl rfl))) (fun _ _ _ _ _ => pts_one (pt_cmpR (op_notInK (K := K) rfl) (pv 1) (pv 2) rfl))
        (fun _ _ _ _ _ => (pv 2))))), ?_⟩
    have xl : xs.length = ls.length := by rw [hA.length, List.length_map]
    rcases ha with ha | ha
    · refine ⟨_, rfl, a, xs, rfl, .inl ⟨SqL.of ha, fun D nD => ?_⟩⟩
      refine lc_lS (K := K) (a := a) (xs := xs) (ls := ls) (dd := pdI) (fun l => !decide (k ∈ l)) nD (by omega) ha hA (fun j x l hx hl tx => ?_) (fun H8 zs s8 hD tD => q H8 D zs s8 nD hD tD)
      intro H1 s1 R R0 hR
      obtain ⟨al, rfl, hal, _⟩ := tu_inv (tx.same s1)
      refine ⟨rfl, _, rfl, _, rfl, al, _, rfl, .inr (SqT.of hal), rfl, flat_iV _, _, rfl, ?_⟩
      have e : inV (.int ((k : Nat) : Int)) (l.map iV) = decide (k ∈ l) := inV_iV ..
      rw [e]
      have z := hR H1 (Same.refl H1)
      by_cases c : k ∈ l
      · refine iteE (by rw [decide_eq_true c]; rfl) (z.2 (by rw [decide_eq_true c]; rfl))
      · refine iteD (by rw [decide_eq_false c]; rfl) ⟨_, rfl, z.1 (by rw [decide_eq_false c]; rfl)⟩
    · refine ⟨_, rfl, a, xs, rfl, .inr ⟨SqT.of ha, fun D nD => ?_⟩⟩
      refine lc_tS (K := K) (a := a) (xs := xs) (ls := ls) (dd := pdI) (fun l => !decide (k ∈ l)) nD (by omega) ha hA (fun j x l hx hl tx => ?_) (fun H8 zs s8 hD tD => q H8 D zs s8 nD hD tD)
      intro H1 s1 R R0 hR
      obtain ⟨al, rfl, hal, _⟩ := tu_inv (tx.same s1)
      refine ⟨rfl, _, rfl, _, rfl, al, _, rfl, .inr (SqT.of hal), rfl, flat_iV _, _, rfl, ?_⟩
      have e : inV (.int ((k : Nat) : Int)) (l.map iV) = decide (k ∈ l) := inV_iV ..
      rw [e]
      have z := hR H1 (Same.refl H1)
      by_cases c : k ∈ l
      · refine iteE (by rw [decide_eq_true c]; rfl) (z.2 (by rw [decide_eq_true c]; rfl))
      · refine iteD (by rw [decide_eq_false c]; rfl) ⟨_, rfl, z.1 (by rw [decide_eq_false c]; rfl)⟩
end
end Kc

set_option Elab.async false
set_option linter.all false
set_option maxRecDepth 100000
set_option maxHeartbeats 4000000
namespace Kc
open PySem PySem.Spec PyProof.Rows L2 Kg Kd Kr
abbrev sIdx : Stmt := topS 4
abbrev sAsc : Stmt := topS 5
abbrev sEld : Stmt := topS 23
abbrev sWrE : Stmt := topS 24
abbrev sWrP : Stmt := topS 25
abbrev sTab : Stmt := topS 26
theorem scIdx : FnScope ["value", "limit"] ["value", "limit"] (defScope sIdx) := ⟨rfl, rfl, rfl, by decide +kernel, rfl, by decide +kernel, by decide +kernel⟩
theorem scAsc : FnScope ["value", "limit", "least", "item"] ["value", "limit"] (defScope sAsc) := ⟨rfl, rfl, rfl, by decide +kernel, rfl, by decide +kernel, by decide +kernel⟩
theorem scEld : FnScope ["value", "kind", "several"] ["value", "kind", "several"] (defScope sEld) := ⟨rfl, rfl, rfl, by decide +kernel, rfl, by decide +kernel, by decide +kernel⟩
theorem scWrE : FnScope ["elders", "several", "kind", "value"] ["elders", "several"] (defScope sWrE) := ⟨rfl, rfl, rfl, by decide +kernel, rfl, by decide +kernel, by decide +kernel⟩
theorem scWrP : FnScope ["elders", "closed", "hollow", "several", "kind"] ["elders", "closed", "hollow", "several"] (defScope sWrP) := ⟨rfl, rfl, rfl, by decide +kernel, rfl, by decide +kernel, by decide +kernel⟩
/-! ### mirrors -/
def idxB (d : PyData) (m : Int) : Bool := match d with
  | .int i => decide (0 ≤ i ∧ i < m)
  | _ => false
theorem idxB_non {d : PyData} {m : Int} (h : isNum d = false) : idxB d m = false := by
  cases d with
  | int i => exact nomatch h
  | _ => rfl
def asc (m : Int) : Int → List PyData → Bool
  | _, [] => true
  | l, .int i :: ds => if i < l ∨ m ≤ i then false else asc m (i + 1) ds
  | _, _ :: _ => false
def ascD (d : PyData) (m : Int) : Bool := match d with
  | .tuple ds => asc m 0 ds
  | _ => false
def lenD : PyData → Nat
  | .tuple ds => ds.length
  | _ => 0
def eldB (d : PyData) (k : Int) (sv : Bool) : Bool := ascD d k && (sv || decide (lenD d ≤ 1))
/-- sv: several is not False -/
def wrE (sv : Bool) : Nat → List PyData → Option Nat
  | _, [] => none
  | k, d :: ds => if eldB d k sv then wrE sv (k + 1) ds else some k
/-! ### promises -/
def spIdx : Sp := fun vs H Q _ => ∃ (v : V) (d : PyData) (m : Int), vs = [v, .int m] ∧ Da Kd.nil H v d ∧ Q (.bl (idxB d m)) H
def spAsc : Sp := fun vs H Q _ => ∃ (v : V) (d : PyData) (m : Int), vs = [v, .int m] ∧ Da Kd.nil H v d ∧ Q (.bl (ascD d m)) H
def spEld : Sp := fun vs H Q _ => ∃ (v : V) (d : PyData) (k : Int) (s : V), vs = [v, .int k, s] ∧ Da Kd.nil H v d ∧ Q (.bl (eldB d k (!decide (s = .bl false)))) H
def opN : Option Nat → V
  | none => .non
  | some k => .int (k : Nat)
def spWrE : Sp := fun vs H Q _ => ∃ (v : V) (ds : List PyData) (s : V), vs = [v, s] ∧ Da Kd.nil H v (.tuple ds) ∧ ∀ H', Same H H' → Q (opN (wrE (!decide (s = .bl false)) 0 ds)) H'
section
variable {P : Program} {w : World} {K : PySem.W.Frag} {mg : Str → Option Value} {base : Heap} {f : Addr} {fd : FuncData} {k : Nat}
theorem ok_idx {fN : Addr} {dN : FuncData} (F : Fun K "is_index" "is_index" sIdx f fd) (B : Bl mg) (FN : Fun K "is_number" "is_number" sNum fN dN) (bN : Binds K dN ["value"] []) (gN : mg "is_number" = some (.ref fN)) : FnOk P w K mg base CX0 (k + 2) f fd ["value", "limit"] spIdx := by
  have GN : FnOk P w K mg base CX0 (k + 1) fN dN ["value"] spNum := ok_num FN B
  refine F.ok scIdx (fun vs H Q E h => ?_) (fun cdv A outer s H vs Q E hr h => ?_)
  · obtain ⟨v, d, m, rfl, _⟩ := h
    rfl
  · obtain ⟨v, d, m, rfl, hd, q⟩ := h
    refine ⟨_, pss_one (ps_ret (pe_and (pe_call GN hr (by rfl) gN FN.kp bN .nil pass0 (pa_cons (pv 0) pa_nil)) (pe_one (pe_chain op_le op_lt pe_int (pv 0) (pv 1))))), ?_⟩
    refine ⟨_, rfl, v, d, rfl, hd, _, rfl, ?_⟩
    cases hi : isNum d with
    | false =>
      rw [idxB_non hi] at q
      exact iteF q
    | true =>
      cases d with
      | int i =>
        cases hd
        refine iteT ⟨_, rfl, 0, i, rfl, rfl, _, rfl, ?_⟩
        by_cases c1 : 0 ≤ i
        · rw [decide_eq_true c1]
          refine iteT ⟨_, rfl, i, m, rfl, rfl, ?_⟩
          have e : idxB (.int i) m = decide (i < m) := by show decide (0 ≤ i ∧ i < m) = _; simp [c1]
          rw [e] at q; exact q
        · rw [decide_eq_false c1]
          have e : idxB (.int i) m = false := by show decide (0 ≤ i ∧ i < m) = _; simp [c1]
          rw [e] at q; exact iteF q
      | _ => exact nomatch hi
theorem ok_asc {fI : Addr} {dI : FuncData} (F : Fun K "is_ascending" "is_ascending" sAsc f fd) (B : Bl mg) (GI : FnOk P w K mg base CX0 (k + 2) fI dI ["value", "limit"] spIdx) (kI : PySem.W.keepIn K (.ref fI) = true) (bI : Binds K dI ["value", "limit"] []) (gI : mg "is_index" = some (.ref fI)) : FnOk P w K mg base CX0 (k + 3) f fd ["value", "limit"] spAsc := by
  refine F.ok scAsc (fun vs H Q E h => ?_) (fun cdv A outer s H vs Q E hr h => ?_)
  · obtain ⟨v, d, m, rfl, _⟩ := h
    rfl
  · obtain ⟨v, d, m, rfl, hd, q⟩ := h
    refine ⟨_, pss_cons (ps_if (pt_not (pt_val (pe_callB call_isi (by rfl) B.isi boot_isinstance (pa_cons (pv 0) (pa_cons (pe_bltn (v := .ty "tuple") (by rfl) B.tuple PyProof.Rows.boot_tuple rfl) pa_nil))))) (pss_one (ps_ret pe_bl)) pss_nil)
      (pss_cons (ps_set (i := 2) scAsc.nd rfl (.inl rfl) pe_int)
      (pss_cons (ps_for PassesOwn.never rfl (pi_tup (pv 0)) (pg_name (i := 3) scAsc.nd rfl (.inl rfl))
        (pss_cons (ps_if (PW.pt (pw_or (pt_not (pt_val (pe_call GI hr (by rfl) gI kI bI .nil pass0 (pa_cons (pv 3) (pa_cons (pv 1) pa_nil))))) (pw_or1 (pt_cmpR op_lt (pv 3) (pv 2) (nomark _))))) (pss_one (ps_ret pe_bl)) pss_nil)
        (pss_one (ps_set (i := 2) scAsc.nd rfl (.inl rfl) (pe_op op_add (pv 3) pe_int)))))
      (pss_one (ps_ret pe_bl)))), ?_⟩
    refine ⟨_, rfl, _, _, _, _, isTup d, rfl, .ty _, hd.ty, kit_ty (kt_tup d), _, rfl, ?_⟩
    by_cases hb : isTup d = true
    · cases d with
      | tuple ds =>
        refine iteF ?_
        cases hd with
        | @tup a xs _ na ha hal hA =>
          refine ⟨_, rfl, a, rfl, ⟨_, SqT.of ha⟩, for_tup (K := K) (a := a) (xs := xs) (fun i σ H1 => ∃ (l : Int) (y3 : Option V), σ = [some (.ref a), some (.int m), some (.int l), y3] ∧ H1 = H ∧ 0 ≤ l ∧ asc m 0 ds = asc m l (ds.drop i))
            ⟨0, none, rfl, rfl, Int.le_refl 0, rfl⟩ (fun i σ H1 _ p => by obtain ⟨_, _, _, rfl, _⟩ := p; exact SqT.of ha) (fun i x σ H1 hx p => ?_) (fun σ H1 p => ?_)⟩
          · obtain ⟨l, y3, rfl, rfl, l0, e⟩ := p
            obtain ⟨dx, g1, g2⟩ := hA.get hx
            have hdrop : ds.drop i = dx :: ds.drop (i + 1) := by
              obtain ⟨z1, z2⟩ := List.getElem?_eq_some_iff.mp g1
              rw [List.drop_eq_getElem_cons z1, z2]
            rw [hdrop] at e
            refine ⟨_, rfl, _, rfl, x, dx, m, rfl, g2, _, rfl, ?_⟩
            have out : isNum dx = false → asc m l (dx :: ds.drop (i + 1)) = false := by
              intro z
              cases dx <;> first | rfl | exact nomatch z
            cases g2 with
            | int z =>
              by_cases c0 : 0 ≤ z ∧ z < m
              · refine iteE (by show (!decide (0 ≤ z ∧ z < m)) = false; rw [decide_eq_true c0]; rfl) ⟨_, rfl, _, rfl, z, l, rfl, rfl, _, rfl, ?_⟩
                by_cases c1 : z < l
                · rw [decide_eq_true c1]
                  refine iteT ?_
                  have e2 : ascD (.tuple ds) m = false := by
                    show asc m 0 ds = false
                    rw [e]; show (if z < l ∨ m ≤ z then false else _) = false
                    rw [if_pos (.inl c1)]
                  rw [e2] at q; exact q
                · rw [decide_eq_false c1]
                  refine iteF ⟨_, rfl, z, 1, rfl, rfl, ?_⟩
                  refine ⟨z + 1, _, rfl, rfl, by omega, ?_⟩
                  rw [e]; show (if z < l ∨ m ≤ z then false else _) = _
                  rw [if_neg (by omega)]
              · refine iteD (by show (!decide (0 ≤ z ∧ z < m)) = true; rw [decide_eq_false c0]; rfl) (iteT ?_)
                have e2 : ascD (.tuple ds) m = false := by
                  show asc m 0 ds = false
                  rw [e]; show (if z < l ∨ m ≤ z then false else _) = false
                  rw [if_pos (by omega)]
                rw [e2] at q; exact q
            | _ =>
              refine iteT (iteT ?_)
              have e2 : ascD (.tuple ds) m = false := by
                show asc m 0 ds = false
                rw [e]; exact out rfl
              rw [e2] at q; exact q
          · obtain ⟨l, y3, rfl, rfl, l0, e⟩ := p
            rw [hA.length, List.drop_length] at e
            have e2 : ascD (.tuple ds) m = true := e
            rw [e2] at q; exact q
      | _ => exact nomatch hb
    · rw [Bool.not_eq_true] at hb
      rw [hb]
      refine iteT ?_
      have e2 : ascD d m = false := by
        cases d with
        | tuple ds => exact nomatch hb
        | _ => rfl
      rw [e2] at q; exact q
theorem asc_tup {d : PyData} {m : Int} (h : ascD d m = true) : ∃ ds, d = .tuple ds := by
  cases d with
  | tuple ds => exact ⟨ds, rfl⟩
  | _ => exact nomatch h
theorem ok_eld {fA : Addr} {dA : FuncData} (F : Fun K "are_elders" "are_elders" sEld f fd) (B : Bl mg) (GA : FnOk P w K mg base CX0 3 fA dA ["value", "limit"] spAsc) (kA : PySem.W.keepIn K (.ref fA) = true) (bA : Binds K dA ["value", "limit"] []) (gA : mg "is_ascending" = some (.ref fA)) : FnOk P w K mg base CX0 4 f fd ["value", "kind", "several"] spEld := by
  refine F.ok scEld (fun vs H Q E h => ?_) (fun cdv A outer s H vs Q E hr h => ?_)
  · obtain ⟨v, d, m, sv, rfl, _⟩ := h
    rfl
  · obtain ⟨v, d, m, sv, rfl, hd, q⟩ := h
    refine ⟨_, pss_cons (ps_if (pt_not (pt_val (pe_call GA hr (by rfl) gA kA bA .nil pass0 (pa_cons (pv 0) (pa_cons (pv 1) pa_nil))))) (pss_one (ps_ret pe_bl)) pss_nil)
      (pss_one (ps_ret (pe_or (pe_cmpR op_notBv (pv 2) pe_bl (nomark _)) (pe_one (pe_cmpR op_le (pe_callB call_len_seq (by rfl) B.len PySem.boot_len (pa_cons (pv 0) pa_nil)) pe_int (nomark _)))))), ?_⟩
    refine ⟨_, rfl, _, rfl, v, d, m, rfl, hd, _, rfl, ?_⟩
    have e : eldB d m (!decide (sv = .bl false)) = (ascD d m && ((!decide (sv = .bl false)) || decide (lenD d ≤ 1))) := rfl
    rw [e] at q
    cases ha : ascD d m with
    | false =>
      rw [ha] at q
      exact iteT q
    | true =>
      rw [ha] at q
      refine iteF ⟨_, rfl, false, rfl, _, rfl, ?_⟩
      obtain ⟨ds, rfl⟩ := asc_tup ha
      cases hd with
      | @tup a xs _ na hx hal hA =>
        cases hs : (!decide (sv = .bl false)) with
        | true =>
          rw [hs] at q
          exact iteT q
        | false =>
          rw [hs] at q
          refine iteF ⟨_, rfl, a, xs, rfl, .inr (SqT.of hx), _, 1, rfl, rfl, ?_⟩
          have e3 : decide ((xs.length : Int) ≤ 1) = decide (lenD (.tuple ds) ≤ 1) := by
            have z := hA.length
            show _ = decide (ds.length ≤ 1)
            by_cases c : ds.length ≤ 1
            · rw [decide_eq_true c, decide_eq_true (by omega)]
            · rw [decide_eq_false c, decide_eq_false (by omega)]
          show Q (.bl (decide ((xs.length : Int) ≤ 1))) H
          rw [e3]
          exact q
theorem ok_wrE {fE : Addr} {dE : FuncData} (F : Fun K "wrong_elders" "wrong_elders" sWrE f fd) (me : mg "enumerate" = none) (GE : FnOk P w K mg base CX0 4 fE dE ["value", "kind", "several"] spEld) (kE : PySem.W.keepIn K (.ref fE) = true) (bE : Binds K dE ["value", "kind", "several"] []) (gE : mg "are_elders" = some (.ref fE)) : FnOk P w K mg base CX0 5 f fd ["elders", "several"] spWrE := by
  refine F.ok scWrE (fun vs H Q E h => ?_) (fun cdv A outer s H vs Q E hr h => ?_)
  · obtain ⟨v, ds, sv, rfl, _⟩ := h
    rfl
  · obtain ⟨v, ds, sv, rfl, hd, q⟩ := h
    refine ⟨_, pss_cons (ps_for PassesOwn.never rfl (pi_enumT (by rfl) me (pa_cons (pv 0) pa_nil)) (pg_tup rfl (pgs_cons (pg_name (i := 2) scWrE.nd rfl (.inl rfl)) (pgs_cons (pg_name (i := 3) scWrE.nd rfl (.inl rfl)) pgs_nil)))
        (pss_one (ps_if (pt_not (pt_val (pe_call GE hr (by rfl) gE kE bE .nil pass0 (pa_cons (pv 3) (pa_cons (pv 2) (pa_cons (pv 1) pa_nil)))))) (pss_one (ps_ret (pv 2))) pss_nil)))
      (pss_one (ps_ret pe_non)), ?_⟩
    cases hd with
    | @tup a xs _ na ha hal hA =>
      refine ⟨_, rfl, a, xs, rfl, SqT.of ha, for_it (walk_enumT (K := K) (a := a) (xs := xs)) (fun i σ H1 => ∃ (y2 y3 : Option V), σ = [some (.ref a), some sv, y2, y3] ∧ Same H H1 ∧ wrE (!decide (sv = .bl false)) 0 ds = wrE (!decide (sv = .bl false)) i (ds.drop i))
        ⟨none, none, rfl, Same.refl H, rfl⟩ (fun i σ H1 _ p => by obtain ⟨_, _, _, p, _⟩ := p; exact SqT.of (p _ _ ha)) (fun i x σ H1 H2 hi p y => ?_) (fun σ H1 p => ?_)⟩
      · obtain ⟨y2, y3, rfl, s1, e⟩ := p
        obtain ⟨T, v1, v2, rfl, nT, rfl, f1, f2⟩ := y
        have f1' : v1 = .int (i : Nat) := (Option.some.inj f1).symm
        subst f1'
        obtain ⟨dx, g1, g2⟩ := hA.get f2
        have hdrop : ds.drop i = dx :: ds.drop (i + 1) := by
          obtain ⟨z1, z2⟩ := List.getElem?_eq_some_iff.mp g1
          rw [List.drop_eq_getElem_cons z1, z2]
        rw [hdrop] at e
        have s2 := s1.trans (same_new (o := HO.tup [.int (i : Nat), v2]) nT)
        refine ⟨T, _, rfl, SqT.of upd_same, rfl, _, _, rfl, v2, _, rfl, rfl, ?_⟩
        refine ⟨_, rfl, _, rfl, _, rfl, v2, dx, (i : Nat), sv, rfl, g2.same s2, _, rfl, ?_⟩
        have e1 : wrE (!decide (sv = .bl false)) i (dx :: ds.drop (i + 1)) = if eldB dx (i : Nat) (!decide (sv = .bl false)) then wrE (!decide (sv = .bl false)) (i + 1) (ds.drop (i + 1)) else some i := rfl
        cases hb : eldB dx (i : Nat) (!decide (sv = .bl false)) with
        | true =>
          rw [hb, if_pos rfl] at e1
          exact iteF ⟨_, _, rfl, s2, e.trans e1⟩
        | false =>
          rw [hb, if_neg Bool.false_ne_true] at e1
          refine iteT ⟨_, rfl, ?_⟩
          have z := q _ s2
          rw [e, e1] at z
          exact z
      · obtain ⟨y2, y3, rfl, s1, e⟩ := p
        rw [hA.length, List.drop_length] at e
        have z := q _ s1
        rw [e] at z
        exact z
end
end Kc

set_option Elab.async false
set_option linter.all false
set_option maxRecDepth 100000
set_option maxHeartbeats 4000000
namespace Kc
open PySem PySem.Spec PyProof.Rows L2 Kg Kd Kr Kf
abbrev sIsB : Stmt := topS 3
theorem scIsB : FnScope ["value"] ["value"] (defScope sIsB) := ⟨rfl, rfl, rfl, by decide +kernel, rfl, by decide +kernel, by decide +kernel⟩
def isBl (v : V) : Bool := decide (v = .bl true) || decide (v = .bl false)
def spIsB : Sp := fun vs H Q _ => ∃ v : V, vs = [v] ∧ Q (.bl (isBl v)) H
theorem isBl_da {av : Addr → Prop} {H : Hp} {x : V} {dd : PyData} (hx : Da av H x dd) : isBl x = isBool dd := by
  unfold isBl
  cases hx with
  | bl b => cases b <;> rfl
  | _ => rw [decide_eq_false (fun z => (nomatch z)), decide_eq_false (fun z => (nomatch z))]; rfl
section
variable {P : Program} {w : World} {K : PySem.W.Frag} {mg : Str → Option Value} {base : Heap} {f : Addr} {fd : FuncData} {k : Nat}
theorem ok_isB (F : Fun K "is_bool" "is_bool" sIsB f fd) : FnOk P w K mg base CX0 (k + 1) f fd ["value"] spIsB := by
  refine F.ok scIsB (fun vs H Q E h => ?_) (fun cdv A outer s H vs Q E hr h => ?_)
  · obtain ⟨v, rfl, _⟩ := h
    rfl
  · obtain ⟨v, rfl, q⟩ := h
    refine ⟨_, pss_one (ps_ret (pe_or (pe_cmpR op_isBv (pv 0) pe_bl (nomark _)) (pe_one (pe_cmpR op_isBv (pv 0) pe_bl (nomark _))))), ?_⟩
    refine ⟨_, rfl, true, rfl, _, rfl, ?_⟩
    unfold isBl at q
    cases c : decide (v = V.bl true) with
    | true => rw [c] at q; exact iteT q
    | false =>
      rw [c] at q
      exact iteF ⟨_, rfl, false, rfl, q⟩
end
end Kc

set_option Elab.async false
set_option linter.all false
set_option maxRecDepth 100000
set_option maxHeartbeats 4000000
namespace Kc
open PySem PySem.Spec PyProof.Rows L2 Kg Kd Kr Kf Kl
theorem scTab : FnScope ["elders", "table", "kind", "own", "found", "elder"] ["elders"] (defScope sTab) := ⟨rfl, rfl, rfl, by decide +kernel, rfl, by decide +kernel, by decide +kernel⟩
/-- the place that is told -/
def wrP (e c h : PyData) (s : V) : V :=
  match e with
  | .tuple ds => if 1 ≤ ds.length ∧ ds.length ≤ 6 then
      match wrE (!decide (s = .bl false)) 0 ds with
      | some k => .int (k : Nat)
      | none => if ascD c (ds.length : Nat) then (if ascD h (ds.length : Nat) then (if s = .bl true ∨ s = .bl false then .non else .str "several") else .str "hollow") else .str "closed"
    else .str "elders"
  | _ => .str "elders"
def spWrP : Sp := fun vs H Q _ => ∃ (ve vc vh s : V) (e c h : PyData), vs = [ve, vc, vh, s] ∧ Da Kd.nil H ve e ∧ Da Kd.nil H vc c ∧ Da Kd.nil H vh h ∧ ∀ H', Same H H' → Q (wrP e c h s) H'
theorem opN_non {o : Option Nat} : decide (opN o = .non) = o.isNone := by
  cases o with
  | none => rfl
  | some k => exact decide_eq_false (fun z => nomatch z)
section
variable {P : Program} {w : World} {K : PySem.W.Frag} {mg : Str → Option Value} {base : Heap} {f : Addr} {fd : FuncData} {k : Nat}
theorem ok_wrP {fA fW : Addr} {dA dW : FuncData} (F : Fun K "wrong_place" "wrong_place" sWrP f fd) (B : Bl mg) (mxk : ∃ t, mg "MAX_KINDS" = some (.int 6 t)) (GA : FnOk P w K mg base CX0 3 fA dA ["value", "limit"] spAsc) (kA : PySem.W.keepIn K (.ref fA) = true) (bA : Binds K dA ["value", "limit"] []) (gA : mg "is_ascending" = some (.ref fA))
    (GW : FnOk P w K mg base CX0 5 fW dW ["elders", "several"] spWrE) (kW : PySem.W.keepIn K (.ref fW) = true) (bW : Binds K dW ["elders", "several"] []) (gW : mg "wrong_elders" = some (.ref fW)) (GB : Cal P w K mg base "is_bool" 1 ["value"] spIsB) : FnOk P w K mg base CX0 6 f fd ["elders", "closed", "hollow", "several"] spWrP := by
  obtain ⟨tk, mk⟩ := mxk
  refine F.ok scWrP (fun vs H Q E h => ?_) (fun cdv A outer s H vs Q E hr h => ?_)
  · obtain ⟨ve, vc, vh, sv, e, c, h, rfl, _⟩ := h
    rfl
  · obtain ⟨ve, vc, vh, sv, e, c, h, rfl, he, hc, hh, q⟩ := h
    refine ⟨_, pss_cons (ps_if (PW.pt (pw_or (pt_not (pt_val (pe_callB call_isi (by rfl) B.isi boot_isinstance (pa_cons (pv 0) (pa_cons (pe_bltn (v := .ty "tuple") (by rfl) B.tuple PyProof.Rows.boot_tuple rfl) pa_nil)))))
          (pw_or1 (pt_not (pt_chain op_le op_le pe_int (pe_callB call_len_seq (by rfl) B.len PySem.boot_len (pa_cons (pv 0) pa_nil)) (pe_glob (v := .int 6) (by rfl) mk ⟨tk, rfl⟩)))))) (pss_one (ps_ret pe_str)) pss_nil)
      (pss_cons (ps_set (i := 4) scWrP.nd rfl (.inl rfl) (pe_call GW (hr.mono (by decide)) (by rfl) gW kW bW .nil pass0 (pa_cons (pv 0) (pa_cons (pv 3) pa_nil))))
      (pss_cons (ps_if (pt_cmpR op_notN (pv 4) pe_non (nomark _)) (pss_one (ps_ret (pv 4))) pss_nil)
      (pss_cons (ps_if (pt_not (pt_val (pe_call GA (hr.mono (by decide)) (by rfl) gA kA bA .nil pass0 (pa_cons (pv 1) (pa_cons (pe_callB call_len_seq (by rfl) B.len PySem.boot_len (pa_cons (pv 0) pa_nil)) pa_nil))))) (pss_one (ps_ret pe_str)) pss_nil)
      (pss_cons (ps_if (pt_not (pt_val (pe_call GA (hr.mono (by decide)) (by rfl) gA kA bA .nil pass0 (pa_cons (pv 2) (pa_cons (pe_callB call_len_seq (by rfl) B.len PySem.boot_len (pa_cons (pv 0) pa_nil)) pa_nil))))) (pss_one (ps_ret pe_str)) pss_nil)
      (pss_cons (ps_if (pt_not (pt_val (pe_cal GB (hr.mono (by decide)) (by rfl) (pa_cons (pv 3) pa_nil)))) (pss_one (ps_ret pe_str)) pss_nil)
      (pss_one (ps_ret pe_non))))))), ?_⟩
    refine ⟨_, rfl, _, _, _, _, isTup e, rfl, .ty _, he.ty, kit_ty (kt_tup e), _, rfl, ?_⟩
    by_cases hb : isTup e = true
    · cases e with
      | tuple ds =>
        refine iteF ?_
        have he2 := he
        cases he with
        | @tup a xs _ na ha hal hA =>
          have xl := hA.length
          refine ⟨_, rfl, a, xs, rfl, .inr (SqT.of ha), 1, _, rfl, rfl, _, rfl, ?_⟩
          have out : ¬ (1 ≤ ds.length ∧ ds.length ≤ 6) → Q (.str "elders") H := fun z => by
            have y := q H (Same.refl H)
            have e1 : wrP (.tuple ds) c h sv = .str "elders" := by
              show (if 1 ≤ ds.length ∧ ds.length ≤ 6 then _ else _) = _
              rw [if_neg z]
            rwa [e1] at y
          by_cases c1 : (1 : Int) ≤ (xs.length : Nat)
          · rw [decide_eq_true c1]
            refine iteT ⟨_, _, rfl, rfl, _, rfl, ?_⟩
            by_cases c2 : ((xs.length : Nat) : Int) ≤ 6
            · rw [decide_eq_true c2]
              refine iteF ?_
              refine ⟨_, rfl, _, rfl, _, ds, sv, rfl, he2, fun H1 s1 => ?_⟩
              have e1 : wrP (.tuple ds) c h sv = (match wrE (!decide (sv = .bl false)) 0 ds with
                  | some k => .int (k : Nat)
                  | none => if ascD c (ds.length : Nat) then (if ascD h (ds.length : Nat) then (if sv = .bl true ∨ sv = .bl false then .non else .str "several") else .str "hollow") else .str "closed") := by
                show (if 1 ≤ ds.length ∧ ds.length ≤ 6 then _ else _) = _
                rw [if_pos (by omega)]
              have q1 := q H1 s1
              rw [e1] at q1
              have ha1 := s1 _ _ ha
              have hc1 := hc.same s1
              have hh1 := hh.same s1
              refine ⟨_, rfl, rfl, _, rfl, ?_⟩
              rw [opN_non]
              cases hw : wrE (!decide (sv = .bl false)) 0 ds with
              | some k =>
                rw [hw] at q1
                exact iteT ⟨_, rfl, q1⟩
              | none =>
                rw [hw] at q1
                refine iteF ⟨_, rfl, _, rfl, a, xs, rfl, .inr (SqT.of ha1), vc, c, _, rfl, hc1, _, rfl, ?_⟩
                rw [xl]
                cases a1 : ascD c (ds.length : Nat) with
                | false => rw [a1] at q1; exact iteT q1
                | true =>
                  rw [a1] at q1
                  refine iteF ⟨_, rfl, _, rfl, a, xs, rfl, .inr (SqT.of ha1), vh, h, _, rfl, hh1, _, rfl, ?_⟩
                  rw [xl]
                  cases a2 : ascD h (ds.length : Nat) with
                  | false => rw [a2] at q1; exact iteT q1
                  | true =>
                    rw [a2] at q1
                    refine iteF ⟨_, rfl, sv, rfl, _, rfl, ?_⟩
                    unfold isBl
                    by_cases z1 : sv = .bl true
                    · rw [if_pos rfl, if_pos rfl, if_pos (.inl z1)] at q1
                      rw [decide_eq_true z1]
                      exact iteF q1
                    · rw [decide_eq_false z1]
                      by_cases z2 : sv = .bl false
                      · rw [if_pos rfl, if_pos rfl, if_pos (.inr z2)] at q1
                        rw [decide_eq_true z2]
                        exact iteF q1
                      · rw [if_pos rfl, if_pos rfl, if_neg (by rintro (y | y) <;> contradiction)] at q1
                        rw [decide_eq_false z2]
                        exact iteT q1
            · rw [decide_eq_false c2]
              exact iteT (out (by omega))
          · rw [decide_eq_false c1]
            exact iteF ⟨_, rfl, iteT (out (by omega))⟩
      | _ => exact nomatch hb
    · rw [Bool.not_eq_true] at hb
      rw [hb]
      refine iteT (iteT ?_)
      have y := q H (Same.refl H)
      have e1 : wrP e c h sv = .str "elders" := by
        cases e with
        | tuple ds => exact nomatch hb
        | _ => rfl
      rwa [e1] at y
end
/-! ### right parts -/
theorem asc_ok : ∀ {l : List Nat} {n lo : Nat}, l.Pairwise (· < ·) → (∀ x ∈ l, lo ≤ x ∧ x < n) → asc (n : Nat) (lo : Nat) (l.map iD) = true
  | [], _, _, _, _ => rfl
  | a :: l, n, lo, hl, h => by
    rw [List.pairwise_cons] at hl
    have y := h a (List.mem_cons_self ..)
    have z := asc_ok (l := l) (n := n) (lo := a + 1) hl.2 (fun x hx => ⟨hl.1 x hx, (h x (List.mem_cons_of_mem _ hx)).2⟩)
    show (if ((a : Nat) : Int) < (lo : Nat) ∨ ((n : Nat) : Int) ≤ (a : Nat) then false else asc (n : Nat) ((a : Nat) + 1) (l.map iD)) = true
    rw [if_neg (by omega)]
    exact z
theorem som_ok {n : Nat} {l : List Nat} (h : Som n l) : ascD (pdI l) (n : Nat) = true := asc_ok (lo := 0) h.asc (fun x hx => ⟨Nat.zero_le _, h.low x hx⟩)
theorem wrE_ok {sv : Bool} : ∀ {es : List (List Nat)} {k : Nat}, (∀ (i : Nat) (l : List Nat), es[i]? = some l → Som (k + i) l ∧ (sv = false → l.length ≤ 1)) → wrE sv k (es.map pdI) = none
  | [], _, _ => rfl
  | l :: es, k, h => by
    obtain ⟨h1, h2⟩ := h 0 l rfl
    have e1 : eldB (pdI l) (k : Nat) sv = true := by
      unfold eldB
      rw [som_ok (by simpa using h1), Bool.true_and]
      cases sv with
      | true => rfl
      | false =>
        show decide ((l.map iD).length ≤ 1) = true
        rw [List.length_map]
        exact decide_eq_true (h2 rfl)
    show (if eldB (pdI l) (k : Nat) sv = true then wrE sv (k + 1) (es.map pdI) else some k) = none
    rw [if_pos e1]
    refine wrE_ok fun i l' e => ?_
    have z := h (i + 1) l' (by simpa using e)
    rwa [show k + (i + 1) = k + 1 + i by omega] at z
theorem dec_bl (sv : Bool) : (!decide (V.bl sv = .bl false)) = sv := by cases sv <;> rfl
theorem wrP_ok {es : List (List Nat)} {cl ho : List Nat} {sv : Bool} (he : Eld es sv) (hc : Som es.length cl) (hh : Som es.length ho) : wrP (pdE es) (pdI cl) (pdI ho) (.bl sv) = .non := by
  have e0 : wrE (!decide (V.bl sv = .bl false)) 0 (es.map pdI) = none := by
    rw [dec_bl]
    exact wrE_ok fun i l e => ⟨by rw [Nat.zero_add]; exact he.som e, he.one i l e⟩
  show (if 1 ≤ (es.map pdI).length ∧ (es.map pdI).length ≤ 6 then _ else _) = _
  rw [e0, List.length_map, if_pos ⟨he.lo, he.hi⟩]
  show (if ascD (pdI cl) (es.length : Nat) = true then _ else _) = _
  rw [if_pos (som_ok hc), if_pos (som_ok hh), if_pos (by cases sv <;> simp)]
end Kc

set_option Elab.async false
set_option linter.all false
set_option maxRecDepth 100000
set_option maxHeartbeats 4000000
namespace Kc
open PySem PySem.Spec PyProof.Rows L2 Kg Kd Kr Kf
/-- all kinds above each kind -/
def spTab : Sp := fun vs H Q _ => ∃ (v : V) (es : List (List Nat)) (sv : Bool), vs = [v] ∧ Tu H v (pdE es) ∧ Eld es sv ∧ ∀ H' p, Same H H' → H p = none → Tu H' (.ref p) (pdE (lotsT es)) → Q (.ref p) H'
/-- what was found: the kind, and all above of some elders -/
def Fnd (es : List (List Nat)) (k : Nat) (el ns : List Nat) : Prop := ∀ x, x ∈ ns ↔ x = k ∨ ∃ e ∈ el, abv es e x = true
theorem fnd_all {es : List (List Nat)} {sv : Bool} {k : Nat} {own ns : List Nat} (E : Eld es sv) (ho : es[k]? = some own) (h : Fnd es k own ns) (x : Nat) : x ∈ ns ↔ x ∈ lot es k := by
  have hk : k < es.length := (List.getElem?_eq_some_iff.mp ho).1
  rw [h x, lot_mem hk, abv_eq]
  have eo : es.getD k [] = own := by rw [List.getD_eq_getElem?_getD, ho]; rfl
  rw [eo]
  constructor
  · rintro (h | ⟨e, he, h⟩)
    · exact .inl h
    · exact .inr ⟨e, he, E.low k own ho e he, h⟩
  · rintro (h | ⟨e, he, _, h⟩)
    · exact .inl h
    · exact .inr ⟨e, he, h⟩
section
variable {P : Program} {w : World} {K : PySem.W.Frag} {mg : Str → Option Value} {base : Heap} {f : Addr} {fd : FuncData} {k : Nat}
theorem ok_tab (F : Fun K "table_above" "table_above" sTab f fd) (B : Bl mg) (M : Bm mg) : FnOk P w K mg base CX0 (k + 1) f fd ["elders"] spTab := by
  refine F.ok scTab (fun vs H Q E h => ?_) (fun cdv A outer s H vs Q E hr h => ?_)
  · obtain ⟨v, es, sv, rfl, _⟩ := h
    rfl
  · obtain ⟨v, es, sv, rfl, hv, EL, q⟩ := h
    refine ⟨_, pss_cons (ps_set (i := 1) scTab.nd rfl (.inl rfl) (pe_lst pa_nil))
      (pss_cons (ps_for PassesOwn.never rfl (pi_enumT (by rfl) M.enum (pa_cons (pv 0) pa_nil)) (pg_tup rfl (pgs_cons (pg_name (i := 2) scTab.nd rfl (.inl rfl)) (pgs_cons (pg_name (i := 3) scTab.nd rfl (.inl rfl)) pgs_nil)))
        (pss_cons (ps_set (i := 4) scTab.nd rfl (.inl rfl) (pe_lst (pa_cons (pv 2) pa_nil)))
        (pss_cons (ps_for PassesOwn.never rfl (pi_tup (pv 3)) (pg_name (i := 5) scTab.nd rfl (.inl rfl))
          (pss_one (ps_expr (pe_bm PySem.F.plainAttrs_list PySem.F.slot_list_extend PySem.F.type_list_extend mt_extT (pv 4) (pa_cons (pe_ix ix_list (pv 1) (pv 5) (fun _ _ => rfl)) pa_nil)))))
        (pss_one (ps_expr (pe_bm PySem.F.plainAttrs_list PySem.F.slot_list_append PySem.F.type_list_append mt_append (pv 1)
          (pa_cons (pe_callTy call_tuple_of (by rfl) B.tuple PyProof.Rows.boot_tuple (pa_cons (pe_callB (cr_sortedSet rfl) (by rfl) M.sorted (by decide +kernel) (pa_cons (pe_callTy (cr_setI rfl) (by rfl) M.set (by decide +kernel) (pa_cons (pv 4) pa_nil)) pa_nil)) pa_nil)) pa_nil)))))))
      (pss_one (ps_ret (pe_callTy call_tuple_of (by rfl) B.tuple PyProof.Rows.boot_tuple (pa_cons (pv 1) pa_nil))))), ?_⟩
    unfold pdE at hv
    cases hv with
    | @tup a xs _ ha hal hA =>
    have xl : xs.length = es.length := by rw [hA.length, List.length_map]
    refine ⟨(show 0 ≤ sizeLine by decide), fun T nT => ?_⟩
    have s0 : Same H (upd H T (.lst [])) := same_new nT
    have len6 := EL.hi
    refine ⟨_, rfl, a, xs, rfl, SqT.of (s0 _ _ ha), for_it (walk_enumT (K := K) (a := a) (xs := xs)) (fun i σ H1 => ∃ (y2 y3 y4 y5 : Option V) (rows : List V), σ = [some (.ref a), some (.ref T), y2, y3, y4, y5] ∧ Same H H1 ∧ H1 T = some (.lst rows) ∧ TuAll H1 rows (((List.range i).map (lot es)).map pdI))
      ⟨none, none, none, none, [], rfl, s0, upd_same, .nil⟩ (fun i σ H1 _ p => by obtain ⟨_, _, _, _, _, _, p, _⟩ := p; exact SqT.of (p _ _ ha)) (fun i x σ H1 H2 hi p y => ?_) (fun σ H1 p => ?_)⟩
    · obtain ⟨y2, y3, y4, y5, rows, rfl, s1, hT, hR⟩ := p
      obtain ⟨Tp, v1, v2, rfl, nTp, rfl, f1, f2⟩ := y
      have f1' : v1 = .int (i : Nat) := (Option.some.inj f1).symm
      subst f1'
      obtain ⟨dx, g1, g2⟩ := hA.get f2
      obtain ⟨own, ho, rfl⟩ := map_get g1
      obtain ⟨b, rfl, hb, _⟩ := tu_inv g2
      have s12 := same_new (o := HO.tup [.int (i : Nat), .ref b]) nTp
      have s2 := s1.trans s12
      have hT2 := s12 _ _ hT
      have hR2 := hR.keep (.of_same s12)
      refine ⟨Tp, _, rfl, SqT.of upd_same, rfl, _, _, rfl, .ref b, _, rfl, rfl, ?_⟩
      generalize (upd H1 Tp (.tup [.int (i : Nat), .ref b])) = H2 at s2 hT2 hR2 ⊢
      refine ⟨_, rfl, (show 1 ≤ sizeLine by decide), fun Fo nF => ?_⟩
      have s3 := same_new (o := HO.lst [.int (i : Nat)]) nF
      have rl : rows.length = i := by rw [hR.length, List.length_map, List.length_map, List.length_range]
      -- the inner walk
      have hb3 := s3 _ _ (s2 _ _ hb)
      refine ⟨_, rfl, b, rfl, ⟨_, SqT.of hb3⟩, for_tup (K := K) (a := b) (xs := own.map iV) (fun j σ H4 => ∃ (y5 : Option V) (ns : List Nat), σ = [some (.ref a), some (.ref T), some (.int (i : Nat)), some (.ref b), some (.ref Fo), y5] ∧ Same H2 H4 ∧ H4 Fo = some (.lst (ns.map iV)) ∧ ns.length ≤ 1 + 6 * j ∧ Fnd es i (own.take j) ns)
        ⟨y5, [i], rfl, s3, upd_same, by simp, fun x => by simp⟩ (fun j σ H4 _ p => by obtain ⟨_, _, _, p, _⟩ := p; exact SqT.of (p _ _ (s2 _ _ hb))) (fun j x σ H4 hx p => ?_) (fun σ H4 p => ?_)⟩
      · obtain ⟨z5, ns, rfl, s4, hF, nl, fn⟩ := p
        obtain ⟨e, he, rfl⟩ := map_get hx
        have hel : e < i := EL.low i own ho e (List.mem_of_getElem? he)
        have hT4 := s4 _ _ hT2
        obtain ⟨rv, hrv, hru⟩ := (hR2.keep (.of_same s4)).get' (i := e) (d := pdI (lot es e)) (get_map (get_map (by rw [List.getElem?_range hel])))
        obtain ⟨rb, rfl, hrb, rbl⟩ := tu_inv hru
        have ol : own.length ≤ 6 := by have := (EL.som ho).len; omega
        have jl : j < own.length := (List.getElem?_eq_some_iff.mp he).1
        have ll := lot_len es e
        refine ⟨_, rfl, .inl ⟨rfl, _, SqL.of hF⟩, _, rfl, _, rfl, T, rows, _, .ref rb, rfl, rfl, SqL.of hT4, atI_nat (j := e) hrv, Fo, rb, _, _, rfl, rfl, hF, SqT.of hrb, ?_, ?_⟩
        · rw [List.length_map, List.length_map]
          exact Nat.le_of_lt (small1000 (by omega))
        · refine ⟨_, ns ++ lot es e, rfl, ?_, ?_, ?_, ?_⟩
          · exact fun bb o z => by rw [upd_ne (ne_of_none z nF)]; exact s4 _ _ z
          · rw [upd_same, List.map_append]
          · rw [List.length_append]; omega
          · intro x
            have hex : own.take (j + 1) = own.take j ++ [e] := by rw [List.take_add_one, he]; rfl
            rw [List.mem_append, fn x, hex, lot_mem (by have := (List.getElem?_eq_some_iff.mp ho).1; omega)]
            constructor
            · rintro ((h | ⟨e', h1, h2⟩) | h)
              · exact .inl h
              · exact .inr ⟨e', List.mem_append_left _ h1, h2⟩
              · exact .inr ⟨e, List.mem_append_right _ (List.mem_singleton.mpr rfl), h⟩
            · rintro (h | ⟨e', h1, h2⟩)
              · exact .inl (.inl h)
              · rcases List.mem_append.mp h1 with h1 | h1
                · exact .inl (.inr ⟨e', h1, h2⟩)
                · rw [List.mem_singleton.mp h1] at h2; exact .inr h2
      · obtain ⟨z5, ns, rfl, s4, hF, nl, fn⟩ := p
        have ol : own.length ≤ 6 := by have := (EL.som ho).len; omega
        rw [List.length_map] at nl fn
        rw [List.take_length] at fn
        have hT4 := s4 _ _ hT2
        have hR4 := hR2.keep (.of_same s4)
        rw [map_iV] at hF
        refine ⟨_, rfl, .inl ⟨rfl, _, SqL.of hT4⟩, _, rfl, Fo, _, rfl, .inl (SqL.of hF), (by rw [List.length_map]; omega), fun S c nS hc => ?_⟩
        have s5 := same_new (o := SetO w S (fun j => decide (j ∈ ns.map fun n => ((n : Nat) : Int))) c) nS
        refine ⟨S, _, c, rfl, upd_same, (by rw [List.length_map] at hc; omega), fun ms q5 hs hm hml nq => ?_⟩
        obtain ⟨m, rfl⟩ := to_nats (l := ms) (fun x hx => by
          have z := of_decide_eq_true ((hm x).mp hx)
          obtain ⟨n, _, e⟩ := List.mem_map.mp z
          omega)
        have em : m = lot es i := asc_uniq (asc_map hs) (lot_asc es i) fun x => by
          rw [← fnd_all EL ho fn x]
          have z := hm (x : Nat)
          constructor
          · intro h
            have y := of_decide_eq_true (z.mp (List.mem_map.mpr ⟨x, h, rfl⟩))
            obtain ⟨n, h1, e⟩ := List.mem_map.mp y
            have : n = x := by omega
            rwa [← this]
          · intro h
            have y := z.mpr (decide_eq_true (List.mem_map.mpr ⟨x, h, rfl⟩))
            obtain ⟨n, h1, e⟩ := List.mem_map.mp y
            have : n = x := by omega
            rwa [← this]
        subst em
        have s6 := same_new (o := HO.lst (((lot es i).map fun n => ((n : Nat) : Int)).map V.int)) nq
        refine ⟨q5, _, rfl, .inl ⟨SqL.of upd_same, fun tt nt => ?_⟩⟩
        have s7 := same_new (o := HO.tup (((lot es i).map fun n => ((n : Nat) : Int)).map V.int)) nt
        have s47 := s5.trans (s6.trans s7)
        refine ⟨T, _, _, rfl, rfl, s47 _ _ hT4, by rw [rl]; exact small1000 (by omega), ?_⟩
        have nTH : ∀ o, H T = some o → False := fun o z => by rw [nT] at z; cases z
        refine ⟨_, _, _, _, rows ++ [.ref tt], rfl, ?_, upd_same, ?_⟩
        · exact fun bb o z => by rw [upd_ne (ne_of_none z nT)]; exact s47 _ _ (s4 _ _ (s2 _ _ z))
        · rw [List.range_succ, List.map_append, List.map_append]
          refine (TuAll.append (hR4.keep (.of_same s47)) (.cons (tu_ints (a := tt) (l := lot es i) ?_ ?_) .nil)).keep (KF.putL (s47 _ _ hT4))
          · rw [map_iV]; exact upd_same
          · have := lot_len es i; omega
    · obtain ⟨y2, y3, y4, y5, rows, rfl, s1, hT, hR⟩ := p
      rw [xl] at hR
      refine ⟨_, rfl, T, rows, rfl, .inl ⟨SqL.of hT, fun p np => ?_⟩⟩
      have s2 := same_new (o := HO.tup rows) np
      refine q _ p (s1.trans s2) (s1.free np) (.tup upd_same ?_ (hR.keep (.of_same s2)))
      rw [hR.length, List.length_map, List.length_map, List.length_range]; omega
end
end Kc

set_option Elab.async false
set_option linter.all false
set_option maxRecDepth 100000
set_option maxHeartbeats 4000000
namespace Kc
open PySem PySem.Spec PyProof.Rows L2 Kg Kd Kr Kf
abbrev sCls : Stmt := topS 28
abbrev sIni : Stmt := inClass sCls 0
abbrev sMade : Stmt := topS 35
theorem scIni : FnScope ["self", "elders", "closed", "hollow", "several", "place"] ["self", "elders", "closed", "hollow", "several"] (defScope sIni) := ⟨rfl, rfl, rfl, by decide +kernel, rfl, by decide +kernel, by decide +kernel⟩
theorem scMade : FnScope ["_law_four_here"] ["_law_four_here"] (defScope sMade) := ⟨rfl, rfl, rfl, by decide +kernel, rfl, by decide +kernel, by decide +kernel⟩
/-- the fields of kinds -/
def kfs (e c h : V) (sv : Bool) (t : V) : List (Str × V) := [("kept_elders", e), ("kept_closed", c), ("kept_hollow", h), ("kept_several", .bl sv), ("kept_above", t)]
/-- Kinds at p -/
structure KO (C : Addr) (H : Hp) (p : Addr) (es : List (List Nat)) (cl ho : List Nat) (sv : Bool) : Prop where
  ex : ∃ dx e c h t, H p = some (.ins C dx (kfs e c h sv t)) ∧ Tu H e (pdE es) ∧ Tu H c (pdI cl) ∧ Tu H h (pdI ho) ∧ Tu H t (pdE (lotsT es))
  el : Eld es sv
  cl : Som es.length cl
  ho : Som es.length ho
theorem KO.keep {C : Addr} {H H' : Hp} {p : Addr} {es : List (List Nat)} {cl ho : List Nat} {sv : Bool} (k : KO C H p es cl ho sv) (f : KF H H') : KO C H' p es cl ho sv := by
  obtain ⟨⟨dx, e, c, h, t, h1, h2, h3, h4, h5⟩, h6, h7, h8⟩ := k
  exact ⟨⟨dx, e, c, h, t, f.ins h1, h2.keep f, h3.keep f, h4.keep f, h5.keep f⟩, h6, h7, h8⟩
/-- the class of kinds -/
structure KC (K : PySem.W.Frag) (C : Addr) : Prop where
  cl : Cls K C
  n1 : NoAttr K C "kept_elders"
  n2 : NoAttr K C "kept_closed"
  n3 : NoAttr K C "kept_hollow"
  n4 : NoAttr K C "kept_several"
  n5 : NoAttr K C "kept_above"
def spIni (C : Addr) : Sp := fun vs H Q _ => ∃ (p dx : Addr) (ve vc vh : V) (es : List (List Nat)) (cl ho : List Nat) (sv : Bool), vs = [.ref p, ve, vc, vh, .bl sv] ∧ H p = some (.ins C dx []) ∧ Tu H ve (pdE es) ∧ Tu H vc (pdI cl) ∧ Tu H vh (pdI ho) ∧
  Eld es sv ∧ Som es.length cl ∧ Som es.length ho ∧ ∀ H', (∀ b o, H b = some o → b ≠ p → H' b = some o) → KO C H' p es cl ho sv → Q .non H'
def spMade (C : Addr) : Sp := fun vs H Q _ => ∃ (l : Addr) (es : List (List Nat)) (cl ho : List Nat) (sv : Bool), vs = [.ref l] ∧ Fo H l es cl ho sv ∧ ∀ H' p, Same H H' → H p = none → KO C H' p es cl ho sv → Q (.ref p) H'
theorem own_same {H H' : Hp} {x dx C : Addr} {o : HO} (nx : H x = none) (nd : H dx = none) (ne : dx ≠ x) (k : ∀ b u, upd (upd H dx (.own x)) x o b = some u → b ≠ x → H' b = some u) : Same H H' := fun b u e => by
  have e1 := ne_of_none e nx
  have e2 := ne_of_none e nd
  exact k b u (by rw [upd_ne e1, upd_ne e2]; exact e) e1
section
variable {P : Program} {w : World} {K : PySem.W.Frag} {mg : Str → Option Value} {base : Heap} {f : Addr} {fd : FuncData} {k : Nat}
theorem ok_ini {fW fT C : Addr} {dW dT : FuncData} (F : Fun K "__init__" "Kinds.__init__" sIni f fd) (T : KC K C)
    (GW : FnOk P w K mg base CX0 6 fW dW ["elders", "closed", "hollow", "several"] spWrP) (kW : PySem.W.keepIn K (.ref fW) = true) (bW : Binds K dW ["elders", "closed", "hollow", "several"] []) (gW : mg "wrong_place" = some (.ref fW))
    (GT : FnOk P w K mg base CX0 1 fT dT ["elders"] spTab) (kT : PySem.W.keepIn K (.ref fT) = true) (bT : Binds K dT ["elders"] []) (gT : mg "table_above" = some (.ref fT)) : FnOk P w K mg base CX0 7 f fd ["self", "elders", "closed", "hollow", "several"] (spIni C) := by
  refine F.ok scIni (fun vs H Q E h => ?_) (fun cdv A outer s H vs Q E hr h => ?_)
  · obtain ⟨p, dx, ve, vc, vh, es, cl, ho, sv, rfl, _⟩ := h
    rfl
  · obtain ⟨p, dx, ve, vc, vh, es, cl, ho, sv, rfl, hp, he, hc, hh, EL, SC, SH, q⟩ := h
    refine ⟨_, pss_cons (ps_set (i := 5) scIni.nd rfl (.inl rfl) (pe_call GW (hr.mono (by decide)) (by rfl) gW kW bW .nil pass0 (pa_cons (pv 1) (pa_cons (pv 2) (pa_cons (pv 3) (pa_cons (pv 4) pa_nil))))))
      (pss_cons (ps_if (pt_cmpR op_notN (pv 5) pe_non (nomark _)) (pss_one ps_never) pss_nil)
      (pss_cons (ps_fld (pv 0) (pv 1) rfl)
      (pss_cons (ps_fld (pv 0) (pv 2) rfl)
      (pss_cons (ps_fld (pv 0) (pv 3) rfl)
      (pss_cons (ps_fld (pv 0) (pv 4) rfl)
      (pss_one (ps_fld (pv 0) (pe_call GT (hr.mono (by decide)) (by rfl) gT kT bT .nil pass0 (pa_cons (pv 1) pa_nil)) rfl))))))), ?_⟩
    refine ⟨_, rfl, _, rfl, _, rfl, _, rfl, ve, vc, vh, _, _, _, _, rfl, he.da, hc.da, hh.da, fun H1 s1 => ?_⟩
    rw [wrP_ok EL SC SH]
    refine ⟨_, rfl, rfl, _, rfl, iteF ?_⟩
    refine ⟨_, rfl, _, rfl, p, C, dx, _, rfl, s1 _ _ hp, T.cl, T.n1, (by decide), ?_⟩
    refine ⟨_, rfl, _, rfl, p, C, dx, _, rfl, upd_same, T.cl, T.n2, (by show 1 < 1000; decide), ?_⟩
    refine ⟨_, rfl, _, rfl, p, C, dx, _, rfl, upd_same, T.cl, T.n3, (by show 2 < 1000; decide), ?_⟩
    refine ⟨_, rfl, _, rfl, p, C, dx, _, rfl, upd_same, T.cl, T.n4, (by show 3 < 1000; decide), ?_⟩
    rw [upd_upd, upd_upd, upd_upd]
    -- tuples stay
    have kt : ∀ {v : V} {d : PyData} (o : HO), Tu H v d → Tu (upd H1 p o) v d := by
      have aux : ∀ (o : HO) (b : Addr) (xs : List V), H b = some (.tup xs) → upd H1 p o b = some (.tup xs) := fun o b xs z => by
        rw [upd_ne (ne_of z hp (by intro y; cases y))]; exact s1 _ _ z
      intro v d o h
      exact Tu.rec (motive_1 := fun v d _ => Tu (upd H1 p o) v d) (motive_2 := fun vs ds _ => TuAll (upd H1 p o) vs ds) .non (fun b => .bl b) (fun i => .int i) (fun x => .str x) (fun h z _ r => .tup (aux o _ _ h) z r) .nil (fun _ _ h r => .cons h r) h
    refine ⟨_, rfl, ve, es, sv, rfl, kt _ he, EL, fun H2 t s2 nt ht => ⟨_, rfl, p, C, dx, _, rfl, s2 _ _ upd_same, T.cl, T.n5, (by show 4 < 1000; decide), ?_⟩⟩
    have hp2 := s2 _ _ upd_same
    have key : ∀ {v : V} {d : PyData} (o : HO), Tu H2 v d → Tu (upd H2 p o) v d := by
      have aux : ∀ (o : HO) (b : Addr) (xs : List V), H2 b = some (.tup xs) → upd H2 p o b = some (.tup xs) := fun o b xs z => by
        rw [upd_ne (ne_of z hp2 (by intro y; cases y))]; exact z
      intro v d o h
      exact Tu.rec (motive_1 := fun v d _ => Tu (upd H2 p o) v d) (motive_2 := fun vs ds _ => TuAll (upd H2 p o) vs ds) .non (fun b => .bl b) (fun i => .int i) (fun x => .str x) (fun h z _ r => .tup (aux o _ _ h) z r) .nil (fun _ _ h r => .cons h r) h
    refine q _ (fun b o z ne => ?_) ⟨⟨dx, ve, vc, vh, .ref t, upd_same, key _ ((kt _ he).same s2), key _ ((kt _ hc).same s2), key _ ((kt _ hh).same s2), key _ ht⟩, EL, SC, SH⟩
    rw [upd_ne ne]
    exact s2 _ _ (by rw [upd_ne ne]; exact s1 _ _ z)
theorem ok_made {fI C : Addr} {dI : FuncData} (F : Fun K "_law_made" "_law_made" sMade f fd) (M : Mk K C fI) (G : FnOk P w K mg base CX0 7 fI dI ["self", "elders", "closed", "hollow", "several"] (spIni C)) (b : Binds K dI ["self", "elders", "closed", "hollow", "several"] []) (gC : mg "Kinds" = some (.ref C)) : FnOk P w K mg base CX0 9 f fd ["_law_four_here"] (spMade C) := by
  refine F.ok scMade (fun vs H Q E h => ?_) (fun cdv A outer s H vs Q E hr h => ?_)
  · obtain ⟨l, es, cl, ho, sv, rfl, _⟩ := h
    rfl
  · obtain ⟨l, es, cl, ho, sv, rfl, ⟨⟨e, c, h, hl, he, hc, hh⟩, EL, SC, SH⟩, q⟩ := h
    refine ⟨_, pss_one (ps_ret (pe_make M G hr (by rfl) gC b .nil pass0 (pa_cons (pe_ix ix_list (pv 0) pe_int (fun _ _ => rfl)) (pa_cons (pe_ix ix_list (pv 0) pe_int (fun _ _ => rfl)) (pa_cons (pe_ix ix_list (pv 0) pe_int (fun _ _ => rfl)) (pa_cons (pe_ix ix_list (pv 0) pe_int (fun _ _ => rfl)) pa_nil)))))), ?_⟩
    refine ⟨_, rfl, l, _, 0, e, rfl, rfl, SqL.of hl, atI_nat (j := 0) rfl, _, rfl, l, _, 1, c, rfl, rfl, SqL.of hl, atI_nat (j := 1) rfl, _, rfl, l, _, 2, h, rfl, rfl, SqL.of hl, atI_nat (j := 2) rfl, _, rfl, l, _, 3, .bl sv, rfl, rfl, SqL.of hl, atI_nat (j := 3) rfl, ?_⟩
    intro x dx nx nd ne
    have s1 : Same H (upd (upd H dx (.own x)) x (.ins C dx [])) := fun b o z => by rw [upd_ne (ne_of_none z nx), upd_ne (ne_of_none z nd)]; exact z
    refine ⟨x, dx, e, c, h, es, cl, ho, sv, rfl, upd_same, he.same s1, hc.same s1, hh.same s1, EL, SC, SH, fun H' k ko => ⟨rfl, q H' x (own_same (C := C) nx nd ne k) nx ko⟩⟩
end
end Kc

set_option Elab.async false
set_option linter.all false
set_option maxRecDepth 100000
set_option maxHeartbeats 4000000
namespace Kc
open PySem PySem.Spec PyProof.Rows L2 Kg Kd Kr Kf
section
variable {P : Program} {w : World} {K : PySem.W.Frag} {mg : Str → Option Value} {base : Heap} {f : Addr} {fd : FuncData} {k : Nat}
def spAbv (C : Addr) : Sp := fun vs H Q _ => ∃ (p : Addr) (k : Nat) (es : List (List Nat)) (cl ho : List Nat) (sv : Bool), vs = [.ref p, .int (k : Nat)] ∧ KO C H p es cl ho sv ∧ k < es.length ∧ ∀ v, Tu H v (pdI (lot es k)) → Q v H
def spUnd (C : Addr) : Sp := fun vs H Q _ => ∃ (p : Addr) (k j : Nat) (es : List (List Nat)) (cl ho : List Nat) (sv : Bool), vs = [.ref p, .int (k : Nat), .int (j : Nat)] ∧ KO C H p es cl ho sv ∧ k < es.length ∧ Q (.bl (abv es k j)) H
def spHei (C : Addr) : Sp := fun vs H Q _ => ∃ (p : Addr) (k : Nat) (es : List (List Nat)) (cl ho : List Nat) (sv : Bool), vs = [.ref p, .int (k : Nat)] ∧ KO C H p es cl ho sv ∧ ∀ H' q, Same H H' → H q = none → Tu H' (.ref q) (pdI (hei es k)) → Q (.ref q) H'
def spOpn (C : Addr) : Sp := fun vs H Q _ => ∃ (p : Addr) (es : List (List Nat)) (cl ho : List Nat) (sv : Bool), vs = [.ref p] ∧ KO C H p es cl ho sv ∧ ∀ H' q, Same H H' → H q = none → Tu H' (.ref q) (pdI (dif es.length cl)) → Q (.ref q) H'
def spLen (C : Addr) : Sp := fun vs H Q _ => ∃ (p : Addr) (es : List (List Nat)) (cl ho : List Nat) (sv : Bool), vs = [.ref p] ∧ KO C H p es cl ho sv ∧ Q (.int (es.length : Nat)) H
def getSp (C : Addr) (k : Str) : Sp := fun vs H Q _ => ∃ (a dx : Addr) (fs : List (Str × V)) (v : V), vs = [.ref a] ∧ H a = some (.ins C dx fs) ∧ fs.lookup k = some v ∧ Q v H
theorem abv_mem {es : List (List Nat)} {k j : Nat} (hk : k < es.length) : decide (j ∈ lot es k) = abv es k j := by
  cases c : abv es k j with
  | true => exact decide_eq_true ((lot_mem hk).mpr c)
  | false => exact decide_eq_false (fun z => by rw [(lot_mem hk).mp z] at c; cases c)
def cup (n : Nat) (cl l : List Nat) : List Nat := (List.range n).filter (fun x => decide (x ∈ cl) || decide (x ∈ l))
def sub2 (n : Nat) (cl l : List Nat) : List Nat := (List.range n).filter (fun x => decide (x ∈ cl) && !decide (x ∈ l))
def spClo (C : Addr) (cmb : Nat → List Nat → List Nat → List Nat) : Sp := fun vs H Q _ => ∃ (p : Addr) (v : V) (es : List (List Nat)) (cl ho : List Nat) (sv : Bool) (l : List Nat), vs = [.ref p, v] ∧ KO C H p es cl ho sv ∧ Tu H v (pdI l) ∧ (∀ x ∈ l, x < es.length) ∧
  ∀ H' q, Same H H' → H q = none → KO C H' q es (cmb es.length cl l) ho sv → Q (.ref q) H'
def cast (l : List Nat) : List Int := l.map fun n => ((n : Nat) : Int)
theorem cast_mem {l : List Nat} {k : Int} : k ∈ cast l ↔ ∃ x : Nat, k = (x : Nat) ∧ x ∈ l := by
  unfold cast
  rw [List.mem_map]
  constructor
  · rintro ⟨x, h, e⟩; exact ⟨x, e.symm, h⟩
  · rintro ⟨x, e, h⟩; exact ⟨x, h, e.symm⟩
theorem cast_nat {l : List Nat} {x : Nat} : ((x : Nat) : Int) ∈ cast l ↔ x ∈ l := by
  rw [cast_mem]
  constructor
  · rintro ⟨y, e, h⟩
    have : x = y := by omega
    rwa [this]
  · intro h; exact ⟨x, rfl, h⟩
theorem cast_len (l : List Nat) : (cast l).length = l.length := List.length_map ..
theorem cast_V (l : List Nat) : (cast l).map V.int = l.map iV := (map_iV l).symm
theorem sml_of {l : List Nat} {n : Nat} (hn : n ≤ 6) (h : ∀ x ∈ l, x < n) : Kw.Sml6 (fun j => decide (j ∈ cast l)) := fun k hk => by
  obtain ⟨x, e, hx⟩ := cast_mem.mp (of_decide_eq_true hk)
  have := h x hx
  omega
/-- what sorted tells of a set of small numbers -/
theorem sorted_rg {n : Nat} {P : Nat → Bool} {S : Int → Bool} {ms : List Int} (hs : ms.Pairwise (· < ·)) (hm : ∀ k : Int, k ∈ ms ↔ S k = true) (hS : ∀ k : Int, S k = true ↔ ∃ x : Nat, k = (x : Nat) ∧ x < n ∧ P x = true) : ms = cast ((List.range n).filter P) := by
  obtain ⟨m, rfl⟩ := to_nats (l := ms) (fun x hx => by
    obtain ⟨y, e, _⟩ := (hS x).mp ((hm x).mp hx)
    omega)
  unfold cast
  congr 1
  refine asc_uniq (asc_map hs) rg_filter fun x => ?_
  rw [List.mem_filter, List.mem_range]
  have z := (hm (x : Nat)).trans (hS (x : Nat))
  constructor
  · intro h
    obtain ⟨y, e, y1, y2⟩ := z.mp (List.mem_map.mpr ⟨x, h, rfl⟩)
    have : x = y := by omega
    rw [this]; exact ⟨y1, y2⟩
  · intro h
    obtain ⟨y, y1, y2⟩ := List.mem_map.mp (z.mpr ⟨x, rfl, h.1, h.2⟩)
    have : x = y := by omega
    rwa [this]
theorem cup_S {n : Nat} {cl l : List Nat} (h1 : ∀ x ∈ cl, x < n) (h2 : ∀ x ∈ l, x < n) (k : Int) : ((decide (k ∈ cast cl) || decide (k ∈ cast l)) = true) ↔ ∃ x : Nat, k = (x : Nat) ∧ x < n ∧ (decide (x ∈ cl) || decide (x ∈ l)) = true := by
  simp only [Bool.or_eq_true, decide_eq_true_eq]
  constructor
  · rintro (h | h)
    · obtain ⟨x, e, hx⟩ := cast_mem.mp h
      exact ⟨x, e, h1 x hx, .inl hx⟩
    · obtain ⟨x, e, hx⟩ := cast_mem.mp h
      exact ⟨x, e, h2 x hx, .inr hx⟩
  · rintro ⟨x, rfl, _, h | h⟩
    · exact .inl (cast_nat.mpr h)
    · exact .inr (cast_nat.mpr h)
theorem sub_S {n : Nat} {cl l : List Nat} (h1 : ∀ x ∈ cl, x < n) (k : Int) : ((decide (k ∈ cast cl) && !decide (k ∈ cast l)) = true) ↔ ∃ x : Nat, k = (x : Nat) ∧ x < n ∧ (decide (x ∈ cl) && !decide (x ∈ l)) = true := by
  simp only [Bool.and_eq_true, Bool.not_eq_true', decide_eq_true_eq, decide_eq_false_iff_not]
  constructor
  · rintro ⟨h, h2⟩
    obtain ⟨x, e, hx⟩ := cast_mem.mp h
    exact ⟨x, e, h1 x hx, hx, fun z => h2 (by rw [e]; exact cast_nat.mpr z)⟩
  · rintro ⟨x, rfl, _, h, h2⟩
    exact ⟨cast_nat.mpr h, fun z => h2 (cast_nat.mp z)⟩
theorem mk_same {H : Hp} {x dx C : Addr} {fs : List (Str × V)} (nx : H x = none) (nd : H dx = none) : Same H (upd (upd H dx (.own x)) x (.ins C dx fs)) := fun b o z => by rw [upd_ne (ne_of_none z nx), upd_ne (ne_of_none z nd)]; exact z
/-- what isinstance asks of kinds -/
structure KI (K : PySem.W.Frag) (C : Addr) : Prop where
  ha : PySem.W.findIn K (.ref C) "__class__" = some (some (.builtin "object.__class__"))
  hn : PySem.W.specialIn K (.builtin "object.__class__") "__get__" = some (some (.builtin "getset_descriptor.__get__"))
  htk : PySem.W.takesIn K (.builtin "object.__class__") = some true
  hm : PySem.W.mroIn K C (.type "object") = some true
  ki : PySem.W.kitOne K (.ref C) (.ref C) = some true
  kn : ∀ t ∈ ["tuple", "NoneType", "str", "int", "dict"], PySem.W.kitOne K (.type t) (.ref C) = some false
  nf : ∀ t ∈ ["tuple", "NoneType", "str", "int", "dict"], PySem.W.notFirst K C (.type t) = true
  ns : PySem.W.notFirst K C (.ref C) = true
theorem ko_ty {K : PySem.W.Frag} {C p : Addr} {H : Hp} {es : List (List Nat)} {cl ho : List Nat} {sv : Bool} (T : KC K C) (J : KI K C) (k : KO C H p es cl ho sv) : TyX K H (.ref p) (.ref C) := by
  obtain ⟨⟨dx, e, c, h, t, hp, _⟩, _⟩ := k
  exact .base (.ins hp T.cl J.ha J.hn J.htk J.hm)
def same4 (es : List (List Nat)) (cl ho : List Nat) (sv : Bool) (es' : List (List Nat)) (cl' ho' : List Nat) (sv' : Bool) : Bool := decide (es = es') && (decide (cl = cl') && (decide (ho = ho') && decide (sv = sv')))
/-- what y is to kinds -/
def EqTo (K : PySem.W.Frag) (C : Addr) (H : Hp) (y : V) (es : List (List Nat)) (cl ho : List Nat) (sv : Bool) (b : Bool) : Prop :=
  (∃ q es' cl' ho' sv', y = .ref q ∧ KO C H q es' cl' ho' sv' ∧ b = same4 es cl ho sv es' cl' ho' sv') ∨ (∃ t ∈ ["tuple", "NoneType", "str", "int", "dict"], TyX K H y (.type t) ∧ b = false)
def spEq (K : PySem.W.Frag) (C : Addr) : Sp := fun vs H Q _ => ∃ (p : Addr) (y : V) (es : List (List Nat)) (cl ho : List Nat) (sv b : Bool), vs = [.ref p, y] ∧ KO C H p es cl ho sv ∧ EqTo K C H y es cl ho sv b ∧ Q (.bl b) H
def words (sv : Bool) : Str := if sv then "several elders" else "one elder"
def spWds : Sp := fun vs H Q _ => ∃ sv : Bool, vs = [.bl sv] ∧ Q (.str (words sv)) H
def parts (n c h : Nat) (sv : Bool) : List Str := [(Str.empty ++ toString ((n : Nat) : Int)) ++ " kinds", (Str.empty ++ toString ((c : Nat) : Int)) ++ " closed", (Str.empty ++ toString ((h : Nat) : Int)) ++ " hollow", words sv]
def txt (n c h : Nat) (sv : Bool) : Str := Txt.join ", " (parts n c h sv)
def spStr (C : Addr) : Sp := fun vs H Q _ => ∃ (p : Addr) (es : List (List Nat)) (cl ho : List Nat) (sv : Bool), vs = [.ref p] ∧ KO C H p es cl ho sv ∧ ∀ H', Same H H' → Q (.str (txt es.length cl.length ho.length sv)) H'
theorem log_small {n : Nat} (h : n ≤ 6) : (((n : Nat) : Int)).natAbs.log2 < 1920 := by
  rw [Int.natAbs_natCast]
  have : n.log2 ≤ n := Nat.log2_le_self n
  omega
def all7 (P : Nat → Nat → Nat → Bool → Bool) : Bool := (List.range 7).all fun n => (List.range 7).all fun c => (List.range 7).all fun h => P n c h true && P n c h false
theorem all7_of {P : Nat → Nat → Nat → Bool → Bool} (h : all7 P = true) {a b c : Nat} {sv : Bool} (ha : a ≤ 6) (hb : b ≤ 6) (hc : c ≤ 6) : P a b c sv = true := by
  have h1 := List.all_eq_true.mp h a (List.mem_range.mpr (by omega))
  have h2 := List.all_eq_true.mp h1 b (List.mem_range.mpr (by omega))
  have h3 := List.all_eq_true.mp h2 c (List.mem_range.mpr (by omega))
  rw [Bool.and_eq_true] at h3
  cases sv with
  | true => exact h3.1
  | false => exact h3.2
theorem parts_sum : all7 (fun n c h sv => decide (((parts n c h sv).map (·.length)).sum + (parts n c h sv).length * (", " : Str).length ≤ 16777216)) = true := by decide +kernel
theorem parts_len : all7 (fun n c h sv => (parts n c h sv).all fun x => decide (x.length ≤ 40)) = true := by decide +kernel
theorem txt_small : ((List.range 7).all fun n => decide (((Str.empty ++ toString ((n : Nat) : Int)) : Str).length ≤ 10)) = true := by decide +kernel
end
end Kc

set_option Elab.async false
set_option linter.all false
set_option maxRecDepth 100000
set_option maxHeartbeats 4000000
namespace Kc
open PySem PySem.Spec PyProof.Rows L2 Kg Kd Kr Kf Kl LamX Km
abbrev sParts : Stmt := topS 6
abbrev nParts : List Str := ["items", "found", "item", "part"]
theorem scParts : FnScope nParts ["items"] (defScope sParts) := ⟨rfl, rfl, rfl, by decide +kernel, rfl, by decide +kernel, by decide +kernel⟩
def spParts (T : List (Addr × Str)) : Sp := fun vs H Q _ => ∃ (v : V) (l : List Nat), vs = [v] ∧ Tu H v (pdI l) ∧ l.Pairwise (· < ·) ∧ l.length ≤ 6 ∧ Tabs T H ∧ ∀ H' q ps, Gr T H H' → Tu H' (.ref q) (pdE ps) → IsParts l ps → Q (.ref q) H'
abbrev qParts : Str := "parts_of.<locals>.<lambda>"
/-- what a def that makes a lambda leans on -/
structure Lm (mg : Str → Option Value) (base : Heap) (T : List (Addr × Str)) (fd : FuncData) (q : Str) : Prop where
  ex : ∃ c Pt, fd.code = .ref c ∧ TabB base mg c Pt ∧ (Pt, q) ∈ T ∧ ∀ p ∈ T, p.1 = Pt → p.2 = q
section
variable {P : Program} {w : World} {K : PySem.W.Frag} {mg : Str → Option Value} {base : Heap} {f : Addr} {fd : FuncData} {k : Nat}
theorem ok_parts {T : List (Addr × Str)} (F : Fun K "parts_of" "parts_of" sParts f fd) (B : Bl mg) (M : Bm mg) (L : Lm mg base T fd qParts) : FnOk P w K mg base CX0 4 f fd ["items"] (spParts T) := by
  obtain ⟨c, Pt, hcode, TB, hmT, huT⟩ := L.ex
  refine okC F scParts (fun vs H Q E h => ?_) (fun A outer s H vs Q E hr h => ?_)
  · obtain ⟨v, l, rfl, _⟩ := h
    rfl
  · obtain ⟨v, l, rfl, tv, la, l6, hT, q⟩ := h
    refine ⟨_, pss_cons (ps_set (i := 1) scParts.nd rfl (.inl rfl) (pe_lst (pa_cons (pe_tup pa_nil) pa_nil)))
      (pss_cons (ps_for PassesOwn.never rfl (pi_tup (pv 0)) (pg_name (i := 2) scParts.nd rfl (.inr rfl))
        (pss_one (ps_set (i := 1) scParts.nd rfl (.inl rfl) (pe_op op_cat (pv 1) (pe_lc (own := [("part", 3)]) (g := gName 3) rfl scParts.nd (pi_list (pv 1)) (blkOk_by (N := nParts) (sc := defScope sParts) (by decide +kernel)) (fun _ _ _ _ _ => pg_name (i := 3) scParts.nd rfl (Or.inl rfl)) (fun _ _ _ _ _ => pts_nil)
          (fun _ _ _ _ _ => pe_op op_catN (pv 3) (pe_tup (pa_cons (pv 2) pa_nil))))))))
      (pss_one (ps_ret (pe_callTy call_tupN (by rfl) B.tuple PyProof.Rows.boot_tuple (pa_cons (pe_sortLam (T := T) (c := c) (P := Pt) (k := 0) (a := "some") (by rfl) M.sorted (by decide +kernel) (pa_cons (pv 1) pa_nil) TB hcode hmT huT hr (lamS1_by (sc := defScope sParts) (by decide +kernel)) (show Str.ofString "some" ∉ nParts by decide) rfl (fun _ _ _ _ _ _ => rfl)
          (fun A s H f c' hr' => pe_tup (pa_cons (pe_callB (call_lenK (K := K) rfl) (by rfl) B.len PySem.boot_len (pa_cons (pv 0) pa_nil)) (pa_cons (pv 0) pa_nil)))) pa_nil))))), ?_⟩
    obtain ⟨a, rfl, ha, _⟩ := tu_inv tv
    refine ⟨(show 0 ≤ sizeLine by decide), fun t0 n0 => ⟨(show 1 ≤ sizeLine by decide), fun L0 nL => ?_⟩⟩
    have s0 := same_new (o := HO.tup []) n0
    have s1 := same_new (o := HO.lst [V.ref t0]) nL
    have s01 := s0.trans s1
    refine ⟨_, rfl, a, rfl, ⟨_, SqT.of (s01 _ _ ha)⟩, for_tup (K := K) (a := a) (xs := l.map iV) (fun i σ H1 => ∃ (y2 y3 : Option V) (L1 : Addr) (xs : List V), σ = [some (.ref a), some (.ref L1), y2, y3] ∧ Same H H1 ∧ H1 L1 = some (.lst xs) ∧ TuAll H1 xs ((prt (l.take i)).map pdI))
      ⟨none, none, L0, [.ref t0], rfl, s01, upd_same, .cons (tu_ints (l := []) (s1 _ _ upd_same) (by decide)) .nil⟩ (fun i σ H1 _ p => by obtain ⟨_, _, _, _, _, p, _⟩ := p; exact SqT.of (p _ _ ha)) (fun i x σ H1 hx p => ?_) (fun σ H1 p => ?_)⟩
    · obtain ⟨y2, y3, L1, xs, rfl, s2, hL, hX⟩ := p
      obtain ⟨z, hz, rfl⟩ := map_get hx
      have il : i < l.length := (List.getElem?_eq_some_iff.mp hz).1
      have pl : (prt (l.take i)).length ≤ 64 := by
        rw [prt_len, List.length_take]
        have : 2 ^ (min i l.length) ≤ 2 ^ 6 := Nat.pow_le_pow_right (by decide) (by omega)
        simpa using this
      have xl : xs.length = (prt (l.take i)).length := by rw [hX.length, List.length_map]
      refine ⟨_, rfl, _, rfl, L1, rfl, ⟨_, SqL.of hL⟩, fun D nD => ?_⟩
      refine lc_list (K := K) (a := L1) (xs := xs) (fun j H3 => ∃ us : List V, Same H1 H3 ∧ H3 D = some (.lst us) ∧ TuAll H3 us ((((prt (l.take i)).take j).map fun p => p ++ [z]).map pdI)) ⟨[], same_new nD, upd_same, .nil⟩ (fun j H3 _ pp => by obtain ⟨_, pp, _⟩ := pp; exact SqL.of (pp _ _ hL)) (fun j x H3 hxj pp => ?_) (fun H3 pp => ?_)
      · obtain ⟨us, s3, hD, hU⟩ := pp
        obtain ⟨d, hd, td⟩ := hX.get hxj
        obtain ⟨m, hm, rfl⟩ := map_get hd
        obtain ⟨b, rfl, hb, _⟩ := tu_inv (td.same s3)
        have jl : j < (prt (l.take i)).length := (List.getElem?_eq_some_iff.mp hm).1
        have ml : m.length ≤ 6 := by
          have := (prt_mem.mp (List.mem_of_getElem? hm)).length_le
          rw [List.length_take] at this; omega
        have ul : us.length = j := by rw [hU.length, List.length_map, List.length_map, List.length_take]; omega
        refine ⟨rfl, _, rfl, _, rfl, (show 1 ≤ sizeLine by decide), fun t nt => ?_⟩
        have s4 := same_new (o := HO.tup [V.int ((z : Nat) : Int)]) nt
        refine ⟨b, t, _, _, rfl, rfl, s4 _ _ hb, upd_same, by rw [List.length_map]; show m.length + 1 ≤ 1000; omega, fun qa H5 s5 hq => ?_⟩
        have s35 := s4.trans s5
        have hD5 := s35 _ _ hD
        refine ⟨us, hD5, small1000 (by omega), us ++ [.ref qa], fun bb o y => ?_, upd_same, ?_⟩
        · rw [upd_ne (ne_of_none y nD)]; exact s35 _ _ (s3 _ _ y)
        · rw [List.take_add_one, hm, List.map_append, List.map_append]
          refine ((hU.keep (.of_same s35)).append (.cons ?_ .nil)).keep (KF.putL hD5)
          refine tu_ints (l := m ++ [z]) ?_ (by rw [List.length_append, List.length_singleton]; omega)
          rw [hq, List.map_append]; rfl
      · obtain ⟨us, s3, hD, hU⟩ := pp
        rw [xl, List.take_length] at hU
        have ul : us.length ≤ 64 := by rw [hU.length, List.length_map, List.length_map]; exact pl
        refine ⟨L1, D, _, _, rfl, rfl, s3 _ _ hL, hD, Nat.le_of_lt (small1000 (by omega)), fun c nc => ?_⟩
        have s4 := same_new (o := HO.lst (xs ++ us)) nc
        have s34 := s3.trans s4
        refine ⟨_, _, c, xs ++ us, rfl, s2.trans s34, upd_same, ?_⟩
        rw [prt_take hz, List.map_append]
        exact (hX.keep (.of_same s34)).append (hU.keep (.of_same s4))
    · obtain ⟨y2, y3, L1, xs, rfl, s2, hL, hX⟩ := p
      rw [List.length_map, List.take_length] at hX
      have pl : (prt l).length ≤ 64 := by
        rw [prt_len]
        have : 2 ^ l.length ≤ 2 ^ 6 := Nat.pow_le_pow_right (by decide) l6
        simpa using this
      have xl : xs.length = (prt l).length := by rw [hX.length, List.length_map]
      refine ⟨_, rfl, L1, xs, fun x => gLen (dec H1 x), rfl, hL, tus_ref hX, by omega, hT.ext s2, fun H2 e2 x hx => ?_, fun ys p H' srt stb e2 t2 hp => ?_⟩
      · obtain ⟨b, rfl, hb, _⟩ := tu_inv (tus_mem hX x hx)
        have hb2 : H2 b = some (.tup ((dec H1 (V.ref b)).map iV)) := e2 _ _ hb fun _ z => nomatch z
        refine ⟨_, rfl, b, _, rfl, .inr (SqT.of hb2), _, rfl, (show 2 ≤ sizeLine by decide), fun t nt => ?_⟩
        have s4 := same_new (o := HO.tup [V.int ((((dec H1 (V.ref b)).map iV).length : Nat) : Int), V.ref b]) nt
        refine ⟨s4, t, b, rfl, ?_, SqT.of ?_⟩
        · rw [upd_same]
          show _ = some (HO.tup [V.int (((dec H1 (V.ref b)).length : Nat) : Int), V.ref b])
          rw [List.length_map]
        · rw [s4 _ _ hb2]
          show _ = some (HO.tup ((ci (dec H1 (V.ref b))).map V.int))
          rw [ci_V]
      · obtain ⟨ms, h1, h2, h3, h4⟩ := dec_sorted lp_tri gLen_inj hX (prt_nodup la) srt stb.perm
        refine ⟨p, ys, rfl, .inl hp, fun qa H3 s3 hq => ?_⟩
        have g : Gr T H1 H' := ⟨e2, fun _ => t2⟩
        refine q H3 qa ms (Gr.aft s2 (g.thn s3)) (.tup hq ?_ (g.thn s3 |>.tus h1)) ⟨h2, fun x => (h3 x).trans prt_mem⟩
        rw [h1.length, List.length_map]; omega
end
end Kc

set_option Elab.async false
set_option linter.all false
set_option maxRecDepth 100000
set_option maxHeartbeats 4000000
namespace Kc
open PySem PySem.Spec PyProof.Rows L2 Kg Kd Kr Kf
section
variable {P : Program} {w : World} {K : PySem.W.Frag} {mg : Str → Option Value} {base : Heap} {f : Addr} {fd : FuncData} {k : Nat}
abbrev sGS : Stmt := inClass sCls 4
theorem scGS : FnScope ["self"] ["self"] (defScope sGS) := ⟨rfl, rfl, rfl, by decide +kernel, rfl, by decide +kernel, by decide +kernel⟩
theorem ok_gs {C : Addr} (F : Fun K "several" "Kinds.several" sGS f fd) (T : KC K C) : FnOk P w K mg base CX0 (k + 1) f fd ["self"] (getSp C "kept_several") := by
  refine F.ok scGS (fun vs H Q E h => ?_) (fun cdv A outer s H vs Q E hr h => ?_)
  · obtain ⟨a, dx, fs, v, rfl, _⟩ := h
    rfl
  · obtain ⟨a, dx, fs, v, rfl, ea, l, q⟩ := h
    exact ⟨_, pss_one (ps_ret (pe_fld (pv 0) rfl)), _, rfl, a, C, dx, fs, v, rfl, ea, T.cl, T.n4, l, q⟩
end
end Kc

set_option Elab.async false
set_option linter.all false
set_option maxRecDepth 100000
set_option maxHeartbeats 4000000
namespace Kc
open PySem PySem.Spec PyProof.Rows L2 Kg Kd Kr Kf
section
variable {P : Program} {w : World} {K : PySem.W.Frag} {mg : Str → Option Value} {base : Heap} {f : Addr} {fd : FuncData} {k : Nat}
abbrev sOpn : Stmt := inClass sCls 8
abbrev nOpn : List Str := ["self", "kind"]
theorem scOpn : FnScope nOpn ["self"] (defScope sOpn) := ⟨rfl, rfl, rfl, by decide +kernel, rfl, by decide +kernel, by decide +kernel⟩
theorem ok_opn {C : Addr} (F : Fun K "opened" "Kinds.opened" sOpn f fd) (B : Bl mg) (T : KC K C) : FnOk P w K mg base CX0 (k + 1) f fd ["self"] (spOpn C) := by
  refine F.ok scOpn (fun vs H Q E h => ?_) (fun cdv A outer s H vs Q E hr h => ?_)
  · obtain ⟨p, es, cl, ho, sv, rfl, _⟩ := h
    rfl
  · obtain ⟨p, es, cl, ho, sv, rfl, ⟨⟨dx, e, c, h, t, hp, he, hc, hh, ht⟩, EL, SC, SH⟩, q⟩ := h
    obtain ⟨a, xs, rfl, ha, xl, hA⟩ := tu_elders he
    obtain ⟨ac, rfl, hac, acl⟩ := tu_inv hc
    have n6 := EL.hi
    refine ⟨_, pss_one (ps_ret (pe_callTy call_tuple_of (by rfl) B.tuple PyProof.Rows.boot_tuple (pa_cons (pe_lc (own := [("kind", 1)]) (g := gName 1) rfl scOpn.nd (pi_range1 (by rfl) B.range (pa_cons (pe_callB call_len_seq (by rfl) B.len PySem.boot_len (pa_cons (pe_fld (pv 0) rfl) pa_nil)) pa_nil))
        (blkOk_by (N := nOpn) (sc := defScope sOpn) (by decide +kernel)) (fun _ _ _ _ _ => pg_name (i := 1) scOpn.nd rfl (Or.inl rfl)) (fun _ _ _ _ _ => pts_one (pt_cmpR (op_notInK (K := K) rfl) (pv 1) (pe_fldK (K := K) rfl (pv 0) rfl) rfl))
        (fun _ _ _ _ _ => pv 1)) pa_nil))), ?_⟩
    refine ⟨_, rfl, p, C, dx, _, .ref a, rfl, hp, T.cl, T.n1, rfl, a, xs, rfl, .inr (SqT.of ha), (es.length : Nat), by rw [xl], by omega, by omega, fun D nD => ?_⟩
    rw [Int.toNat_natCast]
    refine lc_filt (fun i => !decide (i ∈ cl)) nD (by omega) (fun i H1 hi s1 R R0 hR => ?_) (fun H1 s1 hD => ?_)
    · have hR' := hR H1 (Same.refl _)
      rw [Int.zero_add]
      refine ⟨rfl, _, rfl, _, rfl, p, C, dx, _, .ref ac, rfl, s1 _ _ hp, T.cl, T.n2, rfl, ac, _, rfl, .inr (SqT.of (s1 _ _ hac)), rfl, flat_iV _, _, rfl, ?_⟩
      by_cases cc : i ∈ cl
      · refine iteE (by show (!inV _ _) = false; rw [inV_iV, decide_eq_true cc]; rfl) (hR'.2 (by rw [decide_eq_true cc]; rfl))
      · refine iteD (by show (!inV _ _) = true; rw [inV_iV, decide_eq_false cc]; rfl) ⟨_, rfl, hR'.1 (by rw [decide_eq_false cc]; rfl)⟩
    · refine ⟨D, _, rfl, .inl ⟨SqL.of hD, fun q5 nq => ?_⟩⟩
      refine q _ q5 (s1.trans (same_new nq)) (s1.free nq) (tu_ints (l := dif es.length cl) upd_same ?_)
      have := rgf_len (fun i => !decide (i ∈ cl)) es.length
      unfold dif
      omega
end
end Kc

set_option Elab.async false
set_option linter.all false
set_option maxRecDepth 100000
set_option maxHeartbeats 4000000
namespace Kc
open PySem PySem.Spec PyProof.Rows L2 Kg Kd Kr Kf Kl LamX Km
abbrev sSing : Stmt := topS 12
abbrev nSing : List Str := ["kinds", "part", "kind"]
theorem scSing : FnScope nSing ["kinds"] (defScope sSing) := ⟨rfl, rfl, rfl, by decide +kernel, rfl, by decide +kernel, by decide +kernel⟩
def spSing (T : List (Addr × Str)) (C : Addr) : Sp := fun vs H Q _ => ∃ (p : Addr) (es : List (List Nat)) (cl ho : List Nat) (sv : Bool), vs = [.ref p] ∧ KO C H p es cl ho sv ∧ Tabs T H ∧
  ∀ H' q us sg, Gr T H H' → H' q = some (.lst us) → TuAll H' us (sg.map pdI) → IsSing es.length cl sv sg → Q (.ref q) H'
section
variable {P : Program} {w : World} {K : PySem.W.Frag} {mg : Str → Option Value} {base : Heap} {f : Addr} {fd : FuncData} {k : Nat}
theorem ok_sing {C : Addr} {T : List (Addr × Str)} (F : Fun K "single_elders" "single_elders" sSing f fd) (B : Bl mg) (TC : KC K C) (GS : PCal P w K mg base C "several" 1 (getSp C "kept_several")) (GO : MCal P w K mg base C "opened" 1 ["self"] (spOpn C)) (GP : Cal P w K mg base "parts_of" 4 ["items"] (spParts T)) : FnOk P w K mg base CX0 5 f fd ["kinds"] (spSing T C) := by
  refine F.ok scSing (fun vs H Q E h => ?_) (fun cdv A outer s H vs Q E hr h => ?_)
  · obtain ⟨p, es, cl, ho, sv, rfl, _⟩ := h
    rfl
  · obtain ⟨p, es, cl, ho, sv, rfl, ko, hT, q⟩ := h
    have hr1 := hr.mono (show 1 ≤ 4 by decide)
    have hr2 := hr.mono (show 2 ≤ 4 by decide)
    refine ⟨_, pss_cons (ps_if (pt_val (pe_pcal (pv 0) TC.cl GS hr2)) (pss_one (ps_ret (pe_lc (own := [("part", 1)]) (g := gName 1) rfl scSing.nd (pi_tup (pe_cal GP hr (by rfl) (pa_cons (pe_mcal0 (pv 0) TC.cl GO hr1) pa_nil)))
          (blkOk_by (N := nSing) (sc := defScope sSing) (by decide +kernel)) (fun _ _ _ _ _ => pg_name (i := 1) scSing.nd rfl (Or.inl rfl)) (fun _ _ _ _ _ => pts_one (pt_cmpR op_gt (pe_callB (call_lenK (K := K) rfl) (by rfl) B.len PySem.boot_len (pa_cons (pv 1) pa_nil)) pe_int (nomark _))) (fun _ _ _ _ _ => pv 1)))) pss_nil)
      (pss_one (ps_ret (pe_lc (own := [("kind", 2)]) (g := gName 2) rfl scSing.nd (pi_tup (pe_mcal0 (pv 0) TC.cl GO hr1))
          (blkOk_by (N := nSing) (sc := defScope sSing) (by decide +kernel)) (fun _ _ _ _ _ => pg_name (i := 2) scSing.nd rfl (Or.inl rfl)) (fun _ _ _ _ _ => pts_nil) (fun _ _ _ _ _ => pe_tup (pa_cons (pv 2) pa_nil))))), ?_⟩
    have n6 := ko.el.hi
    obtain ⟨⟨dx, e, c, h, t, hp, he, hc, hh, ht⟩, _⟩ := id ko
    refine ⟨_, rfl, p, dx, _, rfl, hp, p, dx, _, .bl sv, rfl, hp, rfl, _, rfl, ?_⟩
    have ol : (opn es.length cl).length ≤ 6 := by
      have := rgf_len (fun i => !decide (i ∈ cl)) es.length
      unfold opn; omega
    cases sv with
    | true =>
      refine iteT ⟨_, rfl, p, dx, _, rfl, hp, rfl, p, es, cl, ho, true, rfl, ko, fun H1 q1 s1 n1 t1 => ?_⟩
      refine ⟨.ref q1, opn es.length cl, rfl, t1, opn_asc _ _, ol, hT.ext s1, fun H2 q2 ps g2 t2 ip => ?_⟩
      obtain ⟨a, xs, ea, ha, xl, hA⟩ := tu_elders t2
      cases ea
      have pl : ps.length ≤ 64 := by
        have z := ip.len
        have : 2 ^ (opn es.length cl).length ≤ 2 ^ 6 := Nat.pow_le_pow_right (by decide) ol
        omega
      refine ⟨q2, rfl, ⟨_, SqT.of ha⟩, fun D nD => ?_⟩
      refine lc_tup (K := K) (a := q2) (xs := xs) (fun j H3 => ∃ us : List V, Same H2 H3 ∧ H3 D = some (.lst us) ∧ TuAll H3 us (((ps.take j).filter fun p => decide (0 < p.length)).map pdI) ∧ us.length ≤ j) ⟨[], same_new nD, upd_same, .nil, Nat.le_refl _⟩ (fun j H3 _ pp => by obtain ⟨_, pp, _⟩ := pp; exact SqT.of (pp _ _ ha)) (fun j x H3 hxj pp => ?_) (fun H3 pp => ?_)
      · obtain ⟨us, s3, hD, hU, ul⟩ := pp
        obtain ⟨d, hd, td⟩ := hA.get hxj
        obtain ⟨m, hm, rfl⟩ := map_get hd
        have td3 := td.same s3
        obtain ⟨b, rfl, hb, _⟩ := tu_inv td3
        have jl : j < ps.length := (List.getElem?_eq_some_iff.mp hm).1
        refine ⟨rfl, _, rfl, b, _, rfl, .inr (SqT.of hb), _, 0, rfl, rfl, _, rfl, ?_⟩
        rw [List.length_map]
        have tk : ps.take (j + 1) = ps.take j ++ [m] := by rw [List.take_add_one, hm]; rfl
        by_cases cc : 0 < m.length
        · rw [decide_eq_true (by omega : ((m.length : Nat) : Int) > 0)]
          refine iteT ⟨_, rfl, us, hD, small1000 (by omega), us ++ [.ref b], fun bb o z => ?_, upd_same, ?_, by rw [List.length_append, List.length_singleton]; omega⟩
          · rw [upd_ne (ne_of_none z nD)]; exact s3 _ _ z
          · rw [tk, List.filter_append, List.map_append]
            have e1 : [m].filter (fun p => decide (0 < p.length)) = [m] := by simp [cc]
            rw [e1]
            exact (hU.append (.cons td3 .nil)).keep (KF.putL hD)
        · rw [decide_eq_false (by omega : ¬ ((m.length : Nat) : Int) > 0)]
          refine iteF ⟨us, s3, hD, ?_, by omega⟩
          rw [tk, List.filter_append]
          have e1 : [m].filter (fun p => decide (0 < p.length)) = [] := by simp [cc]
          rw [e1, List.append_nil]; exact hU
      · obtain ⟨us, s3, hD, hU, ul⟩ := pp
        rw [xl, List.take_length] at hU
        exact q H3 D us _ (Gr.aft s1 (g2.thn s3)) hD hU (sing_parts ip)
    | false =>
      refine iteF ⟨_, rfl, p, dx, _, rfl, hp, rfl, p, es, cl, ho, false, rfl, ko, fun H1 q1 s1 n1 t1 => ?_⟩
      obtain ⟨a, ea, ha, _⟩ := tu_inv t1
      cases ea
      refine ⟨q1, rfl, ⟨_, SqT.of ha⟩, fun D nD => ?_⟩
      refine lc_tup (K := K) (a := q1) (xs := (opn es.length cl).map iV) (fun j H3 => ∃ us : List V, Same H1 H3 ∧ H3 D = some (.lst us) ∧ TuAll H3 us ((((opn es.length cl).take j).map fun k => [k]).map pdI)) ⟨[], same_new nD, upd_same, .nil⟩ (fun j H3 _ pp => by obtain ⟨_, pp, _⟩ := pp; exact SqT.of (pp _ _ ha)) (fun j x H3 hxj pp => ?_) (fun H3 pp => ?_)
      · obtain ⟨us, s3, hD, hU⟩ := pp
        obtain ⟨m, hm, rfl⟩ := map_get hxj
        have jl : j < (opn es.length cl).length := (List.getElem?_eq_some_iff.mp hm).1
        have ul : us.length = j := by rw [hU.length, List.length_map, List.length_map, List.length_take]; omega
        refine ⟨rfl, _, rfl, (show 1 ≤ sizeLine by decide), fun t nt => ?_⟩
        have s4 := same_new (o := HO.tup [iV m]) nt
        have hD4 := s4 _ _ hD
        refine ⟨us, hD4, small1000 (by omega), us ++ [.ref t], fun bb o z => ?_, upd_same, ?_⟩
        · rw [upd_ne (ne_of_none z nD)]; exact s4 _ _ (s3 _ _ z)
        · rw [List.take_add_one, hm, List.map_append, List.map_append]
          exact ((hU.keep (.of_same s4)).append (.cons (tu_ints (l := [m]) upd_same (show 1 ≤ 1000 by decide)) .nil)).keep (KF.putL hD4)
      · obtain ⟨us, s3, hD, hU⟩ := pp
        rw [List.length_map, List.take_length] at hU
        exact q H3 D us _ (.of (s1.trans s3)) hD hU sing_one
end
end Kc

set_option Elab.async false
set_option linter.all false
set_option maxRecDepth 100000
set_option maxHeartbeats 4000000
namespace Kc
open PySem PySem.Spec PyProof.Rows L2 Kg Kd Kr Kf
section
variable {P : Program} {w : World} {K : PySem.W.Frag} {mg : Str → Option Value} {base : Heap} {f : Addr} {fd : FuncData} {k : Nat}
abbrev sGH : Stmt := inClass sCls 3
theorem scGH : FnScope ["self"] ["self"] (defScope sGH) := ⟨rfl, rfl, rfl, by decide +kernel, rfl, by decide +kernel, by decide +kernel⟩
theorem ok_gh {C : Addr} (F : Fun K "hollow" "Kinds.hollow" sGH f fd) (T : KC K C) : FnOk P w K mg base CX0 (k + 1) f fd ["self"] (getSp C "kept_hollow") := by
  refine F.ok scGH (fun vs H Q E h => ?_) (fun cdv A outer s H vs Q E hr h => ?_)
  · obtain ⟨a, dx, fs, v, rfl, _⟩ := h
    rfl
  · obtain ⟨a, dx, fs, v, rfl, ea, l, q⟩ := h
    exact ⟨_, pss_one (ps_ret (pe_fld (pv 0) rfl)), _, rfl, a, C, dx, fs, v, rfl, ea, T.cl, T.n3, l, q⟩
end
end Kc

set_option Elab.async false
set_option linter.all false
set_option maxRecDepth 100000
set_option maxHeartbeats 4000000
namespace Kc
open PySem PySem.Spec PyProof.Rows L2 Kg Kd Kr Kf
section
variable {P : Program} {w : World} {K : PySem.W.Frag} {mg : Str → Option Value} {base : Heap} {f : Addr} {fd : FuncData} {k : Nat}
abbrev sLen : Stmt := inClass sCls 11
theorem scLen : FnScope ["self"] ["self"] (defScope sLen) := ⟨rfl, rfl, rfl, by decide +kernel, rfl, by decide +kernel, by decide +kernel⟩
theorem ok_len {C : Addr} (F : Fun K "__len__" "Kinds.__len__" sLen f fd) (B : Bl mg) (T : KC K C) : FnOk P w K mg base CX0 (k + 1) f fd ["self"] (spLen C) := by
  refine F.ok scLen (fun vs H Q E h => ?_) (fun cdv A outer s H vs Q E hr h => ?_)
  · obtain ⟨p, es, cl, ho, sv, rfl, _⟩ := h
    rfl
  · obtain ⟨p, es, cl, ho, sv, rfl, ⟨⟨dx, e, c, h, t, hp, he, hc, hh, ht⟩, EL, SC, SH⟩, q⟩ := h
    obtain ⟨a, xs, rfl, ha, xl, hA⟩ := tu_elders he
    refine ⟨_, pss_one (ps_ret (pe_callB call_len_seq (by rfl) B.len PySem.boot_len (pa_cons (pe_fld (pv 0) rfl) pa_nil))), _, rfl, p, C, dx, _, .ref a, rfl, hp, T.cl, T.n1, rfl, a, xs, rfl, .inr (SqT.of ha), ?_⟩
    show Q (.int (xs.length : Nat)) H
    rw [xl]; exact q
end
end Kc

set_option Elab.async false
set_option linter.all false
set_option maxRecDepth 100000
set_option maxHeartbeats 4000000
namespace Kc
open PySem PySem.Spec PyProof.Rows L2 Kg Kd Kr Kf Kl
abbrev sMem : Stmt := topS 11
abbrev nMem : List Str := ["kinds", "extension", "many", "number"]
theorem scMem : FnScope nMem ["kinds", "extension"] (defScope sMem) := ⟨rfl, rfl, rfl, by decide +kernel, rfl, by decide +kernel, by decide +kernel⟩
def spMem (C : Addr) : Sp := fun vs H Q _ => ∃ (p : Addr) (v : V) (ds : List PyData) (es : List (List Nat)) (cl ho : List Nat) (sv : Bool), vs = [.ref p, v] ∧ KO C H p es cl ho sv ∧ Tu H v (.tuple ds) ∧ ds.length ≤ 4 ∧
  ∀ H' q, Same H H' → Tu H' (.ref q) (pdI (opn (es.length + ds.length) ho)) → Q (.ref q) H'
section
variable {P : Program} {w : World} {K : PySem.W.Frag} {mg : Str → Option Value} {base : Heap} {f : Addr} {fd : FuncData} {k : Nat}
theorem ok_mem {C : Addr} (F : Fun K "members" "members" sMem f fd) (B : Bl mg) (T : KC K C) (GL : SCal P w K mg base C "__len__" 1 ["self"] (spLen C)) (GH : PCal P w K mg base C "hollow" 1 (getSp C "kept_hollow")) : FnOk P w K mg base CX0 3 f fd ["kinds", "extension"] (spMem C) := by
  refine F.ok scMem (fun vs H Q E h => ?_) (fun cdv A outer s H vs Q E hr h => ?_)
  · obtain ⟨p, v, ds, es, cl, ho, sv, rfl, _⟩ := h
    rfl
  · obtain ⟨p, v, ds, es, cl, ho, sv, rfl, ko, tv, d4, q⟩ := h
    refine ⟨_, pss_cons (ps_set (i := 2) scMem.nd rfl (.inl rfl) (pe_op op_add (pe_callB (call_lenC GL hr) (by rfl) B.len PySem.boot_len (pa_cons (pv 0) pa_nil)) (pe_callB call_len_seq (by rfl) B.len PySem.boot_len (pa_cons (pv 1) pa_nil))))
      (pss_one (ps_ret (pe_callTy call_tuple_of (by rfl) B.tuple PyProof.Rows.boot_tuple (pa_cons (pe_lc (own := [("number", 3)]) (g := gName 3) rfl scMem.nd (pi_range1 (by rfl) B.range (pa_cons (pv 2) pa_nil))
        (blkOk_by (N := nMem) (sc := defScope sMem) (by decide +kernel)) (fun _ _ _ _ _ => pg_name (i := 3) scMem.nd rfl (Or.inl rfl)) (fun _ _ _ _ _ => pts_one (pt_cmpR (op_notInK (K := K) rfl) (pv 3) (pe_pcal (pv 0) T.cl GH hr) rfl))
        (fun _ _ _ _ _ => pv 3)) pa_nil)))), ?_⟩
    have n6 := ko.el.hi
    obtain ⟨⟨dx, e, c, h, t, hp, he, hc, hh, ht⟩, _⟩ := id ko
    obtain ⟨ah, rfl, hah, ahl⟩ := tu_inv hh
    cases tv with
    | @tup a xs _ ha hal hA =>
    have xl : xs.length = ds.length := hA.length
    refine ⟨_, rfl, p, dx, _, rfl, hp, p, es, cl, ho, sv, rfl, ko, (es.length : Nat), rfl, by omega, by omega, _, rfl, a, xs, rfl, .inr (SqT.of ha), _, _, rfl, rfl, ?_⟩
    have e1 : ((es.length : Nat) : Int) + ((xs.length : Nat) : Int) = ((es.length + ds.length : Nat) : Int) := by omega
    refine ⟨_, rfl, ((es.length + ds.length : Nat) : Int), by rw [← e1], by omega, by omega, fun D nD => ?_⟩
    rw [Int.toNat_natCast]
    refine lc_filt (fun i => !decide (i ∈ ho)) nD (by omega) (fun i H1 hi s1 R R0 hR => ?_) (fun H1 s1 hD => ?_)
    · have hR' := hR H1 (Same.refl _)
      rw [Int.zero_add]
      refine ⟨rfl, _, rfl, _, rfl, p, dx, _, rfl, s1 _ _ hp, p, dx, _, .ref ah, rfl, s1 _ _ hp, rfl, ah, _, rfl, .inr (SqT.of (s1 _ _ hah)), rfl, flat_iV _, _, rfl, ?_⟩
      by_cases cc : i ∈ ho
      · refine iteE (by show (!inV _ _) = false; rw [inV_iV, decide_eq_true cc]; rfl) (hR'.2 (by rw [decide_eq_true cc]; rfl))
      · refine iteD (by show (!inV _ _) = true; rw [inV_iV, decide_eq_false cc]; rfl) ⟨_, rfl, hR'.1 (by rw [decide_eq_false cc]; rfl)⟩
    · refine ⟨D, _, rfl, .inl ⟨SqL.of hD, fun q5 nq => ?_⟩⟩
      refine q _ q5 (s1.trans (same_new nq)) (tu_ints (l := opn (es.length + ds.length) ho) upd_same ?_)
      have := rgf_len (fun i => !decide (i ∈ ho)) (es.length + ds.length)
      unfold opn
      omega
end
end Kc

set_option Elab.async false
set_option linter.all false
set_option maxRecDepth 100000
set_option maxHeartbeats 4000000
namespace Kc
open PySem PySem.Spec PyProof.Rows L2 Kg Kd Kr Kf Kl
abbrev sJoin : Stmt := topS 9
theorem scJoin : FnScope ["some", "found", "each"] ["some"] (defScope sJoin) := ⟨rfl, rfl, rfl, by decide +kernel, rfl, by decide +kernel, by decide +kernel⟩
def spJoin : Sp := fun vs H Q _ => ∃ (l : Addr) (xs : List V) (ls : List (List Nat)) (n : Nat), vs = [.ref l] ∧ H l = some (.lst xs) ∧ TuAll H xs (ls.map pdI) ∧ n ≤ 6 ∧ (∀ m ∈ ls, Som n m) ∧ ls.length ≤ 10 ∧
  ∀ H' q, Same H H' → Tu H' (.ref q) (pdI (jn n ls)) → Q (.ref q) H'
section
variable {P : Program} {w : World} {K : PySem.W.Frag} {mg : Str → Option Value} {base : Heap} {f : Addr} {fd : FuncData} {k : Nat}
theorem ok_join (F : Fun K "joined" "joined" sJoin f fd) (B : Bl mg) (M : Bm mg) : FnOk P w K mg base CX0 (k + 1) f fd ["some"] spJoin := by
  refine F.ok scJoin (fun vs H Q E h => ?_) (fun cdv A outer s H vs Q E hr h => ?_)
  · obtain ⟨l, xs, ls, n, rfl, _⟩ := h
    rfl
  · obtain ⟨l, xs, ls, n, rfl, hl, hx, n6, hs, lm, q⟩ := h
    refine ⟨_, pss_cons (ps_set (i := 1) scJoin.nd rfl (.inl rfl) (pe_lst pa_nil))
      (pss_cons (ps_for PassesOwn.never rfl (pi_list (pv 0)) (pg_name (i := 2) scJoin.nd rfl (.inl rfl))
        (pss_one (ps_expr (pe_bm PySem.F.plainAttrs_list PySem.F.slot_list_extend PySem.F.type_list_extend mt_extT (pv 1) (pa_cons (pv 2) pa_nil)))))
      (pss_one (ps_ret (pe_callTy call_tuple_of (by rfl) B.tuple PyProof.Rows.boot_tuple (pa_cons (pe_callB (cr_sortedSet rfl) (by rfl) M.sorted (by decide +kernel) (pa_cons (pe_callTy (cr_setI rfl) (by rfl) M.set (by decide +kernel) (pa_cons (pv 1) pa_nil)) pa_nil)) pa_nil))))), ?_⟩
    refine ⟨(show 0 ≤ sizeLine by decide), fun Fo nF => ?_⟩
    have s0 := same_new (o := HO.lst []) nF
    have xl : xs.length = ls.length := by rw [hx.length, List.length_map]
    refine ⟨_, rfl, l, rfl, ⟨_, SqL.of (s0 _ _ hl)⟩, for_list (K := K) (a := l) (xs := xs) (fun j σ H4 => ∃ (y2 : Option V) (ns : List Nat), σ = [some (.ref l), some (.ref Fo), y2] ∧ Same H H4 ∧ H4 Fo = some (.lst (ns.map iV)) ∧ ns.length ≤ 6 * j ∧ ∀ x, x ∈ ns ↔ ∃ m ∈ ls.take j, x ∈ m)
      ⟨none, [], rfl, s0, upd_same, by simp, fun x => by simp⟩ (fun j σ H4 _ p => by obtain ⟨_, _, _, p, _⟩ := p; exact SqL.of (p _ _ hl)) (fun j x σ H4 hxj p => ?_) (fun σ H4 p => ?_)⟩
    · obtain ⟨y2, ns, rfl, s4, hF, nl, fn⟩ := p
      obtain ⟨d, hd, td⟩ := hx.get hxj
      obtain ⟨m, hm, rfl⟩ := map_get hd
      obtain ⟨b, rfl, hb, _⟩ := tu_inv (td.same s4)
      have jl : j < ls.length := (List.getElem?_eq_some_iff.mp hm).1
      have ml : m.length ≤ 6 := by have := (hs m (List.mem_of_getElem? hm)).len; omega
      refine ⟨_, rfl, .inl ⟨rfl, _, SqL.of hF⟩, _, rfl, Fo, b, _, _, rfl, rfl, hF, SqT.of hb, ?_, ?_⟩
      · rw [List.length_map, List.length_map]
        exact Nat.le_of_lt (small1000 (by omega))
      · refine ⟨_, ns ++ m, rfl, ?_, ?_, ?_, ?_⟩
        · exact fun bb o z => by rw [upd_ne (ne_of_none z nF)]; exact s4 _ _ z
        · rw [upd_same, List.map_append]
        · rw [List.length_append]; omega
        · intro x
          have hex : ls.take (j + 1) = ls.take j ++ [m] := by rw [List.take_add_one, hm]; rfl
          rw [List.mem_append, fn x, hex]
          constructor
          · rintro (⟨e, h1, h2⟩ | h)
            · exact ⟨e, List.mem_append_left _ h1, h2⟩
            · exact ⟨m, List.mem_append_right _ (List.mem_singleton.mpr rfl), h⟩
          · rintro ⟨e, h1, h2⟩
            rcases List.mem_append.mp h1 with h1 | h1
            · exact .inl ⟨e, h1, h2⟩
            · rw [List.mem_singleton.mp h1] at h2; exact .inr h2
    · obtain ⟨y2, ns, rfl, s4, hF, nl, fn⟩ := p
      rw [xl] at nl fn
      rw [List.take_length] at fn
      rw [map_iV] at hF
      refine ⟨_, rfl, Fo, _, rfl, .inl (SqL.of hF), (by rw [List.length_map]; omega), fun S c nS hc => ?_⟩
      have s5 := same_new (o := SetO w S (fun j => decide (j ∈ ns.map fun n => ((n : Nat) : Int))) c) nS
      refine ⟨S, _, c, rfl, upd_same, (by rw [List.length_map] at hc; omega), fun ms q5 ho hm hml nq => ?_⟩
      have em : ms = cast (jn n ls) := by
        unfold jn
        refine sorted_rg ho hm fun k => ?_
        rw [decide_eq_true_iff]
        show k ∈ cast ns ↔ _
        rw [cast_mem]
        refine exists_congr fun x => and_congr_right fun _ => ?_
        rw [fn x, List.any_eq_true]
        constructor
        · rintro ⟨m, h1, h2⟩
          exact ⟨(hs m h1).low x h2, m, h1, decide_eq_true h2⟩
        · rintro ⟨_, m, h1, h2⟩
          exact ⟨m, h1, of_decide_eq_true h2⟩
      subst em
      have s6 := same_new (o := HO.lst ((cast (jn n ls)).map V.int)) nq
      refine ⟨q5, _, rfl, .inl ⟨SqL.of upd_same, fun tt nt => ?_⟩⟩
      have s7 := same_new (o := HO.tup ((cast (jn n ls)).map V.int)) nt
      refine q _ tt (s4.trans (s5.trans (s6.trans s7))) (tu_ints (l := jn n ls) (by rw [← cast_V]; exact upd_same) ?_)
      have := (jn_som n ls).len
      omega
end
end Kc

set_option Elab.async false
set_option linter.all false
set_option maxRecDepth 100000
set_option maxHeartbeats 4000000
namespace Kc
open PySem PySem.Spec PyProof.Rows L2 Kg Kd Kr Kf
section
variable {P : Program} {w : World} {K : PySem.W.Frag} {mg : Str → Option Value} {base : Heap} {f : Addr} {fd : FuncData} {k : Nat}
abbrev sAbv : Stmt := inClass sCls 5
theorem scAbv : FnScope ["self", "kind"] ["self", "kind"] (defScope sAbv) := ⟨rfl, rfl, rfl, by decide +kernel, rfl, by decide +kernel, by decide +kernel⟩
theorem ok_abv {C : Addr} (F : Fun K "above" "Kinds.above" sAbv f fd) (T : KC K C) : FnOk P w K mg base CX0 (k + 1) f fd ["self", "kind"] (spAbv C) := by
  refine F.ok scAbv (fun vs H Q E h => ?_) (fun cdv A outer s H vs Q E hr h => ?_)
  · obtain ⟨p, k, es, cl, ho, sv, rfl, _⟩ := h
    rfl
  · obtain ⟨p, j, es, cl, ho, sv, rfl, ⟨⟨dx, e, c, h, t, hp, he, hc, hh, ht⟩, EL, SC, SH⟩, hk, q⟩ := h
    obtain ⟨a, xs, b, rfl, ha, hx, hb, hv⟩ := tab_at ht hk
    exact ⟨_, pss_one (ps_ret (pe_ix ix_tup (pe_fld (pv 0) rfl) (pv 1) (fun _ _ => rfl))), _, rfl, p, C, dx, _, .ref a, rfl, hp, T.cl, T.n5, rfl, _, rfl, a, xs, _, .ref b, rfl, rfl, SqT.of ha, atI_nat (j := j) hx, q _ hv⟩
end
end Kc

set_option Elab.async false
set_option linter.all false
set_option maxRecDepth 100000
set_option maxHeartbeats 4000000
namespace Kc
open PySem PySem.Spec PyProof.Rows L2 Kg Kd Kr Kf Kl
abbrev sLotOf : Stmt := topS 10
abbrev nLotOf : List Str := ["kinds", "extension", "number", "table", "kind", "elders", "elder"]
theorem scLotOf : FnScope nLotOf ["kinds", "extension", "number"] (defScope sLotOf) := ⟨rfl, rfl, rfl, by decide +kernel, rfl, by decide +kernel, by decide +kernel⟩
/-- new kinds: elders with lower numbers -/
structure XtO (n : Nat) (ext : List (List Nat)) : Prop where
  len : ext.length ≤ 4
  som : ∀ (i : Nat) (l : List Nat), ext[i]? = some l → Som (n + i) l
def spLotOf (C : Addr) : Sp := fun vs H Q _ => ∃ (p : Addr) (v : V) (j : Nat) (es : List (List Nat)) (cl ho : List Nat) (sv : Bool) (ext : List (List Nat)) (l : List Nat), vs = [.ref p, v, .int (j : Nat)] ∧ KO C H p es cl ho sv ∧ Tu H v (pdE ext) ∧ XtO es.length ext ∧ (tabX es ext)[j]? = some l ∧
  ∀ H' u, Same H H' → Tu H' u (pdI l) → Q u H'
section
variable {P : Program} {w : World} {K : PySem.W.Frag} {mg : Str → Option Value} {base : Heap} {f : Addr} {fd : FuncData} {k : Nat}
theorem ok_lotOf {C : Addr} (F : Fun K "lot_of" "lot_of" sLotOf f fd) (B : Bl mg) (T : KC K C) (GA : MCal P w K mg base C "above" 1 ["self", "kind"] (spAbv C)) (GL : SCal P w K mg base C "__len__" 1 ["self"] (spLen C)) (GJ : Cal P w K mg base "joined" 1 ["some"] spJoin) : FnOk P w K mg base CX0 3 f fd ["kinds", "extension", "number"] (spLotOf C) := by
  refine F.ok scLotOf (fun vs H Q E h => ?_) (fun cdv A outer s H vs Q E hr h => ?_)
  · obtain ⟨p, v, j, es, cl, ho, sv, ext, l, rfl, _⟩ := h
    rfl
  · obtain ⟨p, v, jj, es, cl, ho, sv, ext, l, rfl, ko, tv, XO, hj, q⟩ := h
    have hr1 := hr.mono (show 1 ≤ 2 by decide)
    refine ⟨_, pss_cons (ps_set (i := 3) scLotOf.nd rfl (.inr rfl) (pe_lc (own := [("kind", 4)]) (g := gName 4) rfl scLotOf.nd (pi_range1 (by rfl) B.range (pa_cons (pe_callB (call_lenC GL hr) (by rfl) B.len PySem.boot_len (pa_cons (pv 0) pa_nil)) pa_nil))
        (blkOk_by (N := nLotOf) (sc := defScope sLotOf) (by decide +kernel)) (fun _ _ _ _ _ => pg_name (i := 4) scLotOf.nd rfl (Or.inl rfl)) (fun _ _ _ _ _ => pts_nil)
        (fun _ _ _ _ _ => pe_mcal (pv 0) T.cl GA hr1 (pa_cons (pv 4) pa_nil))))
      (pss_cons (ps_for PassesOwn.never rfl (pi_tup (pv 1)) (pg_name (i := 5) scLotOf.nd rfl (.inl rfl))
        (pss_one (ps_expr (pe_bm PySem.F.plainAttrs_list PySem.F.slot_list_append PySem.F.type_list_append mt_append (pv 3) (pa_cons (pe_cal GJ hr1 (by rfl) (pa_cons (pe_lc (own := [("elder", 6)]) (g := gName 6) rfl scLotOf.nd (pi_tup (pv 5))
          (blkOk_by (N := nLotOf) (sc := defScope sLotOf) (by decide +kernel)) (fun _ _ _ _ _ => pg_name (i := 6) scLotOf.nd rfl (Or.inl rfl)) (fun _ _ _ _ _ => pts_nil)
          (fun _ _ _ _ _ => pe_ix (ix_listK (K := K) rfl) (pv 3) (pv 6) (fun _ _ => rfl))) pa_nil)) pa_nil)))))
      (pss_one (ps_ret (pe_ix ix_list (pv 3) (pv 2) (fun _ _ => rfl))))), ?_⟩
    have n6 := ko.el.hi
    obtain ⟨⟨dx, e, c, h, t, hp, he, hc, hh, ht⟩, _⟩ := id ko
    refine ⟨_, rfl, p, dx, _, rfl, hp, p, es, cl, ho, sv, rfl, ko, (es.length : Nat), rfl, by omega, by omega, (es.length : Nat), rfl, by omega, by omega, fun D nD => ?_⟩
    rw [Int.toNat_natCast]
    -- the table of the known kinds
    refine lc_range (lo := 0) (n := es.length) (fun i H1 => ∃ rows : List V, Same H H1 ∧ H1 D = some (.lst rows) ∧ TuAll H1 rows (((List.range i).map (lot es)).map pdI)) ⟨[], same_new nD, upd_same, .nil⟩ (fun i H1 hi pp => ?_) (fun H1 pp => ?_)
    · obtain ⟨rows, s1, hD, hR⟩ := pp
      have k1 := ko.keep (.of_same s1)
      have rl : rows.length = i := by rw [hR.length, List.length_map, List.length_map, List.length_range]
      rw [Int.zero_add]
      refine ⟨rfl, _, rfl, p, dx, _, rfl, s1 _ _ hp, rfl, _, rfl, p, i, es, cl, ho, sv, rfl, k1, hi, fun u hu => ?_⟩
      refine ⟨rows, hD, small1000 (by omega), rows ++ [u], fun b o z => ?_, upd_same, ?_⟩
      · rw [upd_ne (ne_of_none z nD)]; exact s1 _ _ z
      · rw [List.range_succ, List.map_append, List.map_append]
        exact (hR.append (.cons hu .nil)).keep (KF.putL hD)
    · obtain ⟨rows, s1, hD, hR⟩ := pp
      have k1 := ko.keep (.of_same s1)
      obtain ⟨a, xs, rfl, ha, xl, hA⟩ := tu_elders tv
      have el4 := XO.len
      have ha1 := s1 _ _ ha
      have tv1 := tv.same s1
      refine ⟨_, rfl, a, rfl, ⟨_, SqT.of ha1⟩, for_tup (K := K) (a := a) (xs := xs) (fun i σ H2 => ∃ (y4 y5 y6 : Option V) (rows : List V), σ = [some (.ref p), some (.ref a), some (.int (jj : Nat)), some (.ref D), y4, y5, y6] ∧ Same H H2 ∧ H2 D = some (.lst rows) ∧ TuAll H2 rows ((tabX es (ext.take i)).map pdI))
        ⟨_, _, _, rows, rfl, s1, hD, hR⟩ (fun i σ H2 _ pp => by obtain ⟨_, _, _, _, _, pp, _⟩ := pp; exact SqT.of (pp _ _ ha)) (fun i x σ H2 hxi pp => ?_) (fun σ H2 pp => ?_)⟩
      · obtain ⟨y4, y5, y6, rows, rfl, s2, hD2, hR2⟩ := pp
        obtain ⟨d, hd, td⟩ := hA.get hxi
        obtain ⟨el, hel, rfl⟩ := map_get hd
        obtain ⟨b, rfl, hb, _⟩ := tu_inv (td.same s2)
        have il : i < ext.length := (List.getElem?_eq_some_iff.mp hel).1
        have SO := XO.som i el hel
        have ell : el.length ≤ 10 := by have := SO.len; omega
        have tl : (tabX es (ext.take i)).length = es.length + i := by rw [tabX_len, List.length_take]; omega
        have rl : rows.length = es.length + i := by rw [hR2.length, List.length_map, tl]
        refine ⟨_, rfl, .inl ⟨rfl, _, SqL.of hD2⟩, _, rfl, b, rfl, ⟨_, SqT.of hb⟩, fun G nG => ?_⟩
        refine lc_tup (K := K) (a := b) (xs := el.map iV) (fun j H3 => ∃ us : List V, Same H2 H3 ∧ H3 G = some (.lst us) ∧ TuAll H3 us (((el.take j).map fun e => (tabX es (ext.take i)).getD e []).map pdI)) ⟨[], same_new nG, upd_same, .nil⟩ (fun j H3 _ pp => by obtain ⟨_, pp, _⟩ := pp; exact SqT.of (pp _ _ hb)) (fun j x H3 hxj pp => ?_) (fun H3 pp => ?_)
        · obtain ⟨us, s3, hG, hU⟩ := pp
          obtain ⟨e, hej, rfl⟩ := map_get hxj
          have elt : e < es.length + i := SO.low e (List.mem_of_getElem? hej)
          have jl : j < el.length := (List.getElem?_eq_some_iff.mp hej).1
          obtain ⟨m, hm⟩ : ∃ m, (tabX es (ext.take i))[e]? = some m := ⟨_, List.getElem?_eq_getElem (by omega)⟩
          obtain ⟨rv, hrv, hru⟩ := (hR2.keep (.of_same s3)).get' (i := e) (d := pdI m) (get_map hm)
          have ul : us.length = j := by rw [hU.length, List.length_map, List.length_map, List.length_take]; omega
          refine ⟨rfl, _, rfl, _, rfl, D, rows, _, rv, rfl, rfl, SqL.of (s3 _ _ hD2), atI_nat (j := e) hrv, us, hG, small1000 (by omega), us ++ [rv], fun bb o z => ?_, upd_same, ?_⟩
          · rw [upd_ne (ne_of_none z nG)]; exact s3 _ _ z
          · rw [List.take_add_one, hej, List.map_append, List.map_append]
            refine (hU.append (.cons ?_ .nil)).keep (KF.putL hG)
            show Tu H3 rv (pdI ((tabX es (ext.take i)).getD e []))
            rw [List.getD_eq_getElem?_getD, hm]
            exact hru
        · obtain ⟨us, s3, hG, hU⟩ := pp
          rw [List.length_map, List.take_length] at hU
          refine ⟨G, us, _, es.length, rfl, hG, hU, n6, fun m hm => ?_, by rw [List.length_map]; omega, fun H4 t4 s4 ht4 => ?_⟩
          · obtain ⟨e, he', rfl⟩ := List.mem_map.mp hm
            have elt : e < es.length + i := SO.low e he'
            rw [List.getD_eq_getElem?_getD, List.getElem?_eq_getElem (show e < (tabX es (ext.take i)).length by omega)]
            exact tabX_som es _ _ (List.getElem_mem _)
          · have s24 := s3.trans s4
            have hD4 := s24 _ _ hD2
            refine ⟨D, rows, _, rfl, rfl, hD4, by rw [rl]; exact small1000 (by omega), ?_⟩
            refine ⟨_, _, _, rows ++ [.ref t4], rfl, fun bb o z => ?_, upd_same, ?_⟩
            · rw [upd_ne (ne_of_none z nD)]; exact s24 _ _ (s2 _ _ z)
            · rw [tabX_take hel, List.map_append]
              exact ((hR2.keep (.of_same s24)).append (.cons ht4 .nil)).keep (KF.putL hD4)
      · obtain ⟨y4, y5, y6, rows, rfl, s2, hD2, hR2⟩ := pp
        rw [xl, List.take_length] at hR2
        obtain ⟨rv, hrv, hru⟩ := hR2.get' (i := jj) (d := pdI l) (get_map hj)
        exact ⟨_, rfl, _, rfl, D, rows, _, rv, rfl, rfl, SqL.of hD2, atI_nat (j := jj) hrv, q _ _ s2 hru⟩
end
end Kc

set_option Elab.async false
set_option linter.all false
set_option maxRecDepth 100000
set_option maxHeartbeats 4000000
namespace Kc
open PySem PySem.Spec PyProof.Rows L2 Kg Kd Kr Kf Kl LamX Km
abbrev sLotsP : Stmt := topS 13
abbrev nLotsP : List Str := ["kinds", "known", "kind", "fewest", "elders", "lot"]
theorem scLotsP : FnScope nLotsP ["kinds"] (defScope sLotsP) := ⟨rfl, rfl, rfl, by decide +kernel, rfl, by decide +kernel, by decide +kernel⟩
abbrev qLots : Str := "lots.<locals>.<lambda>"
/-- what the program's lots promises -/
def spLotsP (T : List (Addr × Str)) (C : Addr) : Sp := fun vs H Q _ => ∃ (p : Addr) (es : List (List Nat)) (cl ho : List Nat) (sv : Bool), vs = [.ref p] ∧ KO C H p es cl ho sv ∧ Tabs T H ∧
  ∀ H' q ls, Gr T H H' → Tu H' (.ref q) (pdE ls) → IsLots es cl ho sv ls → Q (.ref q) H'
theorem sh_pdIs' (A : List (List Nat)) : SeqAt.shaped (.list (A.map pdI)) = true := shaped_of (lay_pdIs A) (by
  show PyData.depthAll (A.map pdI) + 1 ≤ 64
  have : PyData.depthAll (A.map pdI) ≤ 1 := by
    induction A with
    | nil => exact Nat.zero_le _
    | cons a r ih =>
      show max (pdI a).depth (PyData.depthAll (r.map pdI)) ≤ 1
      have := dep_pdI a
      omega
  omega)
theorem any_eqv (l : List Nat) (ls : List (List Nat)) : ((ls.map pdI).any fun d => PyData.eqv d (pdI l)) = decide (l ∈ ls) := by
  rw [List.any_map]
  induction ls with
  | nil => simp
  | cons a r ih =>
    rw [List.any_cons, ih]
    show (PyData.eqv (pdI a) (pdI l) || decide (l ∈ r)) = _
    rw [eqv_pdI]
    by_cases c : a = l
    · subst c; simp
    · have c2 : ¬ l = a := fun z => c z.symm
      simp [c, c2]
theorem kn_mem {es : List (List Nat)} {ho l : List Nat} : l ∈ (opn es.length ho).map (lot es) ↔ kn es ho l = true := by
  rw [kn_iff, List.mem_map]
  constructor
  · rintro ⟨k, hk, rfl⟩
    obtain ⟨h1, h2⟩ := opn_mem.mp hk
    exact ⟨k, h1, h2, rfl⟩
  · rintro ⟨k, h1, h2, rfl⟩
    exact ⟨k, opn_mem.mpr ⟨h1, h2⟩, rfl⟩
theorem known_nodup {es : List (List Nat)} {ho : List Nat} : ((opn es.length ho).map (lot es)).Nodup := by
  refine List.pairwise_map.mpr (List.Pairwise.imp_of_mem (fun {a b} ha hb h e => ?_) (opn_asc es.length ho))
  have := lot_inj (opn_mem.mp ha).1 (opn_mem.mp hb).1 e
  omega
/-- the keys of the dict of late lots -/
theorem keys_tu {H : Hp} {m : List Nat → Option Nat} : ∀ {kvs : List (List Key × V)} {bs : List Addr}, IsKeys H kvs bs → (∀ p ∈ kvs, ∃ l n, p = (kL l, V.int ((n : Nat) : Int)) ∧ m l = some n ∧ l.length ≤ 6) → ∃ ls : List (List Nat), TuAll H (bs.map V.ref) (ls.map pdI) ∧ kvs.map (·.1) = ls.map kL ∧ ∀ l ∈ ls, (m l).isSome = true
  | [], [], _, _ => ⟨[], .nil, rfl, fun l hl => (nomatch hl)⟩
  | p :: kvs, b :: bs, .cons h r, hk => by
    obtain ⟨ls, h1, h2, h3⟩ := keys_tu r fun q hq => hk q (List.mem_cons_of_mem _ hq)
    obtain ⟨l, n, e, hm, l6⟩ := hk p (List.mem_cons_self ..)
    have h' : H b = some (.tup (p.1.map kV)) := h
    rw [e, kL_V] at h'
    refine ⟨l :: ls, .cons (tu_ints h' (by omega)) h1, by rw [List.map_cons, List.map_cons, h2, e], fun x hx => ?_⟩
    rcases List.mem_cons.mp hx with z | z
    · rw [z, hm]; rfl
    · exact h3 x z
def gM (m : List Nat → Option Nat) (l : List Nat) : Int × List Int := ((((m l).getD 0 : Nat) : Int), ci l)
theorem gM_inj (m : List Nat → Option Nat) (a b : List Nat) (h : gM m a = gM m b) : a = b := ci_inj (Prod.mk.inj h).2
section
variable {P : Program} {w : World} {K : PySem.W.Frag} {mg : Str → Option Value} {base : Heap} {f : Addr} {fd : FuncData} {k : Nat}
theorem ok_lotsP {C : Addr} {T : List (Addr × Str)} (F : Fun K "lots" "lots" sLotsP f fd) (B : Bl mg) (M : Bm mg) (TC : KC K C) (L : Lm mg base T fd qLots) (GA : MCal P w K mg base C "above" 1 ["self", "kind"] (spAbv C)) (GL : SCal P w K mg base C "__len__" 1 ["self"] (spLen C)) (GM : Cal P w K mg base "members" 3 ["kinds", "extension"] (spMem C))
    (GO : Cal P w K mg base "lot_of" 3 ["kinds", "extension", "number"] (spLotOf C)) (GS : Cal P w K mg base "single_elders" 5 ["kinds"] (spSing T C)) : FnOk P w K mg base CX0 6 f fd ["kinds"] (spLotsP T C) := by
  obtain ⟨c, Pt, hcode, TB, hmT, huT⟩ := L.ex
  refine okC F scLotsP (fun vs H Q E h => ?_) (fun A outer s H vs Q E hr h => ?_)
  · obtain ⟨p, es, cl, ho, sv, rfl, _⟩ := h
    rfl
  · obtain ⟨p, es, cl, ho, sv, rfl, ko, hT, q⟩ := h
    have hr1 := hr.mono (show 1 ≤ 5 by decide)
    have hr2 := hr.mono (show 2 ≤ 5 by decide)
    have hr3 := hr.mono (show 3 ≤ 5 by decide)
    have hu1 := hu_of hr
    have hu65 : (A.deeper (envOfC "lots" (defScope sLotsP) s.heap.objs.size f fd.code)).units + 65 < cLine := by have := hr.un; omega
    refine ⟨_, pss_cons (ps_set (i := 1) scLotsP.nd rfl (.inl rfl) (pe_callB Ku.cr_sortL (by rfl) M.sorted (by decide +kernel) (pa_cons (pe_lc (own := [("kind", 2)]) (g := gName 2) rfl scLotsP.nd (pi_tup (pe_cal GM hr3 (by rfl) (pa_cons (pv 0) (pa_cons (pe_tup pa_nil) pa_nil))))
          (blkOk_by (N := nLotsP) (sc := defScope sLotsP) (by decide +kernel)) (fun _ _ _ _ _ => pg_name (i := 2) scLotsP.nd rfl (Or.inl rfl)) (fun _ _ _ _ _ => pts_nil) (fun _ _ _ _ _ => pe_mcal (pv 0) TC.cl GA hr1 (pa_cons (pv 2) pa_nil))) pa_nil)))
      (pss_cons (ps_set (i := 3) scLotsP.nd rfl (.inr rfl) pe_dnewT)
      (pss_cons (ps_for PassesOwn.never rfl (pi_list (pe_cal GS hr (by rfl) (pa_cons (pv 0) pa_nil))) (pg_name (i := 4) scLotsP.nd rfl (.inl rfl))
        (pss_cons (ps_set (i := 5) scLotsP.nd rfl (.inl rfl) (pe_cal GO hr3 (by rfl) (pa_cons (pv 0) (pa_cons (pe_tup (pa_cons (pv 4) pa_nil)) (pa_cons (pe_callB (call_lenC GL hr2) (by rfl) B.len PySem.boot_len (pa_cons (pv 0) pa_nil)) pa_nil)))))
        (pss_one (ps_if (PW.pt (pw_and (pt_cmpR (op_notInD hu65) (pv 5) (pv 1) rfl) (pw_and1 (pt_cmp (pc_dnotin hu1 (pv 5) (pv 3)))))) (pss_one (ps_dput hu1 (pv 3) (pv 5) (pe_callB call_len_seq (by rfl) B.len PySem.boot_len (pa_cons (pv 4) pa_nil)) rfl)) pss_nil))))
      (pss_one (ps_ret (pe_callTy call_tupN (by rfl) B.tuple PyProof.Rows.boot_tuple (pa_cons (pe_op op_cat (pv 1) (pe_sortLamD (T := T) (c := c) (P := Pt) (k := 0) (a := "other") rfl (by rfl) M.sorted (by decide +kernel) (pa_cons (pv 3) pa_nil) TB hcode hmT huT hr3 (lamS1_by (sc := defScope sLotsP) (by decide +kernel)) (show Str.ofString "other" ∉ nLotsP by decide) rfl (fun _ _ _ _ _ _ => rfl)
          (fun A s H f c' hr' => pe_tup (pa_cons (pe_dget (hu_of hr') (pv 4) (pv 0) (fun _ _ => rfl)) (pa_cons (pv 0) pa_nil))))) pa_nil)))))), ?_⟩
    have n6 := ko.el.hi
    obtain ⟨⟨dx, e, cc, h, t, hp, he, hc, hh, ht⟩, _⟩ := id ko
    -- the known lots
    refine ⟨_, rfl, (show 0 ≤ sizeLine by decide), fun t0 n0 => ?_⟩
    have s0 := same_new (o := HO.tup []) n0
    refine ⟨p, .ref t0, [], es, cl, ho, sv, rfl, ko.keep (.of_same s0), .tup upd_same (show 0 ≤ 1000 by decide) .nil, (show 0 ≤ 4 by decide), fun H1 q1 s1 t1 => ?_⟩
    have s01 := s0.trans s1
    obtain ⟨a1, ea, ha1, _⟩ := tu_inv t1
    cases ea
    have ol : (opn es.length ho).length ≤ 6 := by
      have := rgf_len (fun i => !decide (i ∈ ho)) es.length
      unfold opn; omega
    refine ⟨q1, rfl, ⟨_, SqT.of ha1⟩, fun D nD => ?_⟩
    refine lc_tup (K := K) (a := q1) (xs := (opn es.length ho).map iV) (fun j H3 => ∃ us : List V, Same H1 H3 ∧ H3 D = some (.lst us) ∧ TuAll H3 us ((((opn es.length ho).take j).map (lot es)).map pdI)) ⟨[], same_new nD, upd_same, .nil⟩ (fun j H3 _ pp => by obtain ⟨_, pp, _⟩ := pp; exact SqT.of (pp _ _ ha1)) (fun j x H3 hxj pp => ?_) (fun H3 pp => ?_)
    · obtain ⟨us, s3, hD, hU⟩ := pp
      obtain ⟨m, hm, rfl⟩ := map_get hxj
      have jl : j < (opn es.length ho).length := (List.getElem?_eq_some_iff.mp hm).1
      have ul : us.length = j := by rw [hU.length, List.length_map, List.length_map, List.length_take]; omega
      have s03 := s01.trans s3
      refine ⟨rfl, _, rfl, p, dx, _, rfl, s03 _ _ hp, rfl, _, rfl, p, m, es, cl, ho, sv, rfl, ko.keep (.of_same s03), (opn_mem.mp (List.mem_of_getElem? hm)).1, fun u hu => ?_⟩
      refine ⟨us, hD, small1000 (by omega), us ++ [u], fun bb o z => ?_, upd_same, ?_⟩
      · rw [upd_ne (ne_of_none z nD)]; exact s3 _ _ z
      · rw [List.take_add_one, hm, List.map_append, List.map_append]
        exact (hU.append (.cons hu .nil)).keep (KF.putL hD)
    · obtain ⟨us, s3, hD, hU⟩ := pp
      rw [List.length_map, List.take_length] at hU
      have s03 := s01.trans s3
      refine ⟨D, us, fun x => ci (dec H3 x), rfl, SqL.of hD, fun x hx => ?_, fun ys kA srt stb nk => ?_⟩
      · obtain ⟨b, rfl, hb, _⟩ := tu_inv (tus_mem hU x hx)
        refine ⟨fun z => ?_, b, rfl, SqT.of (by rw [ci_V]; exact hb)⟩
        have hm : dec H3 (V.ref b) ∈ (opn es.length ho).map (lot es) := by rw [← dec_tus hU]; exact List.mem_map.mpr ⟨_, hx, rfl⟩
        obtain ⟨k0, hk0, ek⟩ := List.mem_map.mp hm
        exact lot_ne (es := es) (opn_mem.mp hk0).1 (by rw [ek]; exact ci_nil.mp z)
      obtain ⟨Kn, k1, k2, k3, k4⟩ := dec_sorted Ku.lx_tri (fun a b z => ci_inj z) hU known_nodup srt stb.perm
      have km : ∀ l, l ∈ Kn ↔ kn es ho l = true := fun l => (k3 l).trans kn_mem
      have kl : Kn.length ≤ 6 := by rw [k4, List.length_map]; exact ol
      have s4 := same_new (o := HO.lst ys) nk
      -- the dict
      intro De nDe
      have s5 := same_new (o := HO.dT []) nDe
      have s05 := s03.trans (s4.trans s5)
      have hkA := s5 _ _ (upd_same (H := H3) (a := kA) (o := HO.lst ys))
      have tkA := k1.keep (.of_same (s4.trans s5))
      have hDe := upd_same (H := upd H3 kA (.lst ys)) (a := De) (o := HO.dT [])
      have nDH : H De = none := (s03.trans s4).free nDe
      generalize (upd (upd H3 kA (.lst ys)) De (.dT [])) = H5 at s05 hkA tkA hDe ⊢
      clear s4 s5 nDe nk stb srt k1
      refine ⟨_, rfl, p, es, cl, ho, sv, rfl, ko.keep (.of_same s05), hT.ext s05, fun H6 S xs sg g6 hS tS IS => ?_⟩
      have g06 : Gr T H H6 := Gr.aft s05 g6
      have hkA6 := g6.lst hkA
      have tkA6 := g6.tus tkA
      have hDe6 : H6 De = some (.dT []) := g6.1 _ _ hDe fun _ z => nomatch z
      have sl := IS.len n6
      refine ⟨S, rfl, ⟨_, SqL.of hS⟩, for_list (K := K) (a := S) (xs := xs) (fun i σ H7 => ∃ (y2 y4 y5 : Option V) (kvs : List (List Key × V)), σ = [some (.ref p), some (.ref kA), y2, some (.ref De), y4, y5] ∧ Gr T H H7 ∧ Tabs T H7 ∧ H7 S = some (.lst xs) ∧ TuAll H7 xs (sg.map pdI) ∧ H7 kA = some (.lst ys) ∧ TuAll H7 ys (Kn.map pdI) ∧ H7 De = some (.dT kvs) ∧ Dv kvs (mS es ho (sg.take i)) ∧ kvs.length ≤ i ∧ ∀ p ∈ kvs, p.1.length ≤ 6)
        ⟨_, _, _, [], rfl, g06, g06.2 hT, hS, tS, hkA6, tkA6, hDe6, by rw [List.take_zero, mS_nil]; exact Dv.nil, Nat.le_refl _, fun p hp => (nomatch hp)⟩ (fun i σ H7 _ pp => by obtain ⟨_, _, _, _, _, _, _, pp, _⟩ := pp; exact SqL.of pp) (fun i x σ H7 hxi pp => ?_) (fun σ H7 pp => ?_)⟩
      · obtain ⟨y2, y4, y5, kvs, rfl, g7, T7, hS7, tS7, hk7, tk7, hD7, DV, kvl, kv6⟩ := pp
        obtain ⟨d, hd, td⟩ := tS7.get hxi
        obtain ⟨ks, hks, rfl⟩ := map_get hd
        obtain ⟨b, rfl, hb, _⟩ := tu_inv td
        have il : i < sg.length := (List.getElem?_eq_some_iff.mp hks).1
        obtain ⟨ksn, kso, ksr⟩ := (IS.mem ks).mp (List.mem_of_getElem? hks)
        have ks6 := kso.len
        have k7 := ko.keep g7.kf
        have hp7 := g7.ins hp
        -- the lot
        refine ⟨_, rfl, _, rfl, (show 1 ≤ sizeLine by decide), fun t1 nt => ?_⟩
        have s8 := same_new (o := HO.tup [V.ref b]) nt
        refine ⟨_, rfl, p, dx, _, rfl, s8 _ _ hp7, p, es, cl, ho, sv, rfl, k7.keep (.of_same s8), (es.length : Nat), rfl, by omega, by omega, ?_⟩
        refine ⟨p, .ref t1, es.length, es, cl, ho, sv, [ks], lotS es ks, rfl, k7.keep (.of_same s8), .tup upd_same (show 1 ≤ 1000 by decide) (.cons (td.same s8) .nil), ⟨show 1 ≤ 4 by decide, fun j l hj => ?_⟩, tabX_one kso.low, fun H8 u s9 tu => ?_⟩
        · match j, hj with
          | 0, hj => cases hj; exact kso
          | j + 1, hj => simp at hj
        obtain ⟨lt, rfl, hlt, _⟩ := tu_inv tu
        have s78 := s8.trans s9
        have lo6 : (lotS es ks).length ≤ 6 := by have := (lotS_som es ks).len; omega
        have hk8 := s78 _ _ hk7
        have tk8 := tk7.keep (.of_same s78)
        have hD8 := s78 _ _ hD7
        have hS8 := s78 _ _ hS7
        have tS8 := tS7.keep (.of_same s78)
        have g8 := g7.thn s78
        have T8 := T7.ext s78
        have hb8 := s78 _ _ hb
        have hlt' : H8 lt = some (.tup ((kL (lotS es ks)).map kV)) := by rw [kL_V]; exact hlt
        have tk : sg.take (i + 1) = sg.take i ++ [ks] := by rw [List.take_add_one, hks]; rfl
        refine ⟨_, rfl, _, rfl, pdI (lotS es ks), Kn.map pdI, (tu_ints hlt (by omega)).dp, .lst (SqL.of hk8) tk8.dp, sh_pdI _, sh_pdIs' _, _, rfl, ?_⟩
        rw [any_eqv]
        have ek : decide (lotS es ks ∈ Kn) = kn es ho (lotS es ks) := by
          cases z : kn es ho (lotS es ks) with
          | true => exact decide_eq_true ((km _).mpr z)
          | false => exact decide_eq_false (fun y => by rw [(km _).mp y] at z; cases z)
        rw [ek]
        have stay : ¬ (kn es ho (lotS es ks) = false ∧ mS es ho (sg.take i) (lotS es ks) = none) → Dv kvs (mS es ho (sg.take (i + 1))) := fun z => by
          have e1 : mS es ho (sg.take (i + 1)) = mS es ho (sg.take i) := by
            funext l
            rw [tk, mS_snoc, if_neg fun y => z ⟨y.1, y.2.1⟩]
          rw [e1]; exact DV
        cases c1 : kn es ho (lotS es ks) with
        | true =>
          refine iteF (iteF ⟨_, _, _, kvs, rfl, g8, T8, hS8, tS8, hk8, tk8, hD8, stay (by rw [c1]; rintro ⟨z, _⟩; cases z), by omega, kv6⟩)
        | false =>
          refine iteT ⟨_, rfl, _, rfl, De, _, rfl, DGet.t hD8 hlt', _, rfl, ?_⟩
          rw [DV.val]
          cases c2 : mS es ho (sg.take i) (lotS es ks) with
          | some n0 =>
            refine iteF ⟨_, _, _, kvs, rfl, g8, T8, hS8, tS8, hk8, tk8, hD8, stay (by rw [c2]; rintro ⟨_, z⟩; cases z), by omega, kv6⟩
          | none =>
            refine iteT ⟨_, rfl, b, _, rfl, .inr (SqT.of hb8), _, rfl, _, rfl, De, _, rfl, DPut.t hD8 hlt' (small1000 (by omega)), ?_⟩
            have neD : ∀ {a : Addr} {zs : List V}, H8 a = some (.lst zs) → a ≠ De := fun z => ne_of z hD8 (by intro y; cases y)
            have kf : KF H8 (upd H8 De (.dT (putK kvs (kL (lotS es ks)) (V.int (((ks.map iV).length : Nat) : Int))))) := KF.put hD8 (fun z => z)
            refine ⟨_, _, _, _, rfl, g8.putD nDH hD8, tabs_put hD8 (fun _ z => nomatch z) (fun _ z => nomatch z) T8, by rw [upd_ne (neD hS8)]; exact hS8, tS8.keep kf, by rw [upd_ne (neD hk8)]; exact hk8, tk8.keep kf, upd_same, ?_, ?_, ?_⟩
            · have DP := DV.put (lotS es ks) ks.length
              rw [List.length_map]
              have e1 : mS es ho (sg.take (i + 1)) = fun l' => if l' = lotS es ks then some ks.length else mS es ho (sg.take i) l' := by
                funext l
                rw [tk, mS_snoc]
                by_cases z : l = lotS es ks
                · rw [if_pos ⟨c1, c2, z⟩, if_pos z]
                · rw [if_neg fun y => z y.2.2, if_neg z]
              rw [e1]; exact DP
            · have := length_putK kvs (kL (lotS es ks)) (V.int (((ks.map iV).length : Nat) : Int))
              omega
            · intro pq hpq
              unfold putK at hpq
              split at hpq
              · obtain ⟨r, hr', e⟩ := List.mem_map.mp hpq
                rw [← e]
                split
                · exact kv6 r hr'
                · exact kv6 r hr'
              · rcases List.mem_append.mp hpq with z | z
                · exact kv6 pq z
                · rw [List.mem_singleton.mp z]
                  show (kL (lotS es ks)).length ≤ 6
                  unfold kL; rw [List.length_map]; exact lo6
      · obtain ⟨y2, y4, y5, kvs, rfl, g7, T7, hS7, tS7, hk7, tk7, hD7, DV, kvl, kv6⟩ := pp
        have xl : xs.length = sg.length := by rw [tS7.length, List.length_map]
        rw [xl] at kvl DV
        rw [List.take_length] at DV
        have late := mS_late (ho := ho) IS
        refine ⟨_, rfl, _, rfl, De, kvs, rfl, hD7, by omega, T7, fun H8 bs e8 T8 ik => ⟨fun x => gM (mS es ho sg) (dec H8 x), ?_⟩⟩
        have hD8 : H8 De = some (.dT kvs) := e8 _ _ hD7 fun _ z => nomatch z
        obtain ⟨ls, b1, b2, b3⟩ := keys_tu (m := mS es ho sg) ik fun pq hpq => by
          obtain ⟨l, n, e1, e2⟩ := DV.ks _ hpq
          refine ⟨l, n, e1, e2, ?_⟩
          have z := kv6 pq hpq
          rw [e1] at z
          unfold kL at z
          rwa [List.length_map] at z
        have lsn : ls.Nodup := by
          have z := DV.nd
          rw [b2] at z
          exact (List.pairwise_map.mp z).imp fun ne e => ne (by rw [e])
        have lsm : ∀ l n, (l ∈ ls ∧ mS es ho sg l = some n) ↔ Late es cl ho sv (n, l) := fun l n => by
          rw [← late l n]
          refine ⟨fun z => z.2, fun z => ⟨?_, z⟩⟩
          have hm' : kL l ∈ kvs.map (·.1) := List.mem_map.mpr ⟨_, DV.all l n z, rfl⟩
          rw [b2] at hm'
          obtain ⟨l', h1, h2⟩ := List.mem_map.mp hm'
          rw [← kL_inj h2]; exact h1
        have lsl : ls.length = kvs.length := by
          have := congrArg List.length b2
          rw [List.length_map, List.length_map] at this
          exact this.symm
        refine ⟨fun H9 s9 x hx => ?_, fun zs qs H9 srt stb s9 T9 hq => ?_⟩
        · obtain ⟨b, rfl, hb, _⟩ := tu_inv (tus_mem b1 x hx)
          have hb9 := s9 _ _ hb
          have hm : dec H8 (V.ref b) ∈ ls := by rw [← dec_tus b1]; exact List.mem_map.mpr ⟨_, hx, rfl⟩
          obtain ⟨n, hn⟩ := Option.isSome_iff_exists.mp (b3 _ hm)
          have hv : valV kvs (kL (dec H8 (V.ref b))) = some (V.int ((n : Nat) : Int)) := by rw [DV.val, hn]; rfl
          refine ⟨_, rfl, _, rfl, De, _, rfl, .inr ⟨kvs, kL (dec H8 (V.ref b)), b, .inl (s9 _ _ hD8), rfl, by rw [kL_V]; exact hb9, hv.symm⟩, _, rfl, (show 2 ≤ sizeLine by decide), fun t nt => ?_⟩
          have sA := same_new (o := HO.tup [V.int ((n : Nat) : Int), V.ref b]) nt
          refine ⟨sA, t, b, rfl, ?_, SqT.of ?_⟩
          · rw [upd_same]
            show _ = some (HO.tup [V.int (((mS es ho sg (dec H8 (V.ref b))).getD 0 : Nat) : Int), V.ref b])
            rw [hn]; rfl
          · rw [sA _ _ hb9]
            show _ = some (HO.tup ((ci (dec H8 (V.ref b))).map V.int))
            rw [ci_V]
        · obtain ⟨ms, m1, m2, m3, m4⟩ := dec_sorted lp_tri (gM_inj (mS es ho sg)) b1 lsn srt stb.perm
          have g8 : Gr T H7 H8 := ⟨e8, fun _ => T8⟩
          have g9 := g8.thn s9
          have zl : zs.length ≤ 64 := by rw [m1.length, List.length_map]; omega
          have yl : ys.length ≤ 6 := by rw [tk7.length, List.length_map]; exact kl
          refine ⟨kA, qs, ys, zs, rfl, rfl, g9.lst hk7, hq, Nat.le_of_lt (small1000 (by omega)), fun ca nc => ?_⟩
          have sA := same_new (o := HO.lst (ys ++ zs)) nc
          refine ⟨ca, _, rfl, .inl upd_same, fun ra HB sB hr => ?_⟩
          have gB := g7.trans ((g9.thn sA).thn sB)
          refine q HB ra (Kn ++ ms) gB (.tup hr (by rw [List.length_append]; omega) ?_) ⟨Kn, ms.map fun l => ((mS es ho sg l).getD 0, l), ?_, k2, km, ?_, ?_⟩
          · rw [List.map_append]
            exact (((g9.thn sA).thn sB).tus tk7).append ((m1.keep (.of_same s9)).keep (.of_same (sA.trans sB)))
          · rw [List.map_map]
            congr 1
            exact (List.map_id _).symm
          · refine List.pairwise_map.mpr (m2.imp fun {a b} z => ?_)
            exact z
          · rintro ⟨n, l⟩
            rw [← lsm l n, List.mem_map]
            constructor
            · rintro ⟨l', h1, h2⟩
              rw [Prod.mk.injEq] at h2
              obtain ⟨h2, rfl⟩ := h2
              have hl := (m3 l').mp h1
              obtain ⟨n', hn'⟩ := Option.isSome_iff_exists.mp (b3 _ hl)
              rw [hn'] at h2
              exact ⟨hl, by rw [hn']; exact congrArg some h2⟩
            · rintro ⟨h1, h2⟩
              exact ⟨l, (m3 l).mpr h1, by rw [h2]; rfl⟩
end
end Kc

set_option Elab.async false
set_option linter.all false
set_option maxRecDepth 100000
set_option maxHeartbeats 4000000
/-! sorted of a list of data that can be compared, place by place. -/
namespace Kf
open PySem PySem.Spec PyProof.Rows L2 Kg Kd
section
variable {X : Cx} {pins : List (Addr × Obj)} {σ : L2.St} {H : Hp} {s : Shared}
def rSortD (K : PySem.W.Frag) : List V → Hp → VK → Prop := fun vs H Q => ∃ (a : Addr) (bs : List (V × PyData)), vs = [.ref a] ∧ SqL K H a (bs.map (·.1)) ∧ (∀ b ∈ bs, Dp K H b.1 b.2 ∧ b.2.depth ≤ 60) ∧ PySem.W.AllAlike (bs.map (·.2)) ∧ PySem.W.Sortable (bs.map (·.2)) ∧ bs.length ≤ 1000 ∧
  ∀ p, H p = none → Q (.ref p) (upd H p (.lst ((bs.mergeSort (PySem.W.dataLe false (·.2))).map (·.1))))
theorem each_of (I : Inv X pins σ H s) : ∀ {bs : List (V × PyData)} {its : List Value}, Vals (bs.map (·.1)) its → (∀ b ∈ bs, Dp X.K H b.1 b.2 ∧ b.2.depth ≤ 60) → PySem.W.EachIs (fun u (b : V × PyData) => RelV b.1 u) its bs ∧ PySem.W.EachIs (fun u (b : V × PyData) => ∃ as, Reads s.heap u b.2 as) its bs
  | [], _, r, _ => by cases r; exact ⟨.nil, .nil⟩
  | b :: bs, _, r, h => by
    rw [List.map_cons] at r
    cases r with
    | cons r1 r2 =>
      obtain ⟨z1, z2⟩ := each_of I r2 fun c hc => h c (List.mem_cons_of_mem _ hc)
      exact ⟨.cons r1 z1, .cons (Dp.reads I b.2 b.1 _ (h b (List.mem_cons_self ..)).1 r1) z2⟩
theorem vals_each : ∀ {out : List Value} {bs : List (V × PyData)}, PySem.W.EachIs (fun u (b : V × PyData) => RelV b.1 u) out bs → Vals (bs.map (·.1)) out
  | _, _, .nil => .nil
  | _, _, .cons h r => .cons h (vals_each r)
theorem cr_sortD (hu : X.A.units + 64 < cLine) : CallR X (.builtin "sorted") (rSortD X.K) := by
  intro pins s σ H vs us Q I r h
  obtain ⟨a, bs, rfl, hs, hb, hal, hk, hl, q⟩ := h
  obtain ⟨u, rfl, ru⟩ := vals1 r
  obtain rfl : u = Value.ref a := ru
  obtain ⟨its, rv, hl', hz⟩ := I.list hs
  obtain ⟨e1, e2⟩ := each_of I rv hb
  refine PySem.W.sorted_data (enc := fun b : V × PyData => b.2) hl'.isList e1 e2 hal hk (Nat.le_of_lt (small1000 hl)) (fun b hb' => ?_) fun out hout eo => ?_
  · have := (hb b hb').2
    omega
  · obtain ⟨n, hn⟩ := sortedAll_at s.heap its out.toArray
    have vo := vals_each eo
    refine ⟨.ref _, upd H (s.heap.objs.size + 1) (.lst ((bs.mergeSort (PySem.W.dataLe false (·.2))).map (·.1))), I.laid (t' := s.toks) (fun b o e => sortedAll_old e) (Nat.le_succ _) ⟨?_, out, n, vo, hn⟩, rfl, q _ (I.hok.fresh (Nat.le_succ _))⟩
    rw [List.length_map, List.length_mergeSort]
    exact Nat.le_of_lt (small1000 hl)
end
end Kf

set_option Elab.async false
set_option linter.all false
set_option maxRecDepth 100000
set_option maxHeartbeats 4000000
/-! The places of a tree to which lots come, level by level; their order. -/
namespace Kf
open PySem PySem.Spec PyProof.Rows L2 Kg Kd
abbrev LvE := List Bool × Tr × List (List Nat)
/-- the two sides -/
def waysB (e : LvE) : List LvE := match e.2.1 with
  | .ans _ => []
  | .tst k y n => [(e.1 ++ [true], y, e.2.2.filter fun l => decide (k ∈ l)), (e.1 ++ [false], n, e.2.2.filter fun l => !decide (k ∈ l))]
def liveB (L : List LvE) : List LvE := L.filter fun e => decide (0 < e.2.2.length)
def stepB (L : List LvE) : List LvE := (liveB L).flatMap waysB
def bfsB : Nat → List LvE → List (List Bool)
  | 0, _ => []
  | n + 1, L => (liveB L).map (·.1) ++ bfsB n (stepB L)
/-- how deep the trees of a level are -/
def depB (L : List LvE) (n : Nat) : Prop := ∀ e ∈ L, e.2.1.dep < n
theorem depB_step {L : List LvE} {n : Nat} (h : depB L (n + 1)) : depB (stepB L) n := fun e he => by
  obtain ⟨x, hx, hw⟩ := List.mem_flatMap.mp he
  have hd := h x (List.mem_filter.mp hx).1
  unfold waysB at hw
  cases ht : x.2.1 with
  | ans a => rw [ht] at hw; cases hw
  | tst k y m =>
    rw [ht] at hw hd
    have hd' : 1 + max y.dep m.dep < n + 1 := hd
    rcases List.mem_cons.mp hw with e1 | e1
    · rw [e1]; show y.dep < n; omega
    · rw [List.mem_singleton.mp e1]; show m.dep < n; omega
/-- the places on the way of a lot -/
def waysT : Tr → List Nat → List (List Bool)
  | .ans _, _ => [[]]
  | .tst k y n, l => [] :: (if k ∈ l then (waysT y l).map (true :: ·) else (waysT n l).map (false :: ·))
theorem bfs_mem : ∀ (n : Nat) (L : List LvE) (p : List Bool), depB L n → (p ∈ bfsB n L ↔ ∃ e ∈ L, ∃ l ∈ e.2.2, ∃ r ∈ waysT e.2.1 l, p = e.1 ++ r)
  | 0, L, p, h => by
    refine ⟨fun z => (nomatch z), fun ⟨e, he, _⟩ => absurd (h e he) (Nat.not_lt_zero _)⟩
  | n + 1, L, p, h => by
    have ih := bfs_mem n (stepB L) p (depB_step h)
    show p ∈ (liveB L).map (·.1) ++ bfsB n (stepB L) ↔ _
    rw [List.mem_append, ih]
    constructor
    · rintro (z | ⟨e, he, l, hl, r, hr, rfl⟩)
      · obtain ⟨e, he, rfl⟩ := List.mem_map.mp z
        obtain ⟨h1, h2⟩ := List.mem_filter.mp he
        have h2 : 0 < e.2.2.length := of_decide_eq_true h2
        refine ⟨e, h1, e.2.2[0], List.getElem_mem _, [], ?_, by simp⟩
        cases e.2.1 with
        | ans a => exact List.mem_singleton.mpr rfl
        | tst k y m => exact List.mem_cons_self ..
      · obtain ⟨x, hx, hw⟩ := List.mem_flatMap.mp he
        have hx1 := (List.mem_filter.mp hx).1
        unfold waysB at hw
        cases ht : x.2.1 with
        | ans a => rw [ht] at hw; cases hw
        | tst k y m =>
          rw [ht] at hw
          rcases List.mem_cons.mp hw with e1 | e1
          · subst e1
            obtain ⟨hl1, hl2⟩ := List.mem_filter.mp hl
            have hl2 : k ∈ l := of_decide_eq_true hl2
            refine ⟨x, hx1, l, hl1, true :: r, ?_, by simp⟩
            rw [ht]
            refine List.mem_cons_of_mem _ ?_
            rw [if_pos hl2]
            exact List.mem_map.mpr ⟨r, hr, rfl⟩
          · rw [List.mem_singleton.mp e1] at hl hr ⊢
            obtain ⟨hl1, hl2⟩ := List.mem_filter.mp hl
            have hl2 : ¬ k ∈ l := by simpa using hl2
            refine ⟨x, hx1, l, hl1, false :: r, ?_, by simp⟩
            rw [ht]
            refine List.mem_cons_of_mem _ ?_
            rw [if_neg hl2]
            exact List.mem_map.mpr ⟨r, hr, rfl⟩
    · rintro ⟨e, he, l, hl, r, hr, rfl⟩
      have lv : e ∈ liveB L := List.mem_filter.mpr ⟨he, decide_eq_true (List.length_pos_of_mem hl)⟩
      cases ht : e.2.1 with
      | ans a =>
        rw [ht] at hr
        rw [List.mem_singleton.mp hr, List.append_nil]
        exact .inl (List.mem_map.mpr ⟨e, lv, rfl⟩)
      | tst k y m =>
        rw [ht] at hr
        rcases List.mem_cons.mp hr with e1 | e1
        · rw [e1, List.append_nil]
          exact .inl (List.mem_map.mpr ⟨e, lv, rfl⟩)
        · right
          by_cases c : k ∈ l
          · rw [if_pos c] at e1
            obtain ⟨r', hr', rfl⟩ := List.mem_map.mp e1
            refine ⟨(e.1 ++ [true], y, e.2.2.filter fun l => decide (k ∈ l)), List.mem_flatMap.mpr ⟨e, lv, ?_⟩, l, List.mem_filter.mpr ⟨hl, decide_eq_true c⟩, r', hr', by simp⟩
            unfold waysB
            rw [ht]
            exact List.mem_cons_self ..
          · rw [if_neg c] at e1
            obtain ⟨r', hr', rfl⟩ := List.mem_map.mp e1
            refine ⟨(e.1 ++ [false], m, e.2.2.filter fun l => !decide (k ∈ l)), List.mem_flatMap.mpr ⟨e, lv, ?_⟩, l, List.mem_filter.mpr ⟨hl, by simp [c]⟩, r', hr', by simp⟩
            unfold waysB
            rw [ht]
            exact List.mem_cons_of_mem _ (List.mem_singleton.mpr rfl)
/-! ### the order -/
def bitB (b : Bool) : Int := if b = true then 0 else 1
def bitsB (p : List Bool) : List Int := p.map bitB
/-- ahead of, among places of one length: True ahead of False at the first difference -/
def lexB : List Bool → List Bool → Bool
  | a :: p, b :: q => if a = b then lexB p q else a
  | _, _ => false
def pltB (p q : List Bool) : Bool := decide (p.length < q.length) || (decide (p.length = q.length) && lexB p q)
theorem lexB_irr : ∀ p, lexB p p = false
  | [] => rfl
  | a :: p => by show (if a = a then lexB p p else a) = false; rw [if_pos rfl, lexB_irr p]
theorem lexB_asym : ∀ {p q : List Bool}, lexB p q = true → lexB q p = false
  | [], _, h => by simp [lexB] at h
  | _ :: _, [], h => by simp [lexB] at h
  | a :: p, b :: q, h => by
    have h' : (if a = b then lexB p q else a) = true := h
    show (if b = a then lexB q p else b) = false
    by_cases c : a = b
    · rw [if_pos c] at h'
      rw [if_pos c.symm]
      exact lexB_asym h'
    · rw [if_neg c] at h'
      rw [if_neg fun e => c e.symm]
      cases a <;> cases b <;> simp_all
theorem lexB_tot : ∀ {p q : List Bool}, p.length = q.length → lexB p q = false → lexB q p = false → p = q
  | [], [], _, _, _ => rfl
  | [], _ :: _, h, _, _ => by simp at h
  | _ :: _, [], h, _, _ => by simp at h
  | a :: p, b :: q, h, h1, h2 => by
    have h1' : (if a = b then lexB p q else a) = false := h1
    have h2' : (if b = a then lexB q p else b) = false := h2
    by_cases c : a = b
    · rw [if_pos c] at h1'
      rw [if_pos c.symm] at h2'
      rw [c, lexB_tot (by simpa using h) h1' h2']
    · rw [if_neg c] at h1'
      rw [if_neg fun e => c e.symm] at h2'
      rw [h1', h2']  at c
      exact absurd rfl c
theorem lexB_app : ∀ (p : List Bool) (q r : List Bool), lexB (p ++ q) (p ++ r) = lexB q r
  | [], _, _ => rfl
  | a :: p, q, r => by
    show (if a = a then lexB (p ++ q) (p ++ r) else a) = _
    rw [if_pos rfl, lexB_app p q r]
theorem lexB_ext : ∀ {p q : List Bool} (r s : List Bool), p.length = q.length → lexB p q = true → lexB (p ++ r) (q ++ s) = true
  | [], [], _, _, _, h => by simp [lexB] at h
  | [], _ :: _, _, _, h, _ => by simp at h
  | _ :: _, [], _, _, h, _ => by simp at h
  | a :: p, b :: q, r, s, h, h1 => by
    have h1' : (if a = b then lexB p q else a) = true := h1
    show (if a = b then lexB (p ++ r) (q ++ s) else a) = true
    by_cases c : a = b
    · rw [if_pos c] at h1' ⊢
      exact lexB_ext r s (by simpa using h) h1'
    · rw [if_neg c] at h1' ⊢
      exact h1'
theorem pltB_asym {p q : List Bool} (h : pltB p q = true) : pltB q p = false := by
  unfold pltB at h ⊢
  rcases Bool.or_eq_true_iff.mp h with h | h
  · have h := of_decide_eq_true h
    rw [decide_eq_false (by omega), decide_eq_false (by omega)]; rfl
  · obtain ⟨h1, h2⟩ := Bool.and_eq_true_iff.mp h
    have h1 := of_decide_eq_true h1
    rw [decide_eq_false (by omega), lexB_asym h2]; simp
theorem pltB_tot {p q : List Bool} (h1 : pltB p q = false) (h2 : pltB q p = false) : p = q := by
  unfold pltB at h1 h2
  obtain ⟨a1, a2⟩ := Bool.or_eq_false_iff.mp h1
  obtain ⟨b1, b2⟩ := Bool.or_eq_false_iff.mp h2
  have a1 := of_decide_eq_false a1
  have b1 := of_decide_eq_false b1
  have e : p.length = q.length := by omega
  rw [decide_eq_true e, Bool.true_and] at a2
  rw [decide_eq_true e.symm, Bool.true_and] at b2
  exact lexB_tot e a2 b2
/-- levels are in order -/
structure LvOk (L : List LvE) (n : Nat) : Prop where
  len : ∀ e ∈ L, e.1.length = n
  ord : L.Pairwise fun e f => lexB e.1 f.1 = true
theorem lv_step {L : List LvE} {n : Nat} (h : LvOk L n) : LvOk (stepB L) (n + 1) := by
  have wl : ∀ e ∈ L, ∀ f ∈ waysB e, ∃ b, f.1 = e.1 ++ [b] := fun e _ f hf => by
    unfold waysB at hf
    cases ht : e.2.1 with
    | ans a => rw [ht] at hf; cases hf
    | tst k y m =>
      rw [ht] at hf
      rcases List.mem_cons.mp hf with e1 | e1
      · exact ⟨true, by rw [e1]⟩
      · exact ⟨false, by rw [List.mem_singleton.mp e1]⟩
  refine ⟨fun f hf => ?_, ?_⟩
  · obtain ⟨e, he, hw⟩ := List.mem_flatMap.mp hf
    have he := (List.mem_filter.mp he).1
    obtain ⟨b, hb⟩ := wl e he f hw
    rw [hb, List.length_append, h.len e he]; rfl
  · have hl : (liveB L).Pairwise fun e f => lexB e.1 f.1 = true := h.ord.sublist List.filter_sublist
    have hm : ∀ e ∈ liveB L, e ∈ L := fun e he => (List.mem_filter.mp he).1
    unfold stepB
    generalize liveB L = M at hl hm
    induction M with
    | nil => exact .nil
    | cons e M ih =>
      rw [List.pairwise_cons] at hl
      rw [List.flatMap_cons, List.pairwise_append]
      refine ⟨?_, ih hl.2 fun x hx => hm x (List.mem_cons_of_mem _ hx), fun x hx y hy => ?_⟩
      · unfold waysB
        cases ht : e.2.1 with
        | ans a => exact .nil
        | tst k y m =>
          refine List.pairwise_cons.mpr ⟨fun z hz => ?_, List.pairwise_singleton ..⟩
          rw [List.mem_singleton.mp hz]
          show lexB (e.1 ++ [true]) (e.1 ++ [false]) = true
          rw [lexB_app]; rfl
      · obtain ⟨z, hz, hw⟩ := List.mem_flatMap.mp hy
        obtain ⟨b, hb⟩ := wl e (hm e (List.mem_cons_self ..)) x hx
        obtain ⟨c, hc⟩ := wl z (hm z (List.mem_cons_of_mem _ hz)) y hw
        rw [hb, hc]
        exact lexB_ext _ _ (by rw [h.len e (hm e (List.mem_cons_self ..)), h.len z (hm z (List.mem_cons_of_mem _ hz))]) (hl.1 z hz)
theorem bfs_ord : ∀ (m : Nat) {L : List LvE} {n : Nat}, LvOk L n → (bfsB m L).Pairwise (fun p q => pltB p q = true) ∧ ∀ p ∈ bfsB m L, n ≤ p.length
  | 0, _, _, _ => ⟨.nil, fun p hp => (nomatch hp)⟩
  | m + 1, L, n, h => by
    obtain ⟨o, l⟩ := bfs_ord m (lv_step h)
    have hh : ∀ p ∈ (liveB L).map (·.1), p.length = n := fun p hp => by
      obtain ⟨e, he, rfl⟩ := List.mem_map.mp hp
      exact h.len e (List.mem_filter.mp he).1
    refine ⟨?_, fun p hp => ?_⟩
    · show ((liveB L).map (·.1) ++ bfsB m (stepB L)).Pairwise _
      rw [List.pairwise_append]
      refine ⟨?_, o, fun p hp q hq => ?_⟩
      · rw [List.pairwise_map]
        refine (h.ord.sublist List.filter_sublist).imp_of_mem fun {a b} ha hb z => ?_
        unfold pltB
        rw [z, decide_eq_true (show a.1.length = b.1.length by rw [h.len a (List.mem_filter.mp ha).1, h.len b (List.mem_filter.mp hb).1])]
        simp
      · unfold pltB
        have := hh p hp
        have := l q hq
        rw [decide_eq_true (by omega)]; rfl
    · rcases List.mem_append.mp hp with z | z
      · have := hh p z; omega
      · have := l p z; omega
/-- a row of places in this order is told by its places -/
theorem plt_uniq : ∀ {a b : List (List Bool)}, a.Pairwise (fun p q => pltB p q = true) → b.Pairwise (fun p q => pltB p q = true) → (∀ p, p ∈ a ↔ p ∈ b) → a = b
  | [], [], _, _, _ => rfl
  | [], b :: bs, _, _, h => absurd ((h b).mpr (List.mem_cons_self ..)) (by simp)
  | a :: as, [], _, _, h => absurd ((h a).mp (List.mem_cons_self ..)) (by simp)
  | a :: as, b :: bs, ha, hb, h => by
    rw [List.pairwise_cons] at ha hb
    have irr : ∀ p, pltB p p = true → False := fun p z => by have := pltB_asym z; rw [z] at this; cases this
    have e : a = b := by
      have h1 := (h a).mp (List.mem_cons_self ..)
      have h2 := (h b).mpr (List.mem_cons_self ..)
      rcases List.mem_cons.mp h1 with h1 | h1
      · exact h1
      · rcases List.mem_cons.mp h2 with h2 | h2
        · exact h2.symm
        · have z1 := hb.1 _ h1
          have z2 := ha.1 _ h2
          rw [pltB_asym z1] at z2
          cases z2
    subst e
    refine congrArg (a :: ·) (plt_uniq ha.2 hb.2 fun k => ⟨fun hk => ?_, fun hk => ?_⟩)
    · rcases List.mem_cons.mp ((h k).mp (List.mem_cons_of_mem _ hk)) with e | z
      · exact (irr a (e ▸ ha.1 _ hk)).elim
      · exact z
    · rcases List.mem_cons.mp ((h k).mpr (List.mem_cons_of_mem _ hk)) with e | z
      · exact (irr a (e ▸ hb.1 _ hk)).elim
      · exact z
/-! ### the law's rows -/
def placeD (p : List Bool) : PyData := .tuple (p.map .bool)
def keyPD (p : List Bool) : PyData := .tuple [.int ((p.length : Nat) : Int), .list ((bitsB p).map .int), placeD p]
theorem alike_bools : ∀ a b : List Bool, PySem.W.alikeAll (a.map .bool) (b.map .bool) = true
  | [], [] => rfl
  | [], _ :: _ => rfl
  | _ :: _, [] => rfl
  | a :: p, b :: q => by
    show (PySem.W.alike (.bool a) (.bool b) && PySem.W.alikeAll (p.map .bool) (q.map .bool)) = true
    rw [alike_bools p q]; rfl
theorem alike_key (p q : List Bool) : PySem.W.alike (keyPD p) (keyPD q) = true := by
  unfold keyPD placeD
  simp only [PySem.W.alike, PySem.W.alikeAll, PySem.W.alike_ints, alike_bools, Bool.and_self]
theorem bits_inj : ∀ {p q : List Bool}, bitsB p = bitsB q → p = q
  | [], [], _ => rfl
  | [], _ :: _, h => by simp [bitsB] at h
  | _ :: _, [], h => by simp [bitsB] at h
  | a :: p, b :: q, h => by
    have h' : bitB a :: bitsB p = bitB b :: bitsB q := h
    obtain ⟨h1, h2⟩ := List.cons.inj h'
    rw [bits_inj h2]
    cases a <;> cases b <;> simp_all [bitB]
theorem bits_lt : ∀ {p q : List Bool}, p.length = q.length → decide (bitsB p < bitsB q) = lexB p q
  | [], [], _ => by decide
  | [], _ :: _, h => by simp at h
  | _ :: _, [], h => by simp at h
  | a :: p, b :: q, h => by
    have ih := bits_lt (p := p) (q := q) (by simpa using h)
    show decide (bitB a :: bitsB p < bitB b :: bitsB q) = (if a = b then lexB p q else a)
    rw [show decide (bitB a :: bitsB p < bitB b :: bitsB q) = decide (bitB a < bitB b ∨ bitB a = bitB b ∧ bitsB p < bitsB q) from decide_eq_decide.mpr List.cons_lt_cons_iff, ← ih]
    cases a <;> cases b <;> simp [bitB]
theorem key_lt (p q : List Bool) : PySem.W.dataLt (keyPD p) (keyPD q) = pltB p q := by
  unfold keyPD
  rw [PySem.W.dataLt_tuple, PySem.W.dataLt_cons rfl, PySem.W.dataLt_int]
  unfold pltB
  by_cases e : p.length = q.length
  · rw [if_pos (by rw [e]; simp [PyData.eqv]), decide_eq_false (show ¬ p.length < q.length by omega), decide_eq_true e, Bool.false_or, Bool.true_and]
    rw [PySem.W.dataLt_cons (by show PySem.W.alikeAll _ _ = true; exact PySem.W.alike_ints _ _), PySem.W.dataLt_list]
    by_cases c : p = q
    · subst c
      have e1 : PyData.eqv (.list ((bitsB p).map .int)) (.list ((bitsB p).map .int)) = true := by
        simp only [PyData.eqv]
        have := Ku.eqv_ints (bitsB p) (bitsB p)
        rw [this]; simp
      have e2 : PyData.eqv (placeD p) (placeD p) = true := PySem.W.eqv_refl_alike _ (by show PySem.W.alikeAll _ _ = true; exact alike_bools p p)
      rw [if_pos e1, PySem.W.dataLt_cons (by show PySem.W.alikeAll _ _ = true; exact alike_bools p p), if_pos e2, lexB_irr]
      exact PyProof.Rows.lex_irrefl _
    · have e1 : PyData.eqv (.list ((bitsB p).map .int)) (.list ((bitsB q).map .int)) = false := by
        simp only [PyData.eqv]
        have := Ku.eqv_ints (bitsB p) (bitsB q)
        rw [this]
        exact decide_eq_false fun z => c (bits_inj z)
      rw [if_neg (by rw [e1]; exact Bool.false_ne_true)]
      have := PySem.W.dataLt_ints (bitsB p) (bitsB q)
      rw [← bits_lt e]
      exact this
  · rw [if_neg (by simp [PyData.eqv]; omega), decide_eq_false e, Bool.false_and, Bool.or_false, decide_eq_decide]
    omega
end Kf

set_option Elab.async false
set_option linter.all false
set_option maxRecDepth 100000
set_option maxHeartbeats 8000000
/-! ways_on -/
namespace Kc
open PySem PySem.Spec PyProof.Rows L2 Kg Kd Kr Kf Kl
abbrev sWyo : Stmt := topS 17
abbrev psWyo : List Str := ["place", "tree", "some"]
abbrev nWyo : List Str := ["place", "tree", "some", "kind", "yes", "no"]
theorem scWyo : FnScope nWyo psWyo (defScope sWyo) := ⟨rfl, rfl, rfl, by decide +kernel, rfl, by decide +kernel, by decide +kernel⟩
/-- an entry of a level; its lots do not stand at A or B -/
def EvAt (A B : Addr) (H : Hp) (v : V) (e : LvE) : Prop := ∃ t pl v' sm xs, v = .ref t ∧ sm ≠ A ∧ sm ≠ B ∧ H t = some (.tup [.ref pl, v', .ref sm]) ∧ H pl = some (.tup (e.1.map V.bl)) ∧ Tu H v' e.2.1.d ∧ SqA H sm xs ∧ TuAll H xs (e.2.2.map pdI)
theorem EvAt.keep {A B A' B' : Addr} {H H' : Hp} {v : V} {e : LvE} (h : EvAt A B H v e) (kt : ∀ b xs, H b = some (.tup xs) → H' b = some (.tup xs)) (kl : ∀ b xs, b ≠ A → b ≠ B → H b = some (.lst xs) → H' b = some (.lst xs)) (kf : KF H H') (na : ∀ b, b ≠ A → b ≠ B → H b ≠ none → b ≠ A' ∧ b ≠ B') : EvAt A' B' H' v e := by
  obtain ⟨t, pl, v', sm, xs, rfl, n1, n2, h1, h2, h3, h4, h5⟩ := h
  have nn : H sm ≠ none := by rcases h4 with z | z <;> rw [z] <;> intro y <;> cases y
  obtain ⟨m1, m2⟩ := na sm n1 n2 nn
  exact ⟨t, pl, v', sm, xs, rfl, m1, m2, kt _ _ h1, kt _ _ h2, h3.keep kf, h4.imp (kl _ _ n1 n2) (kt _ _), h5.keep kf⟩
theorem EvAt.same {A B : Addr} {H H' : Hp} {v : V} {e : LvE} (h : EvAt A B H v e) (s : Same H H') : EvAt A B H' v e := h.keep (fun _ _ => s _ _) (fun _ _ _ _ => s _ _) (.of_same s) fun _ a b _ => ⟨a, b⟩
def spWyo : Sp := fun vs H Q _ => ∃ (pl sm : Addr) (v : V) (xs : List V) (e : LvE), vs = [.ref pl, v, .ref sm] ∧ H pl = some (.tup (e.1.map V.bl)) ∧ e.1.length ≤ 100 ∧ Tu H v e.2.1.d ∧ SqA H sm xs ∧ TuAll H xs (e.2.2.map pdI) ∧ e.2.2.length ≤ 900 ∧
  ∀ H' a ys, Same H H' → H a = none → H' a = some (.lst ys) → (∀ A B, H A ≠ none → H B ≠ none → Paired (EvAt A B H') ys (waysB e)) → Q (.ref a) H'
section
variable {P : Program} {w : World} {K : PySem.W.Frag} {mg : Str → Option Value} {base : Heap} {f : Addr} {fd : FuncData}
theorem ok_wyo (F : Fun K "ways_on" "ways_on" sWyo f fd) (GN : Cal P w K mg base "is_number" 1 ["value"] spNum) (GY : Cal P w K mg base "with_kind" 1 ["some", "kind"] (spWk wk)) (GO : Cal P w K mg base "without_kind" 1 ["some", "kind"] (spWk wo)) : FnOk P w K mg base CX0 2 f fd psWyo spWyo := by
  refine F.ok scWyo (fun vs H Q E h => ?_) (fun cdv A outer s H vs Q E hr h => ?_)
  · obtain ⟨pl, sm, v, xs, e, rfl, _⟩ := h
    rfl
  · obtain ⟨pl, sm, v, xs, e, rfl, hp, pl8, tv, hs, hx, l9, q⟩ := h
    obtain ⟨p, t, ls⟩ := e
    simp only at hp pl8 tv hx l9 q
    refine ⟨_, (pss_cons (ps_if (pt_val (pe_cal GN hr (by rfl) (pa_cons (pv 1) pa_nil))) (pss_one (ps_ret (pe_lst pa_nil))) pss_nil)
      (pss_cons (ps_asg (pv 1) (pg_tup rfl (pgs_cons (pg_name (i := 3) scWyo.nd rfl (.inl rfl)) (pgs_cons (pg_name (i := 4) scWyo.nd rfl (.inl rfl)) (pgs_cons (pg_name (i := 5) scWyo.nd rfl (.inl rfl)) pgs_nil)))))
      (pss_one (ps_ret (pe_lst (pa_cons (pe_tup (pa_cons (pe_op op_catN (pv 0) (pe_tup (pa_cons pe_bl pa_nil))) (pa_cons (pv 4) (pa_cons (pe_cal GY hr (by rfl) (pa_cons (pv 2) (pa_cons (pv 3) pa_nil))) pa_nil)))) (pa_cons (pe_tup (pa_cons (pe_op op_catN (pv 0) (pe_tup (pa_cons pe_bl pa_nil))) (pa_cons (pv 5) (pa_cons (pe_cal GO hr (by rfl) (pa_cons (pv 2) (pa_cons (pv 3) pa_nil))) pa_nil)))) pa_nil))))))), ?_⟩
    have z0 : 0 ≤ sizeLine := by omega
    have z1 : 1 ≤ sizeLine := by rw [sizeLine_eq]; decide
    have z2 : 2 ≤ sizeLine := by rw [sizeLine_eq]; decide
    have z3 : 3 ≤ sizeLine := by rw [sizeLine_eq]; decide
    refine ⟨_, rfl, v, t.d, rfl, tv.da, _, rfl, ?_⟩
    cases t with
    | ans a => exact iteT ⟨z0, fun L nL => q _ L [] (same_new nL) nL upd_same fun _ _ _ _ => .nil⟩
    | tst k y n =>
      obtain ⟨b, v1, v2, rfl, hb, t1, t2⟩ := tu_tst tv
      refine iteF ⟨_, rfl, b, _, rfl, SqT.of hb, rfl, _, _, rfl, _, _, rfl, _, _, rfl, rfl, ?_⟩
      -- yes
      refine ⟨_, rfl, z1, fun b1 nb1 => ?_⟩
      have s1 := same_new (o := HO.tup [V.bl true]) nb1
      refine ⟨pl, b1, _, _, rfl, rfl, s1 _ _ hp, upd_same, by rw [List.length_map]; show p.length + 1 ≤ 1000; omega, fun p1 H2 s2 hp1 => ?_⟩
      have s12 := s1.trans s2
      refine ⟨_, rfl, _, rfl, _, rfl, sm, xs, ls, k, rfl, hs.same s12, hx.keep (.of_same s12), l9, fun H3 D1 ys1 s3 nD1 hD1 tD1 => ⟨z3, fun T1 nT1 => ?_⟩⟩
      have s4 := same_new (o := HO.tup [V.ref p1, v1, V.ref D1]) nT1
      have s14 := s12.trans (s3.trans s4)
      have hT1 := upd_same (H := H3) (a := T1) (o := HO.tup [V.ref p1, v1, V.ref D1])
      have nD1H : H D1 = none := s12.free nD1
      have hp1' := s4 _ _ (s3 _ _ hp1)
      have hD1' := s4 _ _ hD1
      have tD1' := tD1.keep (.of_same s4)
      generalize upd H3 T1 (HO.tup [V.ref p1, v1, V.ref D1]) = H4 at s14 hT1 hp1' hD1' tD1'
      -- no
      refine ⟨_, rfl, z1, fun b2 nb2 => ?_⟩
      have s5 := same_new (o := HO.tup [V.bl false]) nb2
      refine ⟨pl, b2, _, _, rfl, rfl, s5 _ _ (s14 _ _ hp), upd_same, by rw [List.length_map]; show p.length + 1 ≤ 1000; omega, fun p2 H6 s6 hp2 => ?_⟩
      have s56 := s5.trans s6
      have s16 := s14.trans s56
      refine ⟨_, rfl, _, rfl, _, rfl, sm, xs, ls, k, rfl, hs.same s16, hx.keep (.of_same s16), l9, fun H7 D2 ys2 s7 nD2 hD2 tD2 => ⟨z3, fun T2 nT2 => ⟨z2, fun L nL => ?_⟩⟩⟩
      have s8 := same_new (o := HO.tup [V.ref p2, v2, V.ref D2]) nT2
      have s9 := same_new (o := HO.lst [V.ref T1, V.ref T2]) nL
      have nD2H : H D2 = none := s16.free nD2
      have s49 := s56.trans (s7.trans (s8.trans s9))
      have s19 := s14.trans s49
      have s79 := s7.trans (s8.trans s9)
      refine q _ L [.ref T1, .ref T2] s19 ((s16.trans (s7.trans s8)).free nL) upd_same fun A B hA hB => ?_
      have ne : ∀ {D Z : Addr}, H D = none → H Z ≠ none → D ≠ Z := fun h1 h2 e => h2 (e ▸ h1)
      refine .cons ⟨T1, p1, v1, D1, ys1, rfl, ne nD1H hA, ne nD1H hB, s49 _ _ hT1, ?_, t1.same s19, .inl (s49 _ _ hD1'), tD1'.keep (.of_same s49)⟩ (.cons ⟨T2, p2, v2, D2, ys2, rfl, ne nD2H hA, ne nD2H hB, s9 _ _ upd_same, ?_, t2.same s19, .inl (s9 _ _ (s8 _ _ hD2)), tD2.keep (.of_same (s8.trans s9))⟩ .nil)
      · show _ = some (HO.tup ((p ++ [true]).map V.bl))
        rw [List.map_append]
        exact s49 _ _ hp1'
      · show _ = some (HO.tup ((p ++ [false]).map V.bl))
        rw [List.map_append]
        exact s79 _ _ hp2
end
end Kc

set_option Elab.async false
set_option linter.all false
set_option maxRecDepth 100000
set_option maxHeartbeats 8000000
/-! reached_places -/
namespace Kc
open PySem PySem.Spec PyProof.Rows L2 Kg Kd Kr Kf Kl LamX
abbrev sRpl : Stmt := topS 18
abbrev nRpl : List Str := ["kinds", "tree", "places", "level", "below", "place", "part", "some"]
theorem scRpl : FnScope nRpl ["kinds", "tree"] (defScope sRpl) := ⟨rfl, rfl, rfl, by decide +kernel, rfl, by decide +kernel, by decide +kernel⟩
def PlAt (H : Hp) (v : V) (p : List Bool) : Prop := ∃ pl, v = .ref pl ∧ H pl = some (.tup (p.map V.bl))
def spRpl (T : List (Addr × Str)) (C : Addr) : Sp := fun vs H Q _ => ∃ (p : Addr) (v : V) (t : Tr) (es : List (List Nat)) (cl ho : List Nat) (sv : Bool), vs = [.ref p, v] ∧ KO C H p es cl ho sv ∧ Tabs T H ∧ Tu H v t.d ∧ t.size ≤ 20 ∧
  ∀ H' r xs ls, Gr T H H' → IsLots es cl ho sv ls → H' r = some (.tup xs) → Paired (PlAt H') xs (bfsB (t.dep + 1) [([], t, ls)]) → Q (.ref r) H'
/-- how many nodes -/
def nodB (L : List LvE) : Nat := (L.map fun e => 2 * e.2.1.size + 1).sum
theorem nod_app (a b : List LvE) : nodB (a ++ b) = nodB a + nodB b := by unfold nodB; rw [List.map_append, List.sum_append]
theorem nod_len : ∀ L : List LvE, L.length ≤ nodB L
  | [] => Nat.le_refl _
  | e :: L => by
    have := nod_len L
    have h : nodB (e :: L) = (2 * e.2.1.size + 1) + nodB L := by unfold nodB; rw [List.map_cons, List.sum_cons]
    rw [h, List.length_cons]; omega
theorem nod_ways (e : LvE) : nodB (waysB e) + 1 ≤ 2 * e.2.1.size + 1 := by
  unfold waysB
  cases e.2.1 with
  | ans a => exact Nat.le_refl _
  | tst k y n =>
    show (2 * y.size + 1) + ((2 * n.size + 1) + 0) + 1 ≤ 2 * (1 + y.size + n.size) + 1
    omega
theorem nod_step : ∀ L : List LvE, nodB (stepB L) + (liveB L).length ≤ nodB L
  | [] => Nat.le_refl _
  | e :: L => by
    have ih := nod_step L
    have h : nodB (e :: L) = (2 * e.2.1.size + 1) + nodB L := by unfold nodB; rw [List.map_cons, List.sum_cons]
    rw [h]
    unfold stepB liveB at ih ⊢
    by_cases c : 0 < e.2.2.length
    · rw [List.filter_cons_of_pos (by simpa using c), List.flatMap_cons, nod_app, List.length_cons]
      have := nod_ways e
      omega
    · rw [List.filter_cons_of_neg (by simpa using c)]
      omega
theorem lots_ways {e f : LvE} {m : Nat} (h : e.2.2.length ≤ m) (hf : f ∈ waysB e) : f.2.2.length ≤ m ∧ f.1.length = e.1.length + 1 := by
  unfold waysB at hf
  cases ht : e.2.1 with
  | ans a => rw [ht] at hf; cases hf
  | tst k y n =>
    rw [ht] at hf
    rcases List.mem_cons.mp hf with e1 | e1
    · rw [e1]
      exact ⟨Nat.le_trans (List.length_filter_le _ _) h, by simp⟩
    · rw [List.mem_singleton.mp e1]
      exact ⟨Nat.le_trans (List.length_filter_le _ _) h, by simp⟩
theorem bfs_nil : ∀ n, bfsB n [] = []
  | 0 => rfl
  | n + 1 => by show [] ++ bfsB n [] = []; rw [bfs_nil n]; rfl
theorem prd_app {α β : Type} {G : α → β → Prop} : ∀ {as cs : List α} {bs ds : List β}, Paired G as bs → Paired G cs ds → Paired G (as ++ cs) (bs ++ ds)
  | _, _, _, _, .nil, h => h
  | _, _, _, _, .cons a r, h => .cons a (prd_app r h)
theorem prd_get {α β : Type} {G : α → β → Prop} {as : List α} {bs : List β} (h : Paired G as bs) {i : Nat} {a : α} (ha : as[i]? = some a) : ∃ b, bs[i]? = some b ∧ G a b := by
  induction h generalizing i with
  | nil => simp at ha
  | cons h1 h2 ih =>
    cases i with
    | zero => simp at ha; subst ha; exact ⟨_, rfl, h1⟩
    | succ i => exact ih (by simpa using ha)
theorem gr_putLd {T : List (Addr × Str)} {H H1 : Hp} {D : Addr} {xs : List V} {u : HO} (n : ∀ o, H D = some o → (∀ ps, o ≠ .tbl ps) → False) (g : Gr T H H1) (h : H1 D = some (.lst xs)) : Gr T H (upd H1 D u) := by
  refine ⟨fun b o e z => ?_, fun t => tabs_keep (ds := fun a => a = D) (Keep.put rfl) (fun a z => ⟨xs, by rw [z]; exact h⟩) (g.2 t)⟩
  have nb : b ≠ D := fun y => n o (y ▸ e) z
  rw [upd_ne nb]; exact g.1 b o e z
section
variable {P : Program} {w : World} {K : PySem.W.Frag} {mg : Str → Option Value} {base : Heap} {f : Addr} {fd : FuncData}
theorem ok_rpl {T : List (Addr × Str)} {C : Addr} (F : Fun K "reached_places" "reached_places" sRpl f fd) (B : Bl mg) (GL : Cal P w K mg base "lots" 6 ["kinds"] (spLotsP T C)) (GW : Cal P w K mg base "ways_on" 2 psWyo spWyo) : FnOk P w K mg base CX0 7 f fd ["kinds", "tree"] (spRpl T C) := by
  refine F.ok scRpl (fun vs H Q E h => ?_) (fun cdv A outer s H vs Q E hr h => ?_)
  · obtain ⟨p, v, t, es, cl, ho, sv, rfl, _⟩ := h
    rfl
  · obtain ⟨p, v, t, es, cl, ho, sv, rfl, ko, hT, tv, ts, q⟩ := h
    have hr2 := hr.mono (show 2 ≤ 6 by decide)
    refine ⟨_, (pss_cons (ps_set (i := 2) scRpl.nd rfl (.inl rfl) (pe_lst pa_nil))
      (pss_cons (ps_set (i := 3) scRpl.nd rfl (.inl rfl) (pe_lst (pa_cons (pe_tup (pa_cons (pe_tup pa_nil) (pa_cons (pv 1) (pa_cons (pe_cal GL hr (by rfl) (pa_cons (pv 0) pa_nil)) pa_nil)))) pa_nil)))
      (pss_cons (ps_while PassesOwn.never (pt_truth (pv 3) (fun _ => rfl)) (pss_cons (ps_set (i := 4) scRpl.nd rfl (.inl rfl) (pe_lst pa_nil)) (pss_cons (ps_for PassesOwn.never rfl (pi_list (pv 3)) (pg_tup rfl (pgs_cons (pg_name (i := 5) scRpl.nd rfl (.inl rfl)) (pgs_cons (pg_name (i := 6) scRpl.nd rfl (.inl rfl)) (pgs_cons (pg_name (i := 7) scRpl.nd rfl (.inl rfl)) pgs_nil)))) (pss_one (ps_if (pt_cmpR op_gt (pe_callB call_len_seq (by rfl) B.len PySem.boot_len (pa_cons (pv 7) pa_nil)) pe_int (nomark _)) (pss_cons (ps_expr (pe_bm PySem.F.plainAttrs_list PySem.F.slot_list_append PySem.F.type_list_append mt_append (pv 2) (pa_cons (pv 5) pa_nil))) (pss_one (ps_expr (pe_bm PySem.F.plainAttrs_list PySem.F.slot_list_extend PySem.F.type_list_extend mt_extend (pv 4) (pa_cons (pe_cal GW hr2 (by rfl) (pa_cons (pv 5) (pa_cons (pv 6) (pa_cons (pv 7) pa_nil)))) pa_nil))))) pss_nil))) (pss_one (ps_set (i := 3) scRpl.nd rfl (.inl rfl) (pv 4))))))
      (pss_one (ps_ret (pe_callTy call_tupN (by rfl) B.tuple PyProof.Rows.boot_tuple (pa_cons (pv 2) pa_nil))))))), ?_⟩
    have z0 : 0 ≤ sizeLine := by omega
    have z1 : 1 ≤ sizeLine := by rw [sizeLine_eq]; decide
    have z3 : 3 ≤ sizeLine := by rw [sizeLine_eq]; decide
    refine ⟨z0, fun Pa nPa => ?_⟩
    have s1 := same_new (o := HO.lst []) nPa
    refine ⟨z0, fun em nem => ?_⟩
    have s2 := same_new (o := HO.tup []) nem
    have s12 := s1.trans s2
    refine ⟨_, rfl, _, rfl, p, es, cl, ho, sv, rfl, ko.keep (.of_same s12), hT.ext s12, fun H3 qa ls g3 tq il => ⟨z3, fun T0 nT0 => ⟨z1, fun La nLa => ?_⟩⟩⟩
    obtain ⟨qa', us, eqa, hqa, ul, hU⟩ := tu_elders tq
    cases eqa
    have s4 := same_new (o := HO.tup [V.ref em, v, V.ref qa]) nT0
    have s5 := same_new (o := HO.lst [V.ref T0]) nLa
    have s45 := s4.trans s5
    have l63 := il.len63 ko.el.hi
    have hPa3 : H3 Pa = some (.lst []) := g3.lst (s2 _ _ upd_same)
    have hem3 : H3 em = some (.tup []) := by
      exact g3.tup upd_same
    have g05 : Gr T H (upd (upd H3 T0 (HO.tup [V.ref em, v, V.ref qa])) La (HO.lst [V.ref T0])) := (Gr.aft s12 g3).thn s45
    have hPa5 := s45 _ _ hPa3
    have ev0 : EvAt Pa La (upd (upd H3 T0 (HO.tup [V.ref em, v, V.ref qa])) La (HO.lst [V.ref T0])) (.ref T0) ([], t, ls) := by
      refine ⟨T0, em, v, qa, us, rfl, ?_, ?_, s5 _ _ upd_same, s45 _ _ hem3, (g05.tu tv), .inr (s45 _ _ hqa), hU.keep (.of_same s45)⟩
      · exact ne_of hqa hPa3 (by intro y; cases y)
      · exact ne_of_none (s4 _ _ hqa) nLa
    have hLa5 : (upd (upd H3 T0 (HO.tup [V.ref em, v, V.ref qa])) La (HO.lst [V.ref T0])) La = some (.lst [V.ref T0]) := upd_same
    have nPL : Pa ≠ La := ne_of_none (s4 _ _ hPa3) nLa
    generalize (upd (upd H3 T0 (HO.tup [V.ref em, v, V.ref qa])) La (HO.lst [V.ref T0])) = H5 at g05 hPa5 ev0 hLa5
    refine ⟨fun m σ H6 => ∃ (Lv : Addr) (xs acc : List V) (L : List LvE) (pls : List (List Bool)) (y4 y5 y6 y7 : Option V), σ = [some (.ref p), some v, some (.ref Pa), some (.ref Lv), y4, y5, y6, y7] ∧ Gr T H H6 ∧ Pa ≠ Lv ∧ H6 Pa = some (.lst acc) ∧ H6 Lv = some (.lst xs) ∧ Paired (PlAt H6) acc pls ∧ Paired (EvAt Pa Lv H6) xs L ∧ depB L m ∧ pls ++ bfsB m L = bfsB (t.dep + 1) [([], t, ls)] ∧ pls.length + nodB L ≤ 41 ∧ (∀ e ∈ L, e.2.2.length ≤ 63 ∧ e.1.length ≤ pls.length),
      ⟨t.dep + 1, La, _, [], [([], t, ls)], [], none, none, none, none, rfl, g05, nPL, hPa5, hLa5, .nil, .cons ev0 .nil, fun e he => by rw [List.mem_singleton.mp he]; exact Nat.lt_succ_self _, rfl, by show 0 + ((2 * t.size + 1) + 0) ≤ 41; omega, fun e he => by rw [List.mem_singleton.mp he]; exact ⟨l63, Nat.le_refl _⟩⟩, ?_⟩
    rintro m σ H6 ⟨Lv, xs, acc, L, pls, y4, y5, y6, y7, rfl, g6, nPL6, hPa, hLv, pp, pe, dL, eL, nL, sL⟩
    refine ⟨_, rfl, !xs.isEmpty, .inl ⟨xs, SqL.of hLv, rfl⟩, ?_⟩
    have xl := pe.length
    have al := pp.length
    have nlen := nod_len L
    cases xs with
    | nil =>
      have : L = [] := by cases pe; rfl
      subst this
      rw [bfs_nil, List.append_nil] at eL
      refine iteF ⟨_, rfl, Pa, acc, rfl, .inl hPa, fun r H7 s7 hr7 => ?_⟩
      refine q H7 r acc ls (g6.thn s7) il hr7 ?_
      rw [← eL]
      exact Paired.mapP pp fun x y h => by obtain ⟨z, e, h⟩ := h; exact ⟨z, e, s7 _ _ h⟩
    | cons x0 xr =>
      obtain ⟨m, rfl⟩ : ∃ k, m = k + 1 := by
        cases m with
        | zero =>
          cases pe with
          | cons _ _ => exact absurd (dL _ (List.mem_cons_self ..)) (Nat.not_lt_zero _)
        | succ k => exact ⟨k, rfl⟩
      refine iteT ⟨fun σ' H' => ∃ (Lv : Addr) (xs acc : List V) (L : List LvE) (pls : List (List Bool)) (y4 y5 y6 y7 : Option V), σ' = [some (.ref p), some v, some (.ref Pa), some (.ref Lv), y4, y5, y6, y7] ∧ Gr T H H' ∧ Pa ≠ Lv ∧ H' Pa = some (.lst acc) ∧ H' Lv = some (.lst xs) ∧ Paired (PlAt H') acc pls ∧ Paired (EvAt Pa Lv H') xs L ∧ depB L m ∧ pls ++ bfsB m L = bfsB (t.dep + 1) [([], t, ls)] ∧ pls.length + nodB L ≤ 41 ∧ (∀ e ∈ L, e.2.2.length ≤ 63 ∧ e.1.length ≤ pls.length), fun σ' H' h => ⟨m, Nat.lt_succ_self m, h⟩, ?_⟩
      generalize hxs : x0 :: xr = xs at hLv pe xl
      clear hxs
      refine ⟨z0, fun Be nBe => ?_⟩
      have s7 := same_new (o := HO.lst []) nBe
      have hPa7 := s7 _ _ hPa
      have hLv7 := s7 _ _ hLv
      have nBP : Be ≠ Pa := fun e => by rw [e, hPa] at nBe; cases nBe
      have nBL : Be ≠ Lv := fun e => by rw [e, hLv] at nBe; cases nBe
      have pe7 : Paired (EvAt Pa Be (upd H6 Be (HO.lst []))) xs L := Paired.mapP pe fun x y h => h.keep (fun _ _ => s7 _ _) (fun _ _ _ _ => s7 _ _) (.of_same s7) fun b h1 h2 h3 => ⟨h1, fun e => h3 (e ▸ nBe)⟩
      refine ⟨_, rfl, Lv, rfl, ⟨_, SqL.of hLv7⟩, for_list (K := K) (a := Lv) (xs := xs) (fun i σ H8 => ∃ (acc8 bs : List V) (y5 y6 y7 : Option V), σ = [some (.ref p), some v, some (.ref Pa), some (.ref Lv), some (.ref Be), y5, y6, y7] ∧ Gr T H H8 ∧ H8 Lv = some (.lst xs) ∧ H8 Pa = some (.lst acc8) ∧ H8 Be = some (.lst bs) ∧ Paired (PlAt H8) acc8 (pls ++ (liveB (L.take i)).map (·.1)) ∧ Paired (EvAt Pa Be H8) bs (stepB (L.take i)) ∧ Paired (EvAt Pa Be H8) xs L)
        ⟨acc, [], y5, y6, y7, rfl, g6.thn s7, hLv7, hPa7, upd_same, by
          show Paired (PlAt _) acc (pls ++ [])
          rw [List.append_nil]
          exact Paired.mapP pp fun x y h => by obtain ⟨z, e, h⟩ := h; exact ⟨z, e, s7 _ _ h⟩, .nil, pe7⟩ (fun i σ H8 _ pp => by obtain ⟨_, _, _, _, _, _, _, pp, _⟩ := pp; exact SqL.of pp) (fun i x σ H8 hx pp => ?_) (fun σ H8 pp => ?_)⟩
      · obtain ⟨acc8, bs, z5, z6, z7, rfl, g8, hLv8, hPa8, hBe8, pp8, pb8, pe8⟩ := pp
        obtain ⟨e, he, ev⟩ := prd_get pe8 hx
        obtain ⟨te, pl, v', sm, us, rfl, n1, n2, h1, h2, h3, h4, h5⟩ := id ev
        have eL' := sL e (List.mem_of_getElem? he)
        have ul : us.length = e.2.2.length := by rw [h5.length, List.length_map]
        have tk : L.take (i + 1) = L.take i ++ [e] := by rw [List.take_add_one, he]; rfl
        refine ⟨te, _, rfl, SqT.of h1, rfl, _, _, rfl, _, _, rfl, _, _, rfl, rfl, ?_⟩
        refine ⟨_, rfl, sm, us, rfl, (by rcases h4 with z | z; exact .inl (SqL.of z); exact .inr (SqT.of z)), _, _, rfl, rfl, _, rfl, ?_⟩
        rw [ul]
        by_cases c : 0 < e.2.2.length
        · have lv : liveB (L.take (i + 1)) = liveB (L.take i) ++ [e] := by
            unfold liveB
            rw [tk, List.filter_append, List.filter_cons_of_pos (by simpa using c)]; rfl
          have st : stepB (L.take (i + 1)) = stepB (L.take i) ++ waysB e := by
            unfold stepB
            rw [lv, List.flatMap_append, List.flatMap_cons, List.flatMap_nil, List.append_nil]
          have al8 := pp8.length
          have bl8 := pb8.length
          have c1 : (pls ++ (liveB (L.take i)).map (·.1)).length ≤ 82 := by
            rw [List.length_append, List.length_map]
            have a1 : (liveB (L.take i)).length ≤ L.length := Nat.le_trans (List.length_filter_le _ _) (by rw [List.length_take]; omega)
            omega
          have c2 : (stepB (L.take i)).length ≤ 41 := by
            have a1 := nod_len (stepB (L.take i))
            have a2 := nod_step (L.take i)
            have a3 : nodB (L.take i) ≤ nodB L := by
              have := nod_app (L.take i) (L.drop i)
              rw [List.take_append_drop] at this
              omega
            omega
          refine iteD (decide_eq_true (by omega)) ⟨_, rfl, .inl ⟨rfl, _, SqL.of hPa8⟩, _, rfl, Pa, acc8, _, rfl, rfl, hPa8, small1000 (by omega), ?_⟩
          -- places has grown
          have kt9 : ∀ b ys, H8 b = some (.tup ys) → upd H8 Pa (.lst (acc8 ++ [V.ref pl])) b = some (.tup ys) := fun b ys z => by rw [upd_ne (ne_of z hPa8 (by intro y; cases y))]; exact z
          have kf9 : KF H8 (upd H8 Pa (.lst (acc8 ++ [V.ref pl]))) := KF.putL hPa8
          have ke9 : ∀ v e, EvAt Pa Be H8 v e → EvAt Pa Be (upd H8 Pa (.lst (acc8 ++ [V.ref pl]))) v e := fun v e h => h.keep kt9 (fun b ys b1 _ z => by rw [upd_ne b1]; exact z) kf9 fun b b1 b2 _ => ⟨b1, b2⟩
          have hPa9 : upd H8 Pa (.lst (acc8 ++ [V.ref pl])) Pa = some (.lst (acc8 ++ [V.ref pl])) := upd_same
          have hLv9 : upd H8 Pa (.lst (acc8 ++ [V.ref pl])) Lv = some (.lst xs) := by rw [upd_ne fun e => nPL6 e.symm]; exact hLv8
          have hBe9 : upd H8 Pa (.lst (acc8 ++ [V.ref pl])) Be = some (.lst bs) := by rw [upd_ne nBP]; exact hBe8
          have i2 := kt9 _ _ h2
          have i3 := h3.keep kf9
          have i4 : SqA (upd H8 Pa (.lst (acc8 ++ [V.ref pl]))) sm us := h4.imp (fun z => by rw [upd_ne n1]; exact z) (kt9 _ _)
          have i5 := h5.keep kf9
          have pp9 : Paired (PlAt (upd H8 Pa (.lst (acc8 ++ [V.ref pl])))) (acc8 ++ [V.ref pl]) (pls ++ (liveB (L.take (i + 1))).map (·.1)) := by
            rw [lv, List.map_append, ← List.append_assoc]
            refine prd_app (Paired.mapP pp8 fun x y h => by obtain ⟨z, e, h⟩ := h; exact ⟨z, e, kt9 _ _ h⟩) (.cons ⟨pl, rfl, kt9 _ _ h2⟩ .nil)
          have pb9 := Paired.mapP pb8 ke9
          have pe9 := Paired.mapP pe8 ke9
          have g09 : Gr T H (upd H8 Pa (.lst (acc8 ++ [V.ref pl]))) := Gr.putL (H2 := H8) nPa g8 hPa8
          generalize upd H8 Pa (.lst (acc8 ++ [V.ref pl])) = H9 at hPa9 hLv9 hBe9 i2 i3 i4 i5 pp9 pb9 pe9 g09
          refine ⟨_, rfl, .inl ⟨rfl, _, SqL.of hBe9⟩, _, rfl, _, rfl, _, rfl, pl, sm, v', us, e, rfl, i2, by omega, i3, i4, i5, by omega, fun H10 w0 ws s10 nw0 hw0 hws => ?_⟩
          have hBe10 := s10 _ _ hBe9
          have pw := hws Pa Be (by rw [hPa9]; intro y; cases y) (by rw [hBe9]; intro y; cases y)
          have wl := pw.length
          have wl2 : (waysB e).length ≤ 2 := by
            unfold waysB
            split <;> simp
          refine ⟨Be, w0, bs, ws, rfl, rfl, hBe10, hw0, (by rw [sizeLine_eq]; omega), ?_⟩
          have kt11 : ∀ b ys, H10 b = some (.tup ys) → upd H10 Be (.lst (bs ++ ws)) b = some (.tup ys) := fun b ys z => by rw [upd_ne (ne_of z hBe10 (by intro y; cases y))]; exact z
          have kf11 : KF H10 (upd H10 Be (.lst (bs ++ ws))) := KF.putL hBe10
          have ke11 : ∀ v e, EvAt Pa Be H10 v e → EvAt Pa Be (upd H10 Be (.lst (bs ++ ws))) v e := fun v e h => h.keep kt11 (fun b ys _ b2 z => by rw [upd_ne b2]; exact z) kf11 fun b b1 b2 _ => ⟨b1, b2⟩
          refine ⟨acc8 ++ [V.ref pl], bs ++ ws, _, _, _, rfl, gr_putLd (fun o z1 z2 => by have := g6.1 _ _ z1 z2; rw [nBe] at this; cases this) (g09.thn s10) hBe10, ?_, ?_, upd_same, ?_, ?_, ?_⟩
          · rw [upd_ne fun e => nBL e.symm]; exact s10 _ _ hLv9
          · rw [upd_ne fun e => nBP e.symm]; exact s10 _ _ hPa9
          · exact Paired.mapP pp9 fun x y h => by obtain ⟨z, e, h⟩ := h; exact ⟨z, e, kt11 _ _ (s10 _ _ h)⟩
          · rw [st]
            exact prd_app (Paired.mapP pb9 fun v e h => ke11 _ _ (h.same s10)) (Paired.mapP pw ke11)
          · exact Paired.mapP pe9 fun v e h => ke11 _ _ (h.same s10)
        · have lv : liveB (L.take (i + 1)) = liveB (L.take i) := by
            unfold liveB
            rw [tk, List.filter_append, List.filter_cons_of_neg (by simpa using c)]; simp
          have st : stepB (L.take (i + 1)) = stepB (L.take i) := by unfold stepB; rw [lv]
          refine iteE (decide_eq_false (by omega)) ⟨acc8, bs, _, _, _, rfl, g8, hLv8, hPa8, hBe8, ?_, ?_, pe8⟩
          · rw [lv]; exact pp8
          · rw [st]; exact pb8
      · obtain ⟨acc8, bs, z5, z6, z7, rfl, g8, hLv8, hPa8, hBe8, pp8, pb8, pe8⟩ := pp
        rw [xl, List.take_length] at pp8 pb8
        have ns := nod_step L
        refine ⟨_, rfl, Be, bs, acc8, stepB L, pls ++ (liveB L).map (·.1), _, _, _, _, rfl, g8, fun e => nBP e.symm, hPa8, hBe8, pp8, pb8, depB_step dL, ?_, ?_, fun f hf => ?_⟩
        · rw [List.append_assoc]
          exact eL
        · rw [List.length_append, List.length_map]; omega
        · obtain ⟨e, he, hw⟩ := List.mem_flatMap.mp hf
          obtain ⟨he1, he2⟩ := List.mem_filter.mp he
          have z := lots_ways (sL e he1).1 hw
          refine ⟨z.1, ?_⟩
          rw [z.2, List.length_append, List.length_map]
          have := (sL e he1).2
          have := List.length_pos_of_mem he
          show e.1.length + 1 ≤ pls.length + (liveB L).length
          have h0 : 0 < (liveB L).length := this
          omega
end
end Kc

set_option Elab.async false
set_option linter.all false
set_option maxRecDepth 100000
set_option maxHeartbeats 4000000
namespace Kc
open PySem PySem.Spec PyProof.Rows L2 Kg Kd Kr Kf Kl
abbrev sTree : Stmt := topS 39
abbrev psTree : List Str := ["_law_deck_here", "_law_many", "_law_deep"]
theorem scTree : FnScope ["_law_deck_here", "_law_many", "_law_deep", "_law_kind"] psTree (defScope sTree) := ⟨rfl, rfl, rfl, by decide +kernel, rfl, by decide +kernel, by decide +kernel⟩
def spTree (g : Nat) : Sp := fun vs H Q _ => ∃ (d la lb : Addr) (n j b : Nat), vs = [.ref d, .int (n : Nat), .int (j : Nat)] ∧ j < g ∧ 1 ≤ n ∧ n ≤ 6 ∧ DeckAt H d la lb (b + (3 * 2 ^ j - 2)) ∧
  ∀ H' v t, Go H d la lb b H' → Tu H' v t.d → Tr.ok n t → t.dep ≤ j → t.size + 1 ≤ 2 ^ j → Q v H'
section
variable {P : Program} {w : World} {K : PySem.W.Frag} {mg : Str → Option Value} {base : Heap} {f : Addr} {fd : FuncData}
theorem ok_tree1 {g : Nat} (F : Fun K "_law_tree" "_law_tree" sTree f fd) (GN : Cal P w K mg base "_law_next" 1 ["_law_deck_here", "_law_many"] spNext) (gT : mg "_law_tree" = some (.ref f)) (bT : Binds K fd psTree [])
    (G : FnOk P w K mg base CX0 (g + 1) f fd psTree (spTree g)) : FnOk P w K mg base CX0 (g + 2) f fd psTree (spTree (g + 1)) := by
  refine F.ok scTree (fun vs H Q E h => ?_) (fun cdv A outer s H vs Q E hr h => ?_)
  · obtain ⟨d, la, lb, n, j, b, rfl, _⟩ := h
    rfl
  · obtain ⟨d, la, lb, n, j, b, rfl, hj, n1, n6, D, q⟩ := h
    have hr1 := hr.mono (show 1 ≤ g + 1 by omega)
    refine ⟨_, pss_cons (ps_if (PW.pt (pw_or (pt_cmpR op_eq (pv 2) pe_int (nomark _)) (pw_or1 (pt_cmpR op_eq (pe_cal GN hr1 (by rfl) (pa_cons (pv 0) (pa_cons pe_int pa_nil))) pe_int (nomark _)))))
        (pss_one (ps_ret (pe_ix ix_list (pe_lst (pa_cons pe_int (pa_cons pe_int (pa_cons pe_int (pa_cons pe_int (pa_cons pe_int pa_nil)))))) (pe_cal GN hr1 (by rfl) (pa_cons (pv 0) (pa_cons pe_int pa_nil))) (fun _ _ => rfl)))) pss_nil)
      (pss_cons (ps_set (i := 3) scTree.nd rfl (.inl rfl) (pe_cal GN hr1 (by rfl) (pa_cons (pv 0) (pa_cons (pv 1) pa_nil))))
      (pss_one (ps_ret (pe_tup (pa_cons (pv 3) (pa_cons (pe_call G hr (by rfl) gT F.kp bT .nil pass0 (pa_cons (pv 0) (pa_cons (pv 1) (pa_cons (pe_op op_sub (pv 2) pe_int) pa_nil)))) (pa_cons (pe_call G hr (by rfl) gT F.kp bT .nil pass0 (pa_cons (pv 0) (pa_cons (pv 1) (pa_cons (pe_op op_sub (pv 2) pe_int) pa_nil)))) pa_nil))))))), ?_⟩
    have pw : 1 ≤ 2 ^ j := Nat.one_le_two_pow
    -- an answer
    have leaf : ∀ (H1 : Hp) (b1 : Nat), Go H d la lb (b + b1 + 1) H1 → ∃ (_ : 5 ≤ sizeLine), ∀ l, H1 l = none → ∃ v, (([some (.ref d), some (.int (n : Nat)), some (.int (j : Nat)), none] : L2.St)[0]? = some (some v)) ∧ ∃ (d' la' lb' : Addr) (m : Int) (b' : Nat), ([v, .int 5] ++ [] : List V) = [.ref d', .int m] ∧ 0 < m ∧ m < 1073741824 ∧ DeckAt (upd H1 l (.lst [.int 0, .int 5, .int 9, .int 7, .int 5])) d' la' lb' (b' + 1) ∧
        ∀ (r : Int) H', 0 ≤ r → r < m → DeckAt H' d' la' lb' b' → Keep (dk d' la') (upd H1 l (.lst [.int 0, .int 5, .int 9, .int 7, .int 5])) H' → ∃ p xs i z, V.ref l = .ref p ∧ V.int r = .int i ∧ SqL K H' p xs ∧ atI xs i = some z ∧ Q z H' := by
      intro H1 b1 g1
      refine ⟨by decide, fun l nl => ⟨_, rfl, d, la, lb, 5, b + b1, rfl, by decide, by decide, g1.now.same (same_new nl), fun r H2 r0 r1 D2 k2 => ?_⟩⟩
      have g2 := (g1.same (same_new (o := HO.lst [.int 0, .int 5, .int 9, .int 7, .int 5]) nl)).draw D2 k2
      have hl : H2 l = some (.lst [.int 0, .int 5, .int 9, .int 7, .int 5]) := k2 _ _ upd_same (by
        obtain ⟨a1, a2, _⟩ := g1.now.tracked
        rintro (z | z) <;> (rw [z] at nl; contradiction))
      have pick : ∃ m : Nat, atI ([.int 0, .int 5, .int 9, .int 7, .int 5] : List V) r = some (.int (m : Nat)) ∧ m ≤ 9 := by
        have : r = 0 ∨ r = 1 ∨ r = 2 ∨ r = 3 ∨ r = 4 := by omega
        rcases this with h | h | h | h | h <;> subst h
        · exact ⟨0, rfl, by decide⟩
        · exact ⟨5, rfl, by decide⟩
        · exact ⟨9, rfl, by decide⟩
        · exact ⟨7, rfl, by decide⟩
        · exact ⟨5, rfl, by decide⟩
      obtain ⟨m, hm, m9⟩ := pick
      exact ⟨l, _, r, .int (m : Nat), rfl, rfl, SqL.of hl, hm, q H2 _ (.ans m) (g2.less (by omega)) (.int _) m9 (Nat.zero_le _) (by show 0 + 1 ≤ 2 ^ j; omega)⟩
    refine ⟨_, rfl, rfl, _, rfl, ?_⟩
    by_cases j0 : j = 0
    · subst j0
      refine iteD (by simp) (iteT ?_)
      obtain ⟨z1, z2⟩ := leaf H 0 ((Go.refl D).less (by simp))
      exact ⟨z1, z2⟩
    · have e0 : decide (V.int ((j : Nat) : Int) = V.int 0) = false := decide_eq_false (fun z => j0 (by have := V.int.inj z; omega))
      rw [e0]
      obtain ⟨i, rfl⟩ : ∃ i, j = i + 1 := ⟨j - 1, by omega⟩
      have p2 : 2 ^ (i + 1) = 2 * 2 ^ i := by rw [Nat.pow_succ]; omega
      have pi1 : 1 ≤ 2 ^ i := Nat.one_le_two_pow
      refine iteF ⟨_, rfl, d, la, lb, 4, b + (6 * 2 ^ i - 3), rfl, by decide, by decide, D.less (by omega), fun r H1 r0 r1 D1 k1 => ⟨rfl, _, rfl, ?_⟩⟩
      have g1 := (Go.refl D).draw D1 k1
      refine ite2 (fun _ => ?_) (fun _ => ?_)
      · obtain ⟨z1, z2⟩ := leaf H1 1 (g1.less (by omega))
        exact ⟨z1, z2⟩
      · refine ⟨_, rfl, _, rfl, d, la, lb, (n : Nat), b + (6 * 2 ^ i - 4), rfl, by omega, by omega, D1.less (by omega), fun kd H2 kd0 kd1 D2 k2 => ?_⟩
        have g2 := g1.draw D2 k2
        obtain ⟨kk, rfl⟩ : ∃ kk : Nat, kd = (kk : Nat) := ⟨kd.toNat, by omega⟩
        have ei : (((i + 1 : Nat) : Nat) : Int) - 1 = ((i : Nat) : Int) := by omega
        refine ⟨_, rfl, _, rfl, _, rfl, _, rfl, (((i + 1 : Nat) : Nat) : Int), 1, rfl, rfl, ?_⟩
        refine ⟨d, la, lb, n, i, b + (3 * 2 ^ i - 2), (by show [V.ref d, V.int (n : Nat), V.int ((((i + 1 : Nat) : Nat) : Int) - 1)] = _; rw [ei]), by omega, n1, n6, g2.now.less (by omega), fun H3 v1 t1 g3 tv1 o1 d1 z1 => ?_⟩
        refine ⟨_, rfl, _, rfl, _, rfl, (((i + 1 : Nat) : Nat) : Int), 1, rfl, rfl, ?_⟩
        refine ⟨d, la, lb, n, i, b, (by show [V.ref d, V.int (n : Nat), V.int ((((i + 1 : Nat) : Nat) : Int) - 1)] = _; rw [ei]), by omega, n1, n6, g3.now, fun H4 v2 t2 g4 tv2 o2 d2 z2 => ⟨(show 3 ≤ sizeLine by decide), fun t nt => ?_⟩⟩
        have s5 := same_new (o := HO.tup [.int ((kk : Nat) : Int), v1, v2]) nt
        refine q _ (.ref t) (.tst kk t1 t2) (((g2.trans g3).trans g4).same s5) ?_ ⟨by omega, o1, o2⟩ ?_ ?_
        · exact .tup upd_same (by show 3 ≤ 1000; decide) (.cons (.int _) (.cons ((tv1.keep g4.kf).same s5) (.cons (tv2.same s5) .nil)))
        · show 1 + max t1.dep t2.dep ≤ i + 1
          omega
        · show 1 + t1.size + t2.size + 1 ≤ 2 ^ (i + 1)
          omega
theorem ok_tree (F : Fun K "_law_tree" "_law_tree" sTree f fd) (GN : Cal P w K mg base "_law_next" 1 ["_law_deck_here", "_law_many"] spNext) (gT : mg "_law_tree" = some (.ref f)) (bT : Binds K fd psTree []) : ∀ g : Nat, FnOk P w K mg base CX0 (g + 1) f fd psTree (spTree g)
  | 0 => ⟨fun vs H Q E h => by obtain ⟨d, la, lb, n, j, b, _, z, _⟩ := h; exact absurd z (Nat.not_lt_zero _), fun A outer s H args us vs Q E _ _ _ _ h => by obtain ⟨d, la, lb, n, j, b, _, z, _⟩ := h; exact absurd z (Nat.not_lt_zero _)⟩
  | g + 1 => ok_tree1 F GN gT bT (ok_tree F GN gT bT g)
end
end Kc

set_option Elab.async false
set_option linter.all false
set_option maxRecDepth 100000
set_option maxHeartbeats 4000000
namespace Kc
open PySem PySem.Spec PyProof.Rows L2 Kg Kd Kr Kf Kl
abbrev sNeeds : Stmt := topS 40
abbrev sRows : Stmt := topS 41
abbrev nNeeds : List Str := ["_law_deck_here", "_law_many", "_law_kinds", "_law_kind"]
abbrev nRows : List Str := ["_law_deck_here", "_law_many", "_law_turn"]
theorem scNeeds : FnScope nNeeds ["_law_deck_here", "_law_many"] (defScope sNeeds) := ⟨rfl, rfl, rfl, by decide +kernel, rfl, by decide +kernel, by decide +kernel⟩
theorem scRows : FnScope nRows ["_law_deck_here", "_law_many"] (defScope sRows) := ⟨rfl, rfl, rfl, by decide +kernel, rfl, by decide +kernel, by decide +kernel⟩
structure NeedsOk (n : Nat) (ns : List (Nat × Bool)) : Prop where
  few : ns.length ≤ 3
  asc : (ns.map (·.1)).Pairwise (· < ·)
  low : ∀ p ∈ ns, p.1 < n
def spNeeds : Sp := fun vs H Q _ => ∃ (d la lb : Addr) (n b : Nat), vs = [.ref d, .int (n : Nat)] ∧ n ≤ 6 ∧ DeckAt H d la lb (b + 9) ∧
  ∀ H' p ns, Go H d la lb b H' → Tu H' (.ref p) (.tuple (ns.map needD)) → NeedsOk n ns → Q (.ref p) H'
def spRows : Sp := fun vs H Q _ => ∃ (d la lb : Addr) (n b : Nat), vs = [.ref d, .int (n : Nat)] ∧ n ≤ 6 ∧ DeckAt H d la lb (b + 61) ∧
  ∀ H' p rs, Go H d la lb b H' → Tu H' (.ref p) (rowsD rs) → RowsOk n rs → Q (.ref p) H'
section
variable {P : Program} {w : World} {K : PySem.W.Frag} {mg : Str → Option Value} {base : Heap} {f : Addr} {fd : FuncData}
theorem ok_needs (F : Fun K "_law_needs" "_law_needs" sNeeds f fd) (B : Bl mg) (GN : Cal P w K mg base "_law_next" 1 ["_law_deck_here", "_law_many"] spNext) : FnOk P w K mg base CX0 2 f fd ["_law_deck_here", "_law_many"] spNeeds := by
  refine F.ok scNeeds (fun vs H Q E h => ?_) (fun cdv A outer s H vs Q E hr h => ?_)
  · obtain ⟨d, la, lb, n, b, rfl, _⟩ := h
    rfl
  · obtain ⟨d, la, lb, n, b, rfl, n6, D, q⟩ := h
    refine ⟨_, pss_cons (ps_set (i := 2) scNeeds.nd rfl (.inl rfl) (pe_slice sl_list (pe_lc (own := [("_law_kind", 3)]) (g := gName 3) rfl scNeeds.nd (pi_range1 (by rfl) B.range (pa_cons (pv 1) pa_nil))
          (blkOk_by (N := nNeeds) (sc := defScope sNeeds) (by decide +kernel)) (fun _ _ _ _ _ => pg_name (i := 3) scNeeds.nd rfl (Or.inl rfl)) (fun _ _ _ _ _ => pts_one (pt_cmpR op_eq (pe_cal GN hr (by rfl) (pa_cons (pv 0) (pa_cons pe_int pa_nil))) pe_int (nomark _))) (fun _ _ _ _ _ => pv 3)) po_none (po_some pe_int)))
      (pss_one (ps_ret (pe_callTy call_tupN (by rfl) B.tuple PyProof.Rows.boot_tuple (pa_cons (pe_lc (own := [("_law_kind", 3)]) (g := gName 3) rfl scNeeds.nd (pi_list (pv 2)) (blkOk_by (N := nNeeds) (sc := defScope sNeeds) (by decide +kernel)) (fun _ _ _ _ _ => pg_name (i := 3) scNeeds.nd rfl (Or.inl rfl)) (fun _ _ _ _ _ => pts_nil)
          (fun _ _ _ _ _ => pe_tup (pa_cons (pv 3) (pa_cons (pe_cmpR op_gt (pe_cal GN hr (by rfl) (pa_cons (pv 0) (pa_cons pe_int pa_nil))) pe_int (nomark _)) pa_nil)))) pa_nil)))), ?_⟩
    refine ⟨_, rfl, (n : Nat), rfl, by omega, by omega, fun D1 nD1 => ?_⟩
    rw [Int.toNat_natCast]
    refine lc_range (lo := 0) (n := n) (fun i H1 => ∃ l : List Nat, Go H d la lb (b + 3 + (6 - i)) H1 ∧ H1 D1 = some (.lst (l.map iV)) ∧ Som i l) ⟨[], (Go.refl D).same (same_new nD1) |>.less (by omega), upd_same, ⟨.nil, fun x hx => nomatch hx⟩⟩ (fun i H1 hi pp => ?_) (fun H1 pp => ?_)
    · obtain ⟨l, g, hD, sl⟩ := pp
      have ll := sl.len
      obtain ⟨o1, o2, o3⟩ := g.off nD1
      refine ⟨rfl, _, rfl, d, la, lb, 3, b + 3 + (6 - (i + 1)), rfl, by decide, by decide, g.now.less (by omega), fun v H2 _ _ D2 k2 => ⟨rfl, _, rfl, ?_⟩⟩
      have g2 := g.draw D2 k2
      have hD2 := k2 _ _ hD (by rintro (z | z) <;> (rw [z] at o1 o2; contradiction))
      refine ite2 (fun _ => ?_) (fun _ => ?_)
      · refine ⟨_, rfl, _, hD2, ?_, l ++ [i], ?_, ?_, som_snoc sl⟩
        · rw [List.length_map]; exact small1000 (by omega)
        · exact g2.put nD1
        · rw [upd_same, List.map_append]
          show some (HO.lst (l.map iV ++ [V.int (0 + (i : Nat))])) = _
          rw [Int.zero_add]; rfl
      · exact ⟨l, g2, hD2, som_up sl (by omega)⟩
    · obtain ⟨l, g, hD, sl⟩ := pp
      have ll := sl.len
      refine ⟨3, rfl, D1, _, rfl, SqL.of hD, fun a na => ?_⟩
      have e1 : cutV (l.map iV) none (some 3) = (l.take 3).map iV := by
        have e0 : (3 : Int) = ((3 : Nat) : Int) := rfl
        unfold cutV
        rw [e0, HT.sIx_none, HT.sIx_nat, List.length_map, List.drop_zero, Nat.sub_zero, ← List.map_take]
        congr 1
        by_cases h : 3 ≤ l.length
        · rw [Nat.min_eq_left h]
        · rw [Nat.min_eq_right (by omega), List.take_of_length_le (by omega), List.take_of_length_le (by omega)]
      rw [e1]
      have s2 := same_new (o := HO.lst ((l.take 3).map iV)) na
      have g2 := g.same s2
      have ha := upd_same (H := H1) (a := a) (o := HO.lst ((l.take 3).map iV))
      have nHa : H a = none := g.free na
      generalize (upd H1 a (.lst ((l.take 3).map iV))) = H2 at s2 g2 ha ⊢
      have tl : (l.take 3).length ≤ 3 := by rw [List.length_take]; omega
      obtain ⟨a1, a2, a3⟩ := g2.off nHa
      refine ⟨_, rfl, a, rfl, ⟨_, SqL.of ha⟩, fun D2 nD2 => ?_⟩
      refine lc_list (K := K) (a := a) (xs := (l.take 3).map iV) (fun i H3 => ∃ (ns : List (Nat × Bool)) (vs : List V), Go H2 d la lb (b + (3 - i)) H3 ∧ H3 D2 = some (.lst vs) ∧ TuAll H3 vs (ns.map needD) ∧ ns.map (·.1) = (l.take 3).take i) ⟨[], [], (Go.refl g2.now).same (same_new nD2) |>.less (by omega), upd_same, .nil, rfl⟩ (fun i H3 _ pp => by obtain ⟨_, _, g3, _⟩ := pp; exact SqL.of (g3.at_ ha a1 a2)) (fun i v H3 hv pp => ?_) (fun H3 pp => ?_)
      · obtain ⟨ns, vs, g3, hD3, tv, ne⟩ := pp
        obtain ⟨z, hz, rfl⟩ := map_get hv
        have il : i < (l.take 3).length := (List.getElem?_eq_some_iff.mp hz).1
        obtain ⟨o1, o2, o3⟩ := g3.off nD2
        have vl : vs.length ≤ 3 := by
          have := congrArg List.length ne
          rw [List.length_map, List.length_take] at this
          rw [tv.length, List.length_map]; omega
        refine ⟨rfl, _, rfl, _, rfl, d, la, lb, 3, b + (3 - (i + 1)), rfl, by decide, by decide, g3.now.less (by omega), fun r H4 _ _ D4 k4 => ⟨r, 0, rfl, rfl, (show 2 ≤ sizeLine by decide), fun t nt => ?_⟩⟩
        have gg := (Go.refl g3.now).draw D4 k4
        have g4 := g3.draw D4 k4
        have hD4 := gg.at_ hD3 o1 o2
        have s5 := same_new (o := HO.tup [iV z, .bl (decide (0 < r))]) nt
        have tp : Tu (upd H4 t (.tup [iV z, .bl (decide (0 < r))])) (.ref t) (needD (z, decide (0 < r))) := .tup upd_same (by show 2 ≤ 1000; decide) (.cons (.int _) (.cons (.bl _) .nil))
        refine ⟨_, s5 _ _ hD4, small1000 (by omega), ns ++ [(z, decide (0 < r))], vs ++ [.ref t], (g4.same s5).put nD2, upd_same, ?_, ?_⟩
        · rw [List.map_append]
          exact (((tv.keep gg.kf).keep (.of_same s5)).append (.cons tp .nil)).keep (KF.putL (s5 _ _ hD4))
        · rw [List.map_append, ne, List.take_add_one (l := l.take 3), hz]; rfl
      · obtain ⟨ns, vs, g3, hD3, tv, ne⟩ := pp
        rw [List.length_map, List.take_length] at ne
        have nl : ns.length ≤ 3 := by
          have := congrArg List.length ne
          rw [List.length_map] at this
          omega
        refine ⟨D2, _, rfl, .inl hD3, fun t H4 s4 ht => ?_⟩
        refine q H4 t ns (((g2.trans g3).same s4).less (by omega)) (.tup ht (by rw [tv.length, List.length_map]; omega) (tv.keep (.of_same s4))) ⟨nl, ?_, fun p hp => ?_⟩
        · rw [ne]; exact sl.asc.sublist (List.take_sublist ..)
        · have : p.1 ∈ ns.map (·.1) := List.mem_map.mpr ⟨p, hp, rfl⟩
          rw [ne] at this
          exact sl.low _ (List.mem_of_mem_take this)
theorem ok_rows (F : Fun K "_law_rows" "_law_rows" sRows f fd) (B : Bl mg) (GN : Cal P w K mg base "_law_next" 1 ["_law_deck_here", "_law_many"] spNext) (GD : Cal P w K mg base "_law_needs" 2 ["_law_deck_here", "_law_many"] spNeeds) : FnOk P w K mg base CX0 3 f fd ["_law_deck_here", "_law_many"] spRows := by
  refine F.ok scRows (fun vs H Q E h => ?_) (fun cdv A outer s H vs Q E hr h => ?_)
  · obtain ⟨d, la, lb, n, b, rfl, _⟩ := h
    rfl
  · obtain ⟨d, la, lb, n, b, rfl, n6, D, q⟩ := h
    have hr1 := hr.mono (show 1 ≤ 2 by decide)
    refine ⟨_, pss_one (ps_ret (pe_callTy call_tupN (by rfl) B.tuple PyProof.Rows.boot_tuple (pa_cons (pe_lc (own := [("_law_turn", 2)]) (g := gName 2) rfl scRows.nd (pi_range1 (by rfl) B.range (pa_cons (pe_cal GN hr1 (by rfl) (pa_cons (pv 0) (pa_cons pe_int pa_nil))) pa_nil))
        (blkOk_by (N := nRows) (sc := defScope sRows) (by decide +kernel)) (fun _ _ _ _ _ => pg_name (i := 2) scRows.nd rfl (Or.inl rfl)) (fun _ _ _ _ _ => pts_nil)
        (fun _ _ _ _ _ => pe_tup (pa_cons (pe_cal GD hr (by rfl) (pa_cons (pv 0) (pa_cons (pv 1) pa_nil))) (pa_cons (pe_ix (ix_listK (K := K) rfl) (pe_lst (pa_cons pe_int (pa_cons pe_int (pa_cons pe_int (pa_cons pe_int pa_nil))))) (pe_cal GN hr1 (by rfl) (pa_cons (pv 0) (pa_cons pe_int pa_nil))) (fun _ _ => rfl)) pa_nil)))) pa_nil))), ?_⟩
    refine ⟨_, rfl, d, la, lb, 7, b + 60, rfl, by decide, by decide, D, fun r H1 r0 r1 D1 k1 => ⟨r, rfl, by omega, by omega, fun L nL => ?_⟩⟩
    have g1 := (Go.refl D).draw D1 k1
    obtain ⟨m, rfl⟩ : ∃ m : Nat, r = (m : Nat) := ⟨r.toNat, by omega⟩
    rw [Int.toNat_natCast]
    refine lc_range (lo := 0) (n := m) (fun i H2 => ∃ (rs : List Kf.Row) (vs : List V), Go H1 d la lb (b + 10 * (6 - i)) H2 ∧ H2 L = some (.lst vs) ∧ TuAll H2 vs (rs.map rwD) ∧ rs.length = i ∧ ∀ x ∈ rs, RowOk n x) ⟨[], [], (Go.refl D1).same (same_new nL) |>.less (by omega), upd_same, .nil, rfl, fun x hx => (nomatch hx)⟩ (fun i H2 hi pp => ?_) (fun H2 pp => ?_)
    · obtain ⟨rs, vs, g2, hL, tv, rl, ro⟩ := pp
      obtain ⟨o1, o2, o3⟩ := g2.off nL
      refine ⟨rfl, _, rfl, _, rfl, d, la, lb, n, b + 10 * (6 - (i + 1)) + 1, rfl, n6, g2.now.less (by omega), fun H3 p ns g3 tp no => ?_⟩
      refine ⟨(show 4 ≤ sizeLine by decide), fun Lr nLr => ⟨_, rfl, d, la, lb, 4, b + 10 * (6 - (i + 1)), rfl, by decide, by decide, g3.now.same (same_new nLr), fun z H4 z0 z1 D4 k4 => ?_⟩⟩
      have s3 := same_new (o := HO.lst [.int 0, .int 5, .int 6, .int 7]) nLr
      have gg := (Go.refl (g3.now.same s3)).draw D4 k4
      have hLr : H4 Lr = some (.lst [.int 0, .int 5, .int 6, .int 7]) := k4 _ _ upd_same (by
        obtain ⟨a1, a2, _⟩ := g3.now.tracked
        rintro (z | z) <;> (rw [z] at nLr; contradiction))
      have pick : ∃ mm : Nat, atI ([.int 0, .int 5, .int 6, .int 7] : List V) z = some (.int (mm : Nat)) ∧ mm ≤ 9 := by
        have : z = 0 ∨ z = 1 ∨ z = 2 ∨ z = 3 := by omega
        rcases this with h | h | h | h <;> subst h
        · exact ⟨0, rfl, by decide⟩
        · exact ⟨5, rfl, by decide⟩
        · exact ⟨6, rfl, by decide⟩
        · exact ⟨7, rfl, by decide⟩
      obtain ⟨mm, hmm, m9⟩ := pick
      have g4 := (g3.same s3).draw D4 k4
      have hL4 := g4.at_ (g3.b0.elim fun _ _ => hL) o1 o2
      have tp4 := (tp.same s3).keep gg.kf
      have tv4 := tv.keep g4.kf
      refine ⟨Lr, _, z, .int (mm : Nat), rfl, rfl, SqL.of hLr, hmm, (show 2 ≤ sizeLine by decide), fun t nt => ?_⟩
      have s5 := same_new (o := HO.tup [.ref p, .int (mm : Nat)]) nt
      have tr : Tu (upd H4 t (.tup [.ref p, .int (mm : Nat)])) (.ref t) (rwD (ns, mm)) := .tup upd_same (by show 2 ≤ 1000; decide) (.cons (tp4.same s5) (.cons (.int _) .nil))
      have vl : vs.length ≤ 6 := by rw [tv.length, List.length_map]; omega
      refine ⟨_, s5 _ _ hL4, small1000 (by omega), rs ++ [(ns, mm)], vs ++ [.ref t], ((g2.trans g4).same s5).put nL, upd_same, ?_, by rw [List.length_append, rl]; rfl, fun x hx => ?_⟩
      · rw [List.map_append]
        exact ((tv4.keep (.of_same s5)).append (.cons tr .nil)).keep (KF.putL (s5 _ _ hL4))
      · rcases List.mem_append.mp hx with y | y
        · exact ro x y
        · rw [List.mem_singleton.mp y]
          exact ⟨no.few, no.asc, no.low, m9⟩
    · obtain ⟨rs, vs, g2, hL, tv, rl, ro⟩ := pp
      refine ⟨L, _, rfl, .inl hL, fun t H3 s3 ht => ?_⟩
      exact q H3 t rs (((g1.trans g2).same s3).less (by omega)) (.tup ht (by rw [tv.length, List.length_map]; omega) (tv.keep (.of_same s3))) ⟨by omega, ro⟩
end
end Kc

set_option Elab.async false
set_option linter.all false
set_option maxRecDepth 100000
set_option maxHeartbeats 4000000
namespace Kc
open PySem PySem.Spec PyProof.Rows L2 Kg Kd Kr Kf Kl
abbrev sChosen : Stmt := topS 43
abbrev sAnswer : Stmt := topS 44
abbrev psChosen : List Str := ["_law_rows_here", "_law_lot_here"]
abbrev psAnswer : List Str := ["_law_choice_here", "_law_lot_here"]
abbrev nChosen : List Str := ["_law_rows_here", "_law_lot_here", "_law_k", "_law_kind", "_law_wished"]
theorem scChosen : FnScope nChosen psChosen (defScope sChosen) := ⟨rfl, rfl, rfl, by decide +kernel, rfl, by decide +kernel, by decide +kernel⟩
theorem scAnswer : FnScope psAnswer psAnswer (defScope sAnswer) := ⟨rfl, rfl, rfl, by decide +kernel, rfl, by decide +kernel, by decide +kernel⟩
def opI : Option Nat → Int
  | some k => ((k : Nat) : Int)
  | none => -1
def spChosen : Sp := fun vs H Q _ => ∃ (v l : V) (rs : List Kf.Row) (lot : List Nat), vs = [v, l] ∧ Tu H v (rowsD rs) ∧ Tu H l (pdI lot) ∧ rs.length ≤ 900 ∧ (∀ r ∈ rs, r.1.length ≤ 900) ∧ ∀ H', Same H H' → Q (.int (opI (chosenR lot rs))) H'
section
variable {P : Program} {w : World} {K : PySem.W.Frag} {mg : Str → Option Value} {base : Heap} {f : Addr} {fd : FuncData} {k : Nat}
theorem ok_chosen (F : Fun K "_law_chosen" "_law_chosen" sChosen f fd) (B : Bl mg) : FnOk P w K mg base CX0 (k + 1) f fd psChosen spChosen := by
  refine F.ok scChosen (fun vs H Q E h => ?_) (fun cdv A outer s H vs Q E hr h => ?_)
  · obtain ⟨v, l, rs, lot, rfl, _⟩ := h
    rfl
  · obtain ⟨v, l, rs, lot, rfl, hv, hl, rl, re, q⟩ := h
    obtain ⟨a, xs, rfl, ha, hA, xl⟩ := tu_rows hv
    obtain ⟨al, rfl, hal, all⟩ := tu_inv hl
    refine ⟨_, pss_cons (ps_for PassesOwn.never rfl (pi_range1 (by rfl) B.range (pa_cons (pe_callB call_len_seq (by rfl) B.len PySem.boot_len (pa_cons (pv 0) pa_nil)) pa_nil)) (pg_name (i := 2) scChosen.nd rfl (.inl rfl))
        (pss_one (ps_if (pt_cmpR op_notIn_seq pe_bl (pe_lc (own := [("_law_kind", 3), ("_law_wished", 4)]) (g := gTup K 2 (gCons (gName 3) (gCons (gName 4) gNil))) rfl scChosen.nd (pi_tup (pe_ix ix_tup (pe_ix ix_tup (pv 0) (pv 2) (fun _ _ => rfl)) pe_int (fun _ _ => rfl)))
          (blkOk_by (N := nChosen) (sc := defScope sChosen) (by decide +kernel)) (fun _ _ _ _ _ => pg_tup rfl (pgs_cons (pg_name (i := 3) scChosen.nd rfl (.inl rfl)) (pgs_cons (pg_name (i := 4) scChosen.nd rfl (.inl rfl)) pgs_nil))) (fun _ _ _ _ _ => pts_nil)
          (fun _ _ _ _ _ => pe_cmpR op_eq (pe_cmpR (op_inK (K := K) rfl) (pv 3) (pv 1) rfl) (pv 4) (nomark _))) rfl) (pss_one (ps_ret (pv 2))) pss_nil)))
      (pss_one (ps_ret (pe_un un_neg pe_int))), ?_⟩
    refine ⟨_, rfl, a, xs, rfl, .inr (SqT.of ha), ((rs.length : Nat) : Int), by rw [xl], by omega, by omega, for_range (lo := 0) (n := ((rs.length : Nat) : Int).toNat) (fun i σ H1 => ∃ y2, σ = [some (.ref a), some (.ref al), y2, none, none] ∧ Same H H1 ∧ ∀ j, j < i → ∀ r, rs[j]? = some r → holds lot r.1 = false)
      ⟨none, rfl, Same.refl _, fun j hj => absurd hj (Nat.not_lt_zero j)⟩ (fun i σ H1 hi pp => ?_) (fun σ H1 pp => ?_)⟩
    · obtain ⟨y2, rfl, s1, no⟩ := pp
      rw [Int.toNat_natCast] at hi
      rw [show (0 : Int) + (i : Nat) = (i : Nat) by omega]
      have er : rs[i]? = some rs[i] := List.getElem?_eq_getElem hi
      obtain ⟨vr, hvr, tr⟩ := hA.get' (i := i) (d := rwD rs[i]) (get_map er)
      obtain ⟨ar, br, ns, rfl, har, hbr, tn, nl⟩ := tu_row tr
      have rm := re rs[i] (List.getElem_mem hi)
      generalize rs[i] = r at er har tn nl rm tr
      refine ⟨_, rfl, _, rfl, a, xs, _, .ref ar, rfl, rfl, SqT.of (s1 _ _ ha), atI_nat (j := i) hvr, ar, _, 0, .ref br, rfl, rfl, SqT.of (s1 _ _ har), atI_nat (j := 0) rfl, br, rfl, ⟨_, SqT.of (s1 _ _ hbr)⟩, fun D nD => ?_⟩
      refine lc_tup (K := K) (a := br) (xs := ns) (fun m H2 => Same H1 H2 ∧ H2 D = some (.lst (((r.1.take m).map (fun p => decide (p.1 ∈ lot) == p.2)).map V.bl))) ⟨same_new nD, upd_same⟩ (fun m H2 _ pp => SqT.of (pp.1 _ _ (s1 _ _ hbr))) (fun m v H2 hvm pp => ?_) (fun H2 pp => ?_)
      · obtain ⟨s2, hD⟩ := pp
        obtain ⟨dp, hdp, tdp⟩ := tn.get hvm
        obtain ⟨p, hp, rfl⟩ := map_get hdp
        obtain ⟨ap, rfl, hap⟩ := tu_need tdp
        have s12 := s1.trans s2
        refine ⟨ap, _, rfl, SqT.of (s12 _ _ hap), rfl, _, _, rfl, .bl p.2, _, rfl, rfl, rfl, ?_⟩
        refine ⟨_, rfl, _, rfl, al, _, rfl, .inr (SqT.of (s12 _ _ hal)), rfl, flat_iV _, _, rfl, rfl, _, hD, ?_, fun bb o z => ?_, ?_⟩
        · rw [List.length_map, List.length_map, List.length_take]
          exact Nat.lt_of_le_of_lt (Nat.min_le_right _ _) (small1000 (by omega))
        · rw [upd_ne (ne_of_none z nD)]; exact s2 _ _ z
        · have e1 : decide (V.bl (inV (.int ((p.1 : Nat) : Int)) (lot.map iV)) = V.bl p.2) = (decide (p.1 ∈ lot) == p.2) := by
            rw [inV_iV]
            cases h1 : decide (p.1 ∈ lot) <;> cases h2 : p.2 <;> simp
          rw [upd_same, List.take_add_one, hp, List.map_append, List.map_append]
          show some (HO.lst (_ ++ [V.bl (decide (V.bl (inV (.int ((p.1 : Nat) : Int)) (lot.map iV)) = V.bl p.2))])) = _
          rw [e1]; rfl
      · obtain ⟨s2, hD⟩ := pp
        rw [nl, List.take_length] at hD
        have e2 : ((r.1.map (fun p => decide (p.1 ∈ lot) == p.2)).all id) = holds lot r.1 := by
          unfold holds
          rw [List.all_map]; rfl
        refine ⟨D, _, rfl, .inl (SqL.of hD), rfl, flat_bls _, _, rfl, ?_⟩
        have cf := chosen_from (lot := lot) (rs := rs) (i := i) no
        cases c : holds lot r.1 with
        | true =>
          refine iteD (by show (!inV _ _) = true; rw [inV_fl, e2, c]; rfl) ⟨_, rfl, ?_⟩
          have z := q H2 (s1.trans s2)
          rw [cf.1 r er c] at z
          exact z
        | false =>
          refine iteE (by show (!inV _ _) = false; rw [inV_fl, e2, c]; rfl) ⟨_, rfl, s1.trans s2, fun j hj r' hr' => ?_⟩
          by_cases z : j < i
          · exact no j z r' hr'
          · have : j = i := by omega
            subst this
            rw [er] at hr'
            cases hr'
            exact c
    · obtain ⟨y2, rfl, s1, no⟩ := pp
      rw [Int.toNat_natCast] at no
      have z := q H1 s1
      rw [(chosen_from (lot := lot) (rs := rs) (i := rs.length) no).2 (Nat.le_refl _)] at z
      exact ⟨1, rfl, z⟩
/-! ### answers -/
def spAnswer : Sp := fun vs H Q _ => ∃ (v l : V) (c : Ch) (n : Nat) (lot : List Nat), vs = [v, l] ∧ Tu H v c.d ∧ Tu H l (pdI lot) ∧ c.ok n ∧ ∀ H', Same H H' → Q (.int ((c.answer lot : Nat) : Int)) H'
theorem lay_needs : ∀ ns : List (Nat × Bool), PyData.canLayAll0 (ns.map needD) = true
  | [] => rfl
  | p :: r => by
    show (PyData.canLay0 (needD p) && PyData.canLayAll0 (r.map needD)) = true
    rw [lay_needs r]; rfl
theorem dep_needs : ∀ ns : List (Nat × Bool), PyData.depthAll (ns.map needD) ≤ 1
  | [] => Nat.zero_le _
  | p :: r => by
    show max (needD p).depth (PyData.depthAll (r.map needD)) ≤ 1
    have := dep_needs r
    have e : (needD p).depth = 1 := rfl
    omega
theorem lay_rows : ∀ rs : List Kf.Row, PyData.canLayAll0 (rs.map rwD) = true
  | [] => rfl
  | p :: r => by
    show ((PyData.canLayAll0 (p.1.map needD) && (true && true)) && PyData.canLayAll0 (r.map rwD)) = true
    rw [lay_rows r, lay_needs]; rfl
theorem dep_rws : ∀ rs : List Kf.Row, PyData.depthAll (rs.map rwD) ≤ 3
  | [] => Nat.zero_le _
  | p :: r => by
    show max (max (PyData.depthAll (p.1.map needD) + 1) (max 0 0) + 1) (PyData.depthAll (r.map rwD)) ≤ 3
    have := dep_rws r
    have := dep_needs p.1
    omega
theorem dep_rows (rs : List Kf.Row) : (rowsD rs).depth ≤ 4 := by
  show PyData.depthAll (rs.map rwD) + 1 ≤ 4
  have := dep_rws rs
  omega
theorem sh_rows (rs : List Kf.Row) : SeqAt.shaped (rowsD rs) = true := shaped_of (lay_rows rs) (by have := dep_rows rs; omega)
theorem sh_tree {t : Tr} (h : t.size ≤ 60) : SeqAt.shaped t.d = true := shaped_of t.d_lay (by rw [t.d_dep]; have := t.size_dep; omega)
theorem eqv_rows0 (r : Kf.Row) (rs : List Kf.Row) : PyData.eqv (rowsD (r :: rs)) (.tuple []) = false := by unfold rowsD; simp [PyData.eqv, PyData.eqvAll]
theorem eqv_tst0 (k : Nat) (y n : Tr) : PyData.eqv (Tr.tst k y n).d (.tuple []) = false := by
  show PyData.eqv (.tuple [.int ((k : Nat) : Int), y.d, n.d]) (.tuple []) = false
  simp [PyData.eqv, PyData.eqvAll]
abbrev XA (P : Program) (w : World) (K : PySem.W.Frag) (mg : Str → Option Value) (base : Heap) (f : Addr) (cdv : Value) (A : Around) (out : List Env) (s : Shared) (H : Hp) (E : XK) : Cx := (cxOf CX0 P w K mg base psAnswer "_law_answer" (defScope sAnswer) f cdv A out s H E).nox
def ansS (i : Nat) : Stmt := (defBody sAnswer).getD i (.Pass ⟨0, 0, 0, 0⟩)
def tDown : TS := fun D σ H => ∃ (v : V) (al : Addr) (t : Tr) (lot : List Nat), σ = [some v, some (.ref al)] ∧ Tu H v t.d ∧ H al = some (.tup (lot.map iV)) ∧ D.nx [some (.int ((t.answer lot : Nat) : Int)), some (.ref al)] H
theorem ansW {cdv : Value} {A : Around} {out : List Env} {s : Shared} {H0 : Hp} {E : XK} (B : Bl mg) : PS (XA P w K mg base f cdv A out s H0 E) (ansS 1) tDown := by
  refine ps_imp (ps_while PassesOwn.never (pt_val (pe_callB call_isi (by rfl) B.isi boot_isinstance (pa_cons (pv 0) (pa_cons (pe_bltn (v := .ty "tuple") (by rfl) B.tuple PyProof.Rows.boot_tuple rfl) pa_nil))))
        (pss_one (ps_set (i := 0) scAnswer.nd rfl (.inl rfl) (pe_ix ix_tup (pv 0) (pe_op op_sub pe_int (pe_callTy call_int1 (by rfl) B.int PyProof.Rows.boot_int (pa_cons (pe_cmpR op_in_seq (pe_ix ix_tup (pv 0) pe_int (fun _ _ => rfl)) (pv 1) rfl) pa_nil))) (fun _ _ => rfl))))) (fun D σ H h => ?_)
  obtain ⟨v, al, t, lot, rfl, hv, hal, q⟩ := h
  refine ⟨fun m σ H1 => ∃ (v : V) (u : Tr), m = u.size ∧ σ = [some v, some (.ref al)] ∧ H1 = H ∧ Tu H v u.d ∧ u.answer lot = t.answer lot, ⟨_, v, t, rfl, rfl, rfl, hv, rfl⟩, ?_⟩
  rintro m σ H1 ⟨v, u, rfl, rfl, rfl, hu, eu⟩
  cases u with
  | ans a =>
    have e := tu_ans hu
    subst e
    refine ⟨_, rfl, _, _, _, _, false, rfl, .ty _, .base (.int _), kit_ty (by decide +kernel), _, rfl, iteF ?_⟩
    have e2 : t.answer lot = a := eu.symm
    rw [e2] at q
    exact q
  | tst k y n =>
    obtain ⟨a, v1, v2, rfl, ha, t1, t2⟩ := tu_tst hu
    refine ⟨_, rfl, _, _, _, _, true, rfl, .ty _, .base (.tup ha), kit_ty (by decide +kernel), _, rfl, iteT ⟨fun σ' H' => ∃ (v : V) (u : Tr), u.size < (Tr.tst k y n).size ∧ σ' = [some v, some (.ref al)] ∧ H' = H1 ∧ Tu H1 v u.d ∧ u.answer lot = t.answer lot, fun σ' H' ⟨v, u, a1, a2, a3, a4, a5⟩ => ⟨u.size, a1, v, u, rfl, a2, a3, a4, a5⟩, ?_⟩⟩
    refine ⟨_, rfl, _, rfl, a, _, 0, .int ((k : Nat) : Int), rfl, rfl, SqT.of ha, atI_nat (j := 0) rfl, _, rfl, al, _, rfl, .inr (SqT.of hal), rfl, flat_iV _, .inr ⟨_, rfl, 2, _, rfl, rfl, ?_⟩⟩
    have ei : inV (.int ((k : Nat) : Int)) (lot.map iV) = decide (k ∈ lot) := inV_iV k lot
    have et : (Tr.tst k y n).answer lot = if k ∈ lot then y.answer lot else n.answer lot := rfl
    rw [et] at eu
    show ∃ p xs i z, _ = V.ref p ∧ V.int (2 - (if (inV (.int ((k : Nat) : Int)) (lot.map iV)) = true then 1 else 0)) = V.int i ∧ _
    rw [ei]
    by_cases c : k ∈ lot
    · rw [if_pos c] at eu
      refine ⟨a, _, 1, v1, rfl, by rw [decide_eq_true c]; rfl, SqT.of ha, atI_nat (j := 1) rfl, ?_⟩
      exact ⟨v1, y, by show y.size < 1 + y.size + n.size; omega, rfl, rfl, t1, eu⟩
    · rw [if_neg c] at eu
      refine ⟨a, _, 2, v2, rfl, by rw [decide_eq_false c]; rfl, SqT.of ha, atI_nat (j := 2) rfl, ?_⟩
      exact ⟨v2, n, by show n.size < 1 + y.size + n.size; omega, rfl, rfl, t2, eu⟩
theorem ok_answer (F : Fun K "_law_answer" "_law_answer" sAnswer f fd) (B : Bl mg) (GC : Cal P w K mg base "_law_chosen" 1 psChosen spChosen) : FnOk P w K mg base CX0 2 f fd psAnswer spAnswer := by
  refine F.ok scAnswer (fun vs H Q E h => ?_) (fun cdv A outer s H vs Q E hr h => ?_)
  · obtain ⟨v, l, c, n, lot, rfl, _⟩ := h
    rfl
  · obtain ⟨v, l, c, n, lot, rfl, hv, hl, ok, q⟩ := h
    obtain ⟨al, rfl, hal, all⟩ := tu_inv hl
    refine ⟨_, pss_cons (ps_if (PW.pt (pw_and (pt_val (pe_callB call_isi (by rfl) B.isi boot_isinstance (pa_cons (pv 0) (pa_cons (pe_bltn (v := .ty "tuple") (by rfl) B.tuple PyProof.Rows.boot_tuple rfl) pa_nil)))) (pw_and1 (PW.pt (pw_or (pt_cmpR (op_eqD hr.units) (pv 0) (pe_tup pa_nil) (nomark _)) (pw_or1 (pt_val (pe_callB call_isi (by rfl) B.isi boot_isinstance (pa_cons (pe_ix ix_tup (pv 0) pe_int (fun _ _ => rfl)) (pa_cons (pe_bltn (v := .ty "tuple") (by rfl) B.tuple PyProof.Rows.boot_tuple rfl) pa_nil))))))))))
        (pss_one (ps_ret (pe_ix ix_tup (pe_ix ix_tup (pe_op op_catN (pv 0) (pe_tup (pa_cons (pe_tup (pa_cons (pe_tup pa_nil) (pa_cons pe_int pa_nil))) pa_nil))) (pe_cal GC hr (by rfl) (pa_cons (pv 0) (pa_cons (pv 1) pa_nil))) (fun _ _ => rfl)) pe_int (fun _ _ => rfl)))) pss_nil)
      (pss_cons (ansW B)
      (pss_one (ps_ret (pv 0)))), ?_⟩
    have tyV' : ∀ {Hx : Hp} {u : V} {d : PyData}, Tu Hx u d → TyX K Hx u (.type (tyN d)) := fun h => h.da.ty
    have tree : ∀ (t : Tr) (H1 : Hp), c = .tree t → Same H H1 → tDown { nx := fun σ H' => ∃ u, σ[0]? = some (some u) ∧ Q u H', rt := Q } [some v, some (.ref al)] H1 := by
      intro t H1 e s1
      subst e
      exact ⟨v, al, t, lot, rfl, hv.same s1, s1 _ _ hal, _, rfl, q H1 s1⟩
    cases c with
    | tree t =>
      have sz : t.size ≤ 12 := ok.2
      cases t with
      | ans a =>
        have e := tu_ans hv
        subst e
        exact ⟨_, rfl, _, _, _, _, false, rfl, .ty _, .base (.int _), kit_ty (by decide +kernel), _, rfl, iteF (iteF (tree (.ans a) H rfl (Same.refl _)))⟩
      | tst k y n =>
        obtain ⟨a, v1, v2, rfl, ha, t1, t2⟩ := tu_tst (show Tu H v (Tr.tst k y n).d from hv)
        refine ⟨_, rfl, _, _, _, _, true, rfl, .ty _, .base (.tup ha), kit_ty (by decide +kernel), _, rfl, iteT ?_⟩
        refine ⟨_, rfl, (show 0 ≤ sizeLine by decide), fun em nem => ?_⟩
        have s1 := same_new (o := HO.tup []) nem
        refine ⟨(Tr.tst k y n).d, .tuple [], ((show Tu H (.ref a) (Tr.tst k y n).d from hv).same s1).dp, .tup (SqT.of upd_same) .nil, sh_tree (by omega), by decide +kernel, _, rfl, ?_⟩
        rw [eqv_tst0]
        refine iteF ⟨_, rfl, a, _, 0, .int ((k : Nat) : Int), rfl, rfl, SqT.of (s1 _ _ ha), atI_nat (j := 0) rfl, _, _, _, _, false, rfl, .ty _, .base (.int _), kit_ty (by decide +kernel), _, rfl, ?_⟩
        exact iteF (tree (.tst k y n) _ rfl s1)
    | rows rs =>
      have okr : RowsOk n rs := ok
      obtain ⟨a, xs, rfl, ha, hA, xl⟩ := tu_rows (show Tu H v (rowsD rs) from hv)
      have few := okr.few
      -- the row that is chosen
      have body : ∀ H1, Same H H1 → ∃ u, ([some (.ref a), some (.ref al)] : L2.St)[0]? = some (some u) ∧ 0 ≤ sizeLine ∧ ∀ e0, H1 e0 = none → 2 ≤ sizeLine ∧ ∀ e1, upd H1 e0 (.tup []) e1 = none → 1 ≤ sizeLine ∧ ∀ e2, upd (upd H1 e0 (.tup [])) e1 (.tup [.ref e0, .int 0]) e2 = none →
          rCatN u (.ref e2) (upd (upd (upd H1 e0 (.tup [])) e1 (.tup [.ref e0, .int 0])) e2 (.tup [.ref e1])) (fun x H2 => ∃ u0, ([some (.ref a), some (.ref al)] : L2.St)[0]? = some (some u0) ∧ ∃ u1, ([some (.ref a), some (.ref al)] : L2.St)[1]? = some (some u1) ∧ spChosen ([u0, u1] ++ []) H2 (fun y H3 => rIxT K x y H3 (fun z H4 => rIxT K z (.int 1) H4 Q)) E0) := by
        intro H1 s1
        refine ⟨_, rfl, by decide, fun e0 ne0 => ⟨by decide, fun e1 ne1 => ⟨by decide, fun e2 ne2 => ?_⟩⟩⟩
        have t0 := same_new (o := HO.tup []) ne0
        have t1 := same_new (o := HO.tup [.ref e0, .int 0]) ne1
        have t2 := same_new (o := HO.tup [.ref e1]) ne2
        have sA := s1.trans (t0.trans (t1.trans t2))
        refine ⟨a, e2, xs, _, rfl, rfl, sA _ _ ha, upd_same, by rw [xl]; simp; omega, fun p H2 s2 hp => ?_⟩
        have sB := sA.trans s2
        have he1 := s2 _ _ (t2 _ _ (upd_same (H := upd H1 e0 (.tup [])) (a := e1) (o := HO.tup [.ref e0, .int 0])))
        refine ⟨_, rfl, _, rfl, .ref a, .ref al, rs, lot, rfl, (show Tu H (.ref a) (rowsD rs) from hv).same sB, (tu_ints hal all).same sB, by omega, fun r hr => Nat.le_trans (okr.each r hr).few (by decide), fun H3 s3 => ?_⟩
        have sC := sB.trans s3
        have qq := q H3 sC
        rcases answerR_chosen lot rs with ⟨m, r, c1, c2, c3⟩ | ⟨c1, c3⟩
        · have e4 : (Ch.rows rs).answer lot = r.2 := c3
          rw [e4] at qq
          rw [c1]
          obtain ⟨vr, hvr, tr⟩ := hA.get' (i := m) (d := rwD r) (get_map c2)
          obtain ⟨ar, br, ns, rfl, har, _, _, _⟩ := tu_row tr
          have ml : m < xs.length := (List.getElem?_eq_some_iff.mp hvr).1
          refine ⟨p, _, _, .ref ar, rfl, rfl, SqT.of (s3 _ _ hp), atI_nat (j := m) (by rw [List.getElem?_append_left ml]; exact hvr), ar, _, 1, .int ((r.2 : Nat) : Int), rfl, rfl, SqT.of (sC _ _ har), atI_nat (j := 1) rfl, qq⟩
        · have e4 : (Ch.rows rs).answer lot = 0 := c3
          rw [e4] at qq
          rw [c1]
          refine ⟨p, _, _, .ref e1, rfl, rfl, SqT.of (s3 _ _ hp), atI_last _ _, e1, _, 1, .int 0, rfl, rfl, SqT.of (s3 _ _ he1), atI_nat (j := 1) rfl, qq⟩
      refine ⟨_, rfl, _, _, _, _, true, rfl, .ty _, .base (.tup ha), kit_ty (by decide +kernel), _, rfl, iteT ?_⟩
      refine ⟨_, rfl, (show 0 ≤ sizeLine by decide), fun em nem => ?_⟩
      have s1 := same_new (o := HO.tup []) nem
      refine ⟨rowsD rs, .tuple [], ((show Tu H (.ref a) (rowsD rs) from hv).same s1).dp, .tup (SqT.of upd_same) .nil, sh_rows rs, by decide +kernel, _, rfl, ?_⟩
      cases rs with
      | nil => 
        refine iteD (by show PyData.eqv (.tuple []) (.tuple []) = true; simp [PyData.eqv, PyData.eqvAll]) (iteT ?_)
        obtain ⟨u, h1, h2, h3⟩ := body _ s1
        exact ⟨u, h1, h2, h3⟩
      | cons r rs =>
        rw [eqv_rows0]
        obtain ⟨vr, hvr, tr⟩ := hA.get' (i := 0) (d := rwD r) rfl
        obtain ⟨ar, br, ns, rfl, har, _, _, _⟩ := tu_row tr
        refine iteF ⟨_, rfl, a, _, 0, .ref ar, rfl, rfl, SqT.of (s1 _ _ ha), atI_nat (j := 0) hvr, _, _, _, _, true, rfl, .ty _, .base (.tup (s1 _ _ har)), kit_ty (by decide +kernel), _, rfl, iteT ?_⟩
        obtain ⟨u, h1, h2, h3⟩ := body _ s1
        exact ⟨u, h1, h2, h3⟩
end
end Kc

set_option Elab.async false
set_option linter.all false
set_option maxRecDepth 100000
set_option maxHeartbeats 8000000
/-! _law_ways -/
namespace Kc
open PySem PySem.Spec PyProof.Rows L2 Kg Kd Kr Kf Kl LamX
abbrev sWys : Stmt := topS 45
abbrev psWys : List Str := ["_law_tree_here", "_law_lot_here"]
abbrev nWys : List Str := ["_law_tree_here", "_law_lot_here", "_law_found", "_law_side"]
theorem scWys : FnScope nWys psWys (defScope sWys) := ⟨rfl, rfl, rfl, by decide +kernel, rfl, by decide +kernel, by decide +kernel⟩
theorem ways_len : ∀ (t : Tr) (l : List Nat), (waysT t l).length ≤ t.size + 1
  | .ans _, _ => by show 1 ≤ _ + 1; omega
  | .tst k y n, l => by
    have h1 := ways_len y l
    have h2 := ways_len n l
    show (([] : List Bool) :: (if k ∈ l then (waysT y l).map (true :: ·) else (waysT n l).map (false :: ·))).length ≤ (1 + y.size + n.size) + 1
    split <;> rw [List.length_cons, List.length_map] <;> omega
def spWys : Sp := fun vs H Q _ => ∃ (v : V) (al : Addr) (t : Tr) (lot : List Nat), vs = [v, .ref al] ∧ Tu H v t.d ∧ H al = some (.tup (lot.map iV)) ∧ t.size ≤ 60 ∧
  ∀ H' r xs, Same H H' → H' r = some (.lst xs) → Paired (PlAt H') xs (waysT t lot) → Q (.ref r) H'
section
variable {P : Program} {w : World} {K : PySem.W.Frag} {mg : Str → Option Value} {base : Heap} {f : Addr} {fd : FuncData}
theorem ok_wys (F : Fun K "_law_ways" "_law_ways" sWys f fd) (B : Bl mg) : FnOk P w K mg base CX0 1 f fd psWys spWys := by
  refine F.ok scWys (fun vs H Q E h => ?_) (fun cdv A outer s H vs Q E hr h => ?_)
  · obtain ⟨v, al, t, lot, rfl, _⟩ := h
    rfl
  · obtain ⟨v, al, t, lot, rfl, tv, hal, ts, q⟩ := h
    refine ⟨_, (pss_cons (ps_set (i := 2) scWys.nd rfl (.inl rfl) (pe_lst (pa_cons (pe_tup pa_nil) pa_nil)))
      (pss_cons (ps_while PassesOwn.never (pt_val (pe_callB call_isi (by rfl) B.isi boot_isinstance (pa_cons (pv 0) (pa_cons (pe_bltn (v := .ty "tuple") (by rfl) B.tuple PyProof.Rows.boot_tuple rfl) pa_nil))))
        (pss_cons (ps_set (i := 3) scWys.nd rfl (.inl rfl) (pe_cmpR op_in_seq (pe_ix ix_tup (pv 0) pe_int (fun _ _ => rfl)) (pv 1) rfl))
        (pss_cons (ps_expr (pe_bm PySem.F.plainAttrs_list PySem.F.slot_list_append PySem.F.type_list_append mt_append (pv 2) (pa_cons (pe_op op_catN (pe_ix ix_list (pv 2) (pe_un un_neg pe_int) (fun _ _ => rfl)) (pe_tup (pa_cons (pv 3) pa_nil))) pa_nil)))
        (pss_one (ps_set (i := 0) scWys.nd rfl (.inl rfl) (pe_ix ix_tup (pv 0) (pe_op op_sub pe_int (pe_callTy call_int1 (by rfl) B.int PyProof.Rows.boot_int (pa_cons (pv 3) pa_nil))) (fun _ _ => rfl)))))))
      (pss_one (ps_ret (pv 2))))), ?_⟩
    have z0 : 0 ≤ sizeLine := by omega
    have z1 : 1 ≤ sizeLine := by rw [sizeLine_eq]; decide
    refine ⟨z0, fun em nem => ⟨z1, fun Fa nFa => ?_⟩⟩
    have s1 := same_new (o := HO.tup []) nem
    have s2 := same_new (o := HO.lst [V.ref em]) nFa
    have nF : H Fa = none := s1.free nFa
    have hF2 := upd_same (H := upd H em (HO.tup [])) (a := Fa) (o := HO.lst [V.ref em])
    have hem := s2 _ _ (upd_same (H := H) (a := em) (o := HO.tup []))
    have s12 := s1.trans s2
    generalize upd (upd H em (HO.tup [])) Fa (HO.lst [V.ref em]) = H2 at s12 hF2 hem
    refine ⟨fun m σ H1 => ∃ (v : V) (u : Tr) (ys : List V) (pl : Addr) (p : List Bool) (L : List (List Bool)) (y3 : Option V), m = u.size ∧ σ = [some v, some (.ref al), some (.ref Fa), y3] ∧ Same H H1 ∧ Tu H1 v u.d ∧ H1 Fa = some (.lst (ys ++ [V.ref pl])) ∧ H1 pl = some (.tup (p.map V.bl)) ∧ Paired (PlAt H1) ys L ∧ p.length ≤ L.length ∧ L ++ (waysT u lot).map (p ++ ·) = waysT t lot,
      ⟨_, v, t, [], em, [], [], none, rfl, rfl, s12, tv.keep (.of_same s12), hF2, hem, .nil, Nat.le_refl _, by simp⟩, ?_⟩
    rintro m σ H1 ⟨v, u, ys, pl, p, L, y3, rfl, rfl, s, hu, hF, hp, py, pL, eu⟩
    have yl := py.length
    have lu := ways_len t lot
    have lw := congrArg List.length eu
    rw [List.length_append, List.length_map] at lw
    cases u with
    | ans a =>
      have e := tu_ans hu
      subst e
      refine ⟨_, rfl, _, _, _, _, false, rfl, .ty _, .base (.int _), kit_ty (by decide +kernel), _, rfl, iteF ⟨_, rfl, ?_⟩⟩
      refine q H1 Fa _ s hF ?_
      rw [← eu]
      exact prd_app py (.cons ⟨pl, rfl, by show H1 pl = some (.tup ((p ++ []).map V.bl)); rw [List.append_nil]; exact hp⟩ .nil)
    | tst k y n =>
      obtain ⟨a, v1, v2, rfl, ha, t1, t2⟩ := tu_tst hu
      have l1 : 1 ≤ (waysT (Tr.tst k y n) lot).length := by show 1 ≤ (_ :: _).length; rw [List.length_cons]; omega
      refine ⟨_, rfl, _, _, _, _, true, rfl, .ty _, .base (.tup ha), kit_ty (by decide +kernel), _, rfl, iteT ⟨fun σ' H' => ∃ (v : V) (u : Tr) (ys : List V) (pl : Addr) (p : List Bool) (L : List (List Bool)) (y3 : Option V), u.size < (Tr.tst k y n).size ∧ σ' = [some v, some (.ref al), some (.ref Fa), y3] ∧ Same H H' ∧ Tu H' v u.d ∧ H' Fa = some (.lst (ys ++ [V.ref pl])) ∧ H' pl = some (.tup (p.map V.bl)) ∧ Paired (PlAt H') ys L ∧ p.length ≤ L.length ∧ L ++ (waysT u lot).map (p ++ ·) = waysT t lot, fun σ' H' ⟨v, u, ys, pl, p, L, y3, a1, a2⟩ => ⟨u.size, a1, v, u, ys, pl, p, L, y3, rfl, a2⟩, ?_⟩⟩
      refine ⟨_, rfl, a, _, 0, .int ((k : Nat) : Int), rfl, rfl, SqT.of ha, atI_nat (j := 0) rfl, _, rfl, al, _, rfl, .inr (SqT.of (s _ _ hal)), rfl, flat_iV _, ?_⟩
      have ei : inV (.int ((k : Nat) : Int)) (lot.map iV) = decide (k ∈ lot) := inV_iV k lot
      rw [ei]
      refine ⟨_, rfl, .inl ⟨rfl, _, SqL.of hF⟩, _, rfl, _, rfl, Fa, _, _, _, rfl, rfl, SqL.of hF, atI_last _ _, ?_⟩
      refine ⟨_, rfl, z1, fun b1 nb1 => ?_⟩
      have s3 := same_new (o := HO.tup [V.bl (decide (k ∈ lot))]) nb1
      refine ⟨pl, b1, _, _, rfl, rfl, s3 _ _ hp, upd_same, by rw [List.length_map]; show p.length + 1 ≤ 1000; omega, fun p1 H3 s4 hp1 => ?_⟩
      have s34 := s3.trans s4
      have hF3 := s34 _ _ hF
      refine ⟨Fa, _, _, rfl, rfl, hF3, small1000 (by rw [List.length_append]; show ys.length + 1 ≤ 1000; omega), ?_⟩
      have kt : ∀ b xs, H3 b = some (.tup xs) → upd H3 Fa (.lst (ys ++ [V.ref pl] ++ [V.ref p1])) b = some (.tup xs) := fun b xs z => by rw [upd_ne (ne_of z hF3 (by intro y; cases y))]; exact z
      have sH : Same H (upd H3 Fa (.lst (ys ++ [V.ref pl] ++ [V.ref p1]))) := fun b o z => by rw [upd_ne (ne_of_none z nF)]; exact s34 _ _ (s _ _ z)
      have kf : KF H3 (upd H3 Fa (.lst (ys ++ [V.ref pl] ++ [V.ref p1]))) := KF.putL hF3
      have t1' := (t1.keep (.of_same s34)).keep kf
      have t2' := (t2.keep (.of_same s34)).keep kf
      have ha' := kt _ _ (s34 _ _ ha)
      have pye : Paired (PlAt (upd H3 Fa (.lst (ys ++ [V.ref pl] ++ [V.ref p1])))) (ys ++ [V.ref pl]) (L ++ [p]) := prd_app (Paired.mapP py fun x y h => by obtain ⟨z, e, h⟩ := h; exact ⟨z, e, kt _ _ (s34 _ _ h)⟩) (.cons ⟨pl, rfl, kt _ _ (s34 _ _ hp)⟩ .nil)
      have hp1' := kt _ _ hp1
      have hFa := upd_same (H := H3) (a := Fa) (o := HO.lst (ys ++ [V.ref pl] ++ [V.ref p1]))
      generalize upd H3 Fa (.lst (ys ++ [V.ref pl] ++ [V.ref p1])) = H4 at sH t1' t2' ha' pye hp1' hFa
      refine ⟨_, rfl, _, rfl, .inr ⟨_, rfl, 2, _, rfl, rfl, ?_⟩⟩
      have et : waysT (Tr.tst k y n) lot = [] :: (if k ∈ lot then (waysT y lot).map (true :: ·) else (waysT n lot).map (false :: ·)) := rfl
      rw [et, List.map_cons, List.append_nil] at eu
      by_cases c : k ∈ lot
      · rw [if_pos c] at eu
        refine ⟨a, _, 1, v1, rfl, by rw [decide_eq_true c]; rfl, SqT.of ha', atI_nat (j := 1) rfl, ?_⟩
        refine ⟨v1, y, _, p1, p ++ [true], L ++ [p], _, by show y.size < 1 + y.size + n.size; omega, rfl, sH, t1', hFa, ?_, pye, by rw [List.length_append, List.length_append]; show p.length + 1 ≤ L.length + 1; omega, ?_⟩
        · rw [List.map_append, decide_eq_true c] at *; exact hp1'
        · rw [← eu, List.append_assoc, List.map_map]
          congr 1
          show p :: _ = p :: _
          congr 1
          exact List.map_congr_left fun x _ => by simp
      · rw [if_neg c] at eu
        refine ⟨a, _, 2, v2, rfl, by rw [decide_eq_false c]; rfl, SqT.of ha', atI_nat (j := 2) rfl, ?_⟩
        refine ⟨v2, n, _, p1, p ++ [false], L ++ [p], _, by show n.size < 1 + y.size + n.size; omega, rfl, sH, t2', hFa, ?_, pye, by rw [List.length_append, List.length_append]; show p.length + 1 ≤ L.length + 1; omega, ?_⟩
        · rw [List.map_append, decide_eq_false c] at *; exact hp1'
        · rw [← eu, List.append_assoc, List.map_map]
          congr 1
          show p :: _ = p :: _
          congr 1
          exact List.map_congr_left fun x _ => by simp
end
end Kc

set_option Elab.async false
set_option linter.all false
set_option maxRecDepth 100000
set_option maxHeartbeats 4000000
namespace Kc
open PySem PySem.Spec PyProof.Rows L2 Kg Kd Kr Kf Kl
abbrev sLong : Stmt := topS 46
abbrev psLong : List Str := ["_law_deck_here", "_law_many", "_law_size"]
abbrev nLong : List Str := ["_law_deck_here", "_law_many", "_law_size", "_law_tree_here", "_law_turn", "_law_two", "_law_at"]
theorem scLong : FnScope nLong psLong (defScope sLong) := ⟨rfl, rfl, rfl, by decide +kernel, rfl, by decide +kernel, by decide +kernel⟩
def spLong : Sp := fun vs H Q _ => ∃ (d la lb : Addr) (n z b : Nat), vs = [.ref d, .int (n : Nat), .int (z : Nat)] ∧ 1 ≤ n ∧ n ≤ 6 ∧ z ≤ 13 ∧ DeckAt H d la lb (b + 40) ∧
  ∀ H' v (t : Tr), Go H d la lb b H' → Tu H' v t.d → t.ok n → t.size = z → Q v H'
section
variable {P : Program} {w : World} {K : PySem.W.Frag} {mg : Str → Option Value} {base : Heap} {f : Addr} {fd : FuncData}
theorem ok_long (F : Fun K "_law_long" "_law_long" sLong f fd) (B : Bl mg) (GN : Cal P w K mg base "_law_next" 1 ["_law_deck_here", "_law_many"] spNext) : FnOk P w K mg base CX0 2 f fd psLong spLong := by
  refine F.ok scLong (fun vs H Q E h => ?_) (fun cdv A outer s H vs Q E hr h => ?_)
  · obtain ⟨d, la, lb, n, z, b, rfl, _⟩ := h
    rfl
  · obtain ⟨d, la, lb, n, z, b, rfl, n1, n6, z13, D, q⟩ := h
    refine ⟨_, pss_cons (ps_set (i := 3) scLong.nd rfl (.inl rfl) (pe_cal GN hr (by rfl) (pa_cons (pv 0) (pa_cons pe_int pa_nil))))
      (pss_cons (ps_for PassesOwn.never rfl (pi_range1 (by rfl) B.range (pa_cons (pv 2) pa_nil)) (pg_name (i := 4) scLong.nd rfl (.inl rfl))
        (pss_cons (ps_set (i := 5) scLong.nd rfl (.inl rfl) (pe_lst (pa_cons (pv 3) (pa_cons (pe_cal GN hr (by rfl) (pa_cons (pv 0) (pa_cons pe_int pa_nil))) pa_nil))))
        (pss_cons (ps_set (i := 6) scLong.nd rfl (.inl rfl) (pe_cal GN hr (by rfl) (pa_cons (pv 0) (pa_cons pe_int pa_nil))))
        (pss_one (ps_set (i := 3) scLong.nd rfl (.inl rfl) (pe_tup (pa_cons (pe_cal GN hr (by rfl) (pa_cons (pv 0) (pa_cons (pv 1) pa_nil))) (pa_cons (pe_ix ix_list (pv 5) (pv 6) (fun _ _ => rfl)) (pa_cons (pe_ix ix_list (pv 5) (pe_op op_sub pe_int (pv 6)) (fun _ _ => rfl)) pa_nil)))))))))
      (pss_one (ps_ret (pv 3)))), ?_⟩
    refine ⟨_, rfl, d, la, lb, 10, b + 39, rfl, by decide, by decide, D, fun r H1 r0 r1 D1 k1 => ?_⟩
    have g1 := (Go.refl D).draw D1 k1
    obtain ⟨m, rfl⟩ : ∃ m : Nat, r = (m : Nat) := ⟨r.toNat, by omega⟩
    refine ⟨_, rfl, ((z : Nat) : Int), rfl, by omega, by omega, for_range (lo := 0) (n := ((z : Nat) : Int).toNat) (fun i σ H2 => ∃ (v : V) (t : Tr) (y4 y5 y6 : Option V), σ = [some (.ref d), some (.int (n : Nat)), some (.int (z : Nat)), some v, y4, y5, y6] ∧ Go H d la lb (b + 3 * (13 - i)) H2 ∧ Tu H2 v t.d ∧ t.ok n ∧ t.size = i)
      ⟨.int (m : Nat), .ans m, none, none, none, rfl, g1, .int _, (show m ≤ 9 by omega), rfl⟩ (fun i σ H2 hi pp => ?_) (fun σ H2 pp => ?_)⟩
    · obtain ⟨v, t, y4, y5, y6, rfl, g2, tv, to, ts⟩ := pp
      rw [Int.toNat_natCast] at hi
      refine ⟨_, rfl, _, rfl, d, la, lb, 10, b + 3 * (13 - (i + 1)) + 2, rfl, by decide, by decide, g2.now.less (by omega), fun o H3 o0 o1 D3 k3 => ⟨(show 2 ≤ sizeLine by decide), fun L nL => ?_⟩⟩
      have g3 := g2.draw D3 k3
      have tv3 := tv.keep ((Go.refl (g2.now.less (show b + 3 * (13 - (i + 1)) + 2 + 1 ≤ _ by omega))).draw D3 k3).kf
      obtain ⟨oo, rfl⟩ : ∃ oo : Nat, o = (oo : Nat) := ⟨o.toNat, by omega⟩
      have s4 := same_new (o := HO.lst [v, .int (oo : Nat)]) nL
      have hL := upd_same (H := H3) (a := L) (o := HO.lst [v, .int (oo : Nat)])
      have nLd : ∀ z, z = L → ¬ dk d la z := by
        obtain ⟨a1, a2, _⟩ := g3.now.tracked
        rintro z rfl (y | y) <;> (rw [y] at nL; contradiction)
      have g4 := g3.same s4
      have tv4 := tv3.same s4
      generalize upd H3 L (HO.lst [v, .int (oo : Nat)]) = H4 at hL g4 tv4 ⊢
      refine ⟨_, rfl, d, la, lb, 2, b + 3 * (13 - (i + 1)) + 1, rfl, by decide, by decide, g4.now, fun c H5 c0 c1 D5 k5 => ?_⟩
      have g5 := g4.draw D5 k5
      have tv5 := tv4.keep ((Go.refl g4.now).draw D5 k5).kf
      have hL5 := k5 _ _ hL (nLd L rfl)
      refine ⟨_, rfl, _, rfl, d, la, lb, (n : Nat), b + 3 * (13 - (i + 1)), rfl, by omega, by omega, g5.now, fun kd H6 kd0 kd1 D6 k6 => ?_⟩
      have g6 := g5.draw D6 k6
      have tv6 := tv5.keep ((Go.refl g5.now).draw D6 k6).kf
      have hL6 := k6 _ _ hL5 (nLd L rfl)
      obtain ⟨kk, rfl⟩ : ∃ kk : Nat, kd = (kk : Nat) := ⟨kd.toNat, by omega⟩
      have : c = 0 ∨ c = 1 := by omega
      rcases this with h | h <;> subst h
      · refine ⟨_, rfl, _, rfl, L, _, 0, v, rfl, rfl, SqL.of hL6, rfl, _, rfl, _, rfl, 1, 0, rfl, rfl, L, _, 1, .int (oo : Nat), rfl, rfl, SqL.of hL6, rfl, (show 3 ≤ sizeLine by decide), fun T nT => ?_⟩
        have s7 := same_new (o := HO.tup [.int ((kk : Nat) : Int), v, .int (oo : Nat)]) nT
        exact ⟨.ref T, .tst kk t (.ans oo), _, _, _, rfl, g6.same s7, .tup upd_same (by show 3 ≤ 1000; decide) (.cons (.int _) (.cons (tv6.same s7) (.cons (.int _) .nil))), ⟨by omega, to, (show oo ≤ 9 by omega)⟩, by show 1 + t.size + 0 = i + 1; omega⟩
      · refine ⟨_, rfl, _, rfl, L, _, 1, .int (oo : Nat), rfl, rfl, SqL.of hL6, rfl, _, rfl, _, rfl, 1, 1, rfl, rfl, L, _, 0, v, rfl, rfl, SqL.of hL6, rfl, (show 3 ≤ sizeLine by decide), fun T nT => ?_⟩
        have s7 := same_new (o := HO.tup [.int ((kk : Nat) : Int), .int (oo : Nat), v]) nT
        exact ⟨.ref T, .tst kk (.ans oo) t, _, _, _, rfl, g6.same s7, .tup upd_same (by show 3 ≤ 1000; decide) (.cons (.int _) (.cons (.int _) (.cons (tv6.same s7) .nil))), ⟨by omega, (show oo ≤ 9 by omega), to⟩, by show 1 + 0 + t.size = i + 1; omega⟩
    · obtain ⟨v, t, y4, y5, y6, rfl, g2, tv, to, ts⟩ := pp
      rw [Int.toNat_natCast] at ts
      exact ⟨_, rfl, q H2 v t (g2.less (by omega)) tv to ts⟩
end
end Kc

set_option Elab.async false
set_option linter.all false
set_option maxRecDepth 100000
set_option maxHeartbeats 4000000
namespace Kc
open PySem PySem.Spec PyProof.Rows L2 Kg Kd Kr Kf
abbrev sAbo : Stmt := topS 36
abbrev nAbo : List Str := ["_law_elders", "_law_found", "_law_kind", "_law_row", "_law_elder", "_law_k"]
theorem scAbo : FnScope nAbo ["_law_elders"] (defScope sAbo) := ⟨rfl, rfl, rfl, by decide +kernel, rfl, by decide +kernel, by decide +kernel⟩
/-- [e(i) for i in range(n)] where nothing that stands is changed -/
theorem lc_map {n : Nat} {g : TG} {te : TE} {vs : List Nat} {σ : L2.St} {H1 : Hp} {D : Addr} {Qd : Hp → Prop} (f : Nat → V) (nD : H1 D = none) (hn : n ≤ 900)
    (hs : ∀ (i : Nat) (H : Hp), i < n → Same H1 H → ∀ (R : V → Hp → Prop), (∀ H', Same H H' → R (f i) H') →
      g (.int (0 + (i : Nat))) (wipe σ vs) H fun σ2 H2 => wipe σ2 vs = wipe σ vs ∧ te σ2 H2 R)
    (hd : ∀ H, Same H1 H → H D = some (.lst ((List.range n).map f)) → Qd H) (mono : ∀ {x σ H A B}, (∀ s h, A s h → B s h) → g x σ H A → g x σ H B) :
    ∃ W : Nat → Nat → Hp → Prop, (∃ m, W 0 m (upd H1 D (.lst []))) ∧ ∀ i m H, W i m H →
      ((Itr 0 n).stop i H ∧ Qd H) ∨ ((Itr 0 n).go i H ∧ ∃ Nx : Hp → Prop, (∀ H', Nx H' → ∃ m', m' < m ∧ W (i + 1) m' H') ∧ ∀ x H', (Itr 0 n).yld i H x H' → g x (wipe σ vs) H' fun σ2 H2 => wipe σ2 vs = wipe σ vs ∧ tYes σ2 H2 fun b H3 =>
        if b = true then te σ2 H3 fun y H4 => ∃ acc, H4 D = some (.lst acc) ∧ acc.length < sizeLine ∧ Nx (upd H4 D (.lst (acc ++ [y]))) else Nx H3) := by
  refine lc_range (lo := 0) (n := n) (fun i H => Same H1 H ∧ H D = some (.lst ((List.range i).map f))) ⟨same_new nD, upd_same⟩ (fun i H hi p => ?_) (fun H p => hd H p.1 p.2)
  refine mono (A := _) (fun s2 h2 z => ⟨z.1, z.2⟩) (hs i H hi p.1 (fun y H4 => ∃ acc, H4 D = some (.lst acc) ∧ acc.length < sizeLine ∧ (Same H1 (upd H4 D (.lst (acc ++ [y]))) ∧ (upd H4 D (.lst (acc ++ [y]))) D = some (.lst ((List.range (i + 1)).map f)))) (fun H' s' => ?_))
  refine ⟨_, s' _ _ p.2, ?_, fun b o z => ?_, ?_⟩
  · rw [List.length_map, List.length_range]
    exact small1000 (by omega)
  · rw [upd_ne (ne_of_none z nD)]; exact s' _ _ (p.1 _ _ z)
  · rw [upd_same, List.range_succ, List.map_append]; rfl
theorem gName_mono {i : Nat} {x : V} {σ : L2.St} {H : Hp} {A B : L2.St → Hp → Prop} (h : ∀ s h, A s h → B s h) (z : gName i x σ H A) : gName i x σ H B := h _ _ z
/-- a row of truths -/
def bv (n : Nat) (f : Nat → Bool) : List V := (List.range n).map fun j => V.bl (f j)
def bd (n : Nat) (f : Nat → Bool) : List PyData := (List.range n).map fun j => PyData.bool (f j)
def abvD (es : List (List Nat)) : PyData := .list ((List.range es.length).map fun k => .list (bd es.length (abv es k)))
theorem bv_len (n : Nat) (f : Nat → Bool) : (bv n f).length = n := by unfold bv; rw [List.length_map, List.length_range]
theorem bv_at {n : Nat} {f : Nat → Bool} {i : Nat} (h : i < n) : (bv n f)[i]? = some (.bl (f i)) := by unfold bv; rw [List.getElem?_map, List.getElem?_range h]; rfl
theorem bv_congr {n : Nat} {f g : Nat → Bool} (h : ∀ j, f j = g j) : bv n f = bv n g := by rw [show f = g from funext h]
theorem da_bls {av : Addr → Prop} {H : Hp} {f : Nat → Bool} : ∀ l : List Nat, DaAll av H (l.map fun j => V.bl (f j)) (l.map fun j => PyData.bool (f j))
  | [] => .nil
  | a :: l => .cons (.bl (f a)) (da_bls l)
theorem da_of {av : Addr → Prop} {H : Hp} : ∀ {rows : List V} {ds : List PyData}, rows.length = ds.length → (∀ (i : Nat) (v : V) (d : PyData), rows[i]? = some v → ds[i]? = some d → Da av H v d) → DaAll av H rows ds
  | [], [], _, _ => .nil
  | [], _ :: _, h, _ => nomatch h
  | _ :: _, [], h, _ => nomatch h
  | v :: rows, d :: ds, h, k => .cons (k 0 v d rfl rfl) (da_of (by simpa using h) (fun i v' d' h1 h2 => k (i + 1) v' d' (by simpa using h1) (by simpa using h2)))
theorem da_row {av : Addr → Prop} {H : Hp} {r : Addr} {n : Nat} {f : Nat → Bool} (na : ¬ av r) (hn : n ≤ 900) (h : H r = some (.lst (bv n f))) : Da av H (.ref r) (.list (bd n f)) := .lst na h (by rw [bv_len]; omega) (da_bls _)
/-- the rows so far -/
structure Rws (H : Hp) (L : Addr) (rows : List V) (i n : Nat) (es : List (List Nat)) : Prop where
  at_ : H L = some (.lst rows)
  len : rows.length = i
  row : ∀ m, m < i → ∃ r, rows[m]? = some (.ref r) ∧ r ≠ L ∧ H r = some (.lst (bv n (abv es m)))
theorem Rws.same {H H' : Hp} {L : Addr} {rows : List V} {i n : Nat} {es : List (List Nat)} (R : Rws H L rows i n es) (s : Same H H') : Rws H' L rows i n es :=
  ⟨s _ _ R.at_, R.len, fun m hm => by obtain ⟨r, h1, h2, h3⟩ := R.row m hm; exact ⟨r, h1, h2, s _ _ h3⟩⟩
theorem Rws.snoc {H : Hp} {L r : Addr} {rows : List V} {i n : Nat} {es : List (List Nat)} (R : Rws H L rows i n es) (hr : H r = some (.lst (bv n (abv es i)))) (ne : r ≠ L) : Rws (upd H L (.lst (rows ++ [.ref r]))) L (rows ++ [.ref r]) (i + 1) n es := by
  refine ⟨upd_same, by rw [List.length_append, R.len]; rfl, fun m hm => ?_⟩
  by_cases c : m < i
  · obtain ⟨q, h1, h2, h3⟩ := R.row m c
    exact ⟨q, by rw [List.getElem?_append_left (by rw [R.len]; exact c)]; exact h1, h2, by rw [upd_ne h2]; exact h3⟩
  · have e : m = i := by omega
    subst e
    refine ⟨r, ?_, ne, by rw [upd_ne ne]; exact hr⟩
    rw [List.getElem?_append_right (by rw [R.len]; exact Nat.le_refl _), R.len, Nat.sub_self]; rfl
/-- elders with lower numbers, not too many -/
structure Lw (es : List (List Nat)) : Prop where
  hi : es.length ≤ 12
  low : ∀ (k : Nat) (l : List Nat), es[k]? = some l → ∀ x ∈ l, x < k
theorem abv_row {es : List (List Nat)} {k j : Nat} {own : List Nat} (E : Lw es) (ho : es[k]? = some own) : (decide (j = k) || own.any (fun e => abv es e j)) = abv es k j := by
  have eo : es.getD k [] = own := by rw [List.getD_eq_getElem?_getD, ho]; rfl
  have z := abv_eq es k j
  rw [eo] at z
  rw [Bool.eq_iff_iff, z, Bool.or_eq_true, decide_eq_true_iff, List.any_eq_true]
  constructor
  · rintro (h | ⟨e, he, h⟩)
    · exact .inl h
    · exact .inr ⟨e, he, E.low k own ho e he, h⟩
  · rintro (h | ⟨e, he, _, h⟩)
    · exact .inl h
    · exact .inr ⟨e, he, h⟩
def spAboX : Sp := fun vs H Q _ => ∃ (v : V) (es : List (List Nat)), vs = [v] ∧ Tu H v (pdE es) ∧ Lw es ∧ ∀ H' L rows, Same H H' → H L = none → Rws H' L rows es.length es.length es → Q (.ref L) H'
def spAbo : Sp := fun vs H Q _ => ∃ (v : V) (es : List (List Nat)) (sv : Bool), vs = [v] ∧ Tu H v (pdE es) ∧ Eld es sv ∧ ∀ H' L rows, Same H H' → H L = none → Rws H' L rows es.length es.length es → Q (.ref L) H'
theorem Rws.da {H : Hp} {L : Addr} {rows : List V} {es : List (List Nat)} (R : Rws H L rows es.length es.length es) (n6 : es.length ≤ 6) : Da Kd.nil H (.ref L) (abvD es) := by
  refine .lst (fun z => z) R.at_ (by rw [R.len]; omega) (da_of (by rw [R.len, List.length_map, List.length_range]) fun i v d h1 h2 => ?_)
  have hi : i < es.length := by rw [← R.len]; exact (List.getElem?_eq_some_iff.mp h1).1
  obtain ⟨r, e1, _, e3⟩ := R.row i hi
  rw [List.getElem?_map, List.getElem?_range hi] at h2
  cases h1.symm.trans e1
  cases h2
  exact da_row (fun z => z) (by omega) e3
section
variable {P : Program} {w : World} {K : PySem.W.Frag} {mg : Str → Option Value} {base : Heap} {f : Addr} {fd : FuncData} {k : Nat}
theorem ok_aboX (F : Fun K "_law_above" "_law_above" sAbo f fd) (B : Bl mg) : FnOk P w K mg base CX0 (k + 1) f fd ["_law_elders"] spAboX := by
  refine F.ok scAbo (fun vs H Q E h => ?_) (fun cdv A outer s H vs Q E hr h => ?_)
  · obtain ⟨v, es, rfl, _⟩ := h
    rfl
  · obtain ⟨v, es, rfl, hv, EL, q⟩ := h
    obtain ⟨a, xs, rfl, ha, xl, hA⟩ := tu_elders hv
    have n6 := EL.hi
    refine ⟨_, pss_cons (ps_set (i := 1) scAbo.nd rfl (.inr rfl) (pe_lst pa_nil))
      (pss_cons (ps_for PassesOwn.never rfl (pi_range1 (by rfl) B.range (pa_cons (pe_callB call_len_seq (by rfl) B.len PySem.boot_len (pa_cons (pv 0) pa_nil)) pa_nil)) (pg_name (i := 2) scAbo.nd rfl (.inr rfl))
        (pss_cons (ps_set (i := 3) scAbo.nd rfl (.inr rfl) (pe_lc (own := [("_law_k", 5)]) (g := gName 5) rfl scAbo.nd (pi_range1 (by rfl) B.range (pa_cons (pe_callB call_len_seq (by rfl) B.len PySem.boot_len (pa_cons (pv 0) pa_nil)) pa_nil))
          (blkOk_by (N := nAbo) (sc := defScope sAbo) (by decide +kernel)) (fun _ _ _ _ _ => pg_name (i := 5) scAbo.nd rfl (Or.inl rfl)) (fun _ _ _ _ _ => pts_nil) (fun _ _ _ _ _ => pe_cmpR op_eq (pv 5) (pv 2) (nomark _))))
        (pss_cons (ps_for PassesOwn.never rfl (pi_tup (pe_ix ix_tup (pv 0) (pv 2) (fun _ _ => rfl))) (pg_name (i := 4) scAbo.nd rfl (.inr rfl))
          (pss_one (ps_set (i := 3) scAbo.nd rfl (.inr rfl) (pe_lc (own := [("_law_k", 5)]) (g := gName 5) rfl scAbo.nd (pi_range1 (by rfl) B.range (pa_cons (pe_callB call_len_seq (by rfl) B.len PySem.boot_len (pa_cons (pv 0) pa_nil)) pa_nil))
            (blkOk_by (N := nAbo) (sc := defScope sAbo) (by decide +kernel)) (fun _ _ _ _ _ => pg_name (i := 5) scAbo.nd rfl (Or.inl rfl)) (fun _ _ _ _ _ => pts_nil)
            (fun _ _ _ _ _ => pe_or (pe_ix (ix_listK (K := K) rfl) (pv 3) (pv 5) (fun _ _ => rfl)) (pe_one (pe_ix (ix_listK (K := K) rfl) (pe_ix (ix_listK (K := K) rfl) (pv 1) (pv 4) (fun _ _ => rfl)) (pv 5) (fun _ _ => rfl))))))))
        (pss_one (ps_expr (pe_bm PySem.F.plainAttrs_list PySem.F.slot_list_append PySem.F.type_list_append mt_append (pv 1) (pa_cons (pv 3) pa_nil)))))))
      (pss_one (ps_ret (pv 1)))), ?_⟩
    refine ⟨(show 0 ≤ sizeLine by decide), fun L nL => ?_⟩
    have s0 := same_new (o := HO.lst []) nL
    have e2 : ((es.length : Nat) : Int).toNat = es.length := Int.toNat_natCast _
    refine ⟨_, rfl, a, xs, rfl, .inr (SqT.of (s0 _ _ ha)), (es.length : Nat), by rw [xl], by omega, by omega, for_range (lo := 0) (n := ((es.length : Nat) : Int).toNat) (fun i σ H1 => ∃ (y2 y3 y4 y5 : Option V) (rows : List V), σ = [some (.ref a), some (.ref L), y2, y3, y4, y5] ∧ Same H H1 ∧ Rws H1 L rows i es.length es)
      ⟨none, none, none, none, [], rfl, s0, ⟨upd_same, rfl, fun m hm => absurd hm (Nat.not_lt_zero m)⟩⟩ (fun i σ H1 hi p => ?_) (fun σ H1 p => ?_)⟩
    · obtain ⟨y2, y3, y4, y5, rows, rfl, s1, RW⟩ := p
      rw [e2] at hi
      have ei : (0 : Int) + (i : Nat) = (i : Nat) := by omega
      rw [ei]
      -- the first row
      refine ⟨_, rfl, a, xs, rfl, .inr (SqT.of (s1 _ _ ha)), (es.length : Nat), by rw [xl], by omega, by omega, fun D nD => ?_⟩
      rw [e2]
      refine lc_map (fun j => .bl (decide (j = i))) nD (by omega) (fun j H2 hj s2 R hR => ?_) (fun H2 s2 hD => ?_) gName_mono
      · refine ⟨rfl, _, rfl, _, rfl, rfl, ?_⟩
        have e5 : decide (V.int (0 + (j : Nat)) = V.int (i : Nat)) = decide (j = i) := by
          by_cases c : j = i
          · subst c; simp
          · rw [decide_eq_false c, decide_eq_false (fun z => c (by have := V.int.inj z; omega))]
        rw [e5]
        exact hR H2 (Same.refl _)
      have nDL : D ≠ L := fun z => by rw [z, RW.at_] at nD; cases nD
      obtain ⟨b, hb1, hb2, hb3⟩ := tus_at hA (i := i) hi
      have ho : es[i]? = some (es.getD i []) := by rw [List.getD_eq_getElem?_getD, List.getElem?_eq_getElem hi]; rfl
      generalize es.getD i [] = own at hb2 hb3 ho
      have s02 := s1.trans s2
      refine ⟨_, rfl, _, rfl, a, xs, _, .ref b, rfl, rfl, SqT.of (s02 _ _ ha), atI_nat (j := i) hb1, b, rfl, ⟨_, SqT.of (s02 _ _ hb2)⟩, for_tup (K := K) (a := b) (xs := own.map iV) (fun j σ H3 => ∃ (y4 y5 : Option V) (r : Addr), σ = [some (.ref a), some (.ref L), some (.int (i : Nat)), some (.ref r), y4, y5] ∧ Same H1 H3 ∧ r ≠ L ∧ H3 r = some (.lst (bv es.length (fun x => decide (x = i) || (own.take j).any (fun e => abv es e x)))))
        ⟨y4, y5, D, rfl, s2, nDL, by rw [hD]; simp [bv]⟩ (fun j σ H3 _ p => by obtain ⟨_, _, _, _, p, _⟩ := p; exact SqT.of (p _ _ (s1 _ _ hb2))) (fun j x σ H3 hx p => ?_) (fun σ H3 p => ?_)⟩
      · obtain ⟨z4, z5, r, rfl, s3, nr, hr3⟩ := p
        obtain ⟨e, he, rfl⟩ := map_get hx
        have hel : e < i := EL.low i own ho e (List.mem_of_getElem? he)
        have s03 := s1.trans s3
        refine ⟨_, rfl, a, xs, rfl, .inr (SqT.of (s03 _ _ ha)), (es.length : Nat), by rw [xl], by omega, by omega, fun D2 nD2 => ?_⟩
        rw [e2]
        obtain ⟨r2, g1, g2, g3⟩ := (RW.same s3).row e hel
        refine lc_map (fun x => .bl (decide (x = i) || (own.take (j + 1)).any (fun e => abv es e x))) nD2 (by omega) (fun x H4 hx4 s4 R hR => ?_) (fun H4 s4 hD4 => ?_) gName_mono
        · rw [Int.zero_add]
          have hex : own.take (j + 1) = own.take j ++ [e] := by rw [List.take_add_one, he]; rfl
          have hR' := hR H4 (Same.refl _)
          rw [hex, List.any_append, ← Bool.or_assoc] at hR'
          refine ⟨rfl, _, rfl, _, rfl, r, _, _, _, rfl, rfl, SqL.of (s4 _ _ hr3), atI_nat (j := x) (bv_at hx4), _, rfl, ?_⟩
          cases cc : (decide (x = i) || (own.take j).any (fun e => abv es e x)) with
          | true =>
            rw [cc] at hR'
            exact iteT hR'
          | false =>
            rw [cc] at hR'
            refine iteF ⟨_, rfl, _, rfl, L, rows, _, .ref r2, rfl, rfl, SqL.of (s4 _ _ (s3 _ _ RW.at_)), atI_nat (j := e) g1, _, rfl, r2, _, _, _, rfl, rfl, SqL.of (s4 _ _ g3), atI_nat (j := x) (bv_at hx4), ?_⟩
            simpa using hR'
        · have nD2L : D2 ≠ L := fun z => by rw [z, s3 _ _ RW.at_] at nD2; cases nD2
          exact ⟨_, _, D2, rfl, s3.trans s4, nD2L, by rw [hD4]; rfl⟩
      · obtain ⟨z4, z5, r, rfl, s3, nr, hr3⟩ := p
        rw [List.length_map, List.take_length] at hr3
        rw [bv_congr (fun x => abv_row EL ho)] at hr3
        have RW3 := RW.same s3
        refine ⟨_, rfl, .inl ⟨rfl, _, SqL.of RW3.at_⟩, _, rfl, L, rows, _, rfl, rfl, RW3.at_, by rw [RW3.len]; exact small1000 (by omega), ?_⟩
        refine ⟨_, _, _, _, rows ++ [.ref r], rfl, ?_, RW3.snoc hr3 nr⟩
        exact fun bb o z => by rw [upd_ne (ne_of_none z nL)]; exact s3 _ _ (s1 _ _ z)
    · obtain ⟨y2, y3, y4, y5, rows, rfl, s1, RW⟩ := p
      rw [e2] at RW
      exact ⟨_, rfl, q _ L rows s1 nL RW⟩
theorem ok_abo (F : Fun K "_law_above" "_law_above" sAbo f fd) (B : Bl mg) : FnOk P w K mg base CX0 (k + 1) f fd ["_law_elders"] spAbo :=
  (ok_aboX F B).imp fun vs H Q E ⟨v, es, sv, e, hv, EL, q⟩ => ⟨v, es, e, hv, ⟨by have := EL.hi; omega, EL.low⟩, q⟩
end
end Kc

set_option Elab.async false
set_option linter.all false
set_option maxRecDepth 100000
set_option maxHeartbeats 4000000
namespace Kc
open PySem PySem.Spec PyProof.Rows L2 Kg Kd Kr Kf Kl
abbrev sLot : Stmt := topS 37
abbrev nLot : List Str := ["_law_rows_here", "_law_many", "_law_k", "_law_row"]
theorem scLot : FnScope nLot ["_law_rows_here", "_law_many"] (defScope sLot) := ⟨rfl, rfl, rfl, by decide +kernel, rfl, by decide +kernel, by decide +kernel⟩
abbrev scIn : Scope := { kind := .function, names := [(".0", .local), ("_law_k", .cell), ("_law_rows_here", .cell)], isGenerator := false, isCoroutine := false }
theorem pi_listK {X : Cx} {K : PySem.W.Frag} {tg e : Expr} {te : TE} (h : X.K = K) (he : PE X e te) : PI X tg e (iList K te) := by subst h; exact pi_list he
def spLot : Sp := fun vs H Q _ => ∃ (R : Addr) (n : Nat) (fs : List (Addr × (Nat → Bool))), vs = [.ref R, .int (n : Nat)] ∧ n ≤ 6 ∧ fs.length ≤ 100 ∧ H R = some (.lst (fs.map fun p => V.ref p.1)) ∧ (∀ p ∈ fs, H p.1 = some (.lst (bv n p.2))) ∧
  ∀ H' q, Same H H' → H' q = some (.tup (((List.range n).filter (fun j => fs.any (fun p => p.2 j))).map iV)) → Q (.ref q) H'
theorem inV_bl : ∀ l : List Bool, inV (.bl true) (l.map V.bl) = l.any id
  | [] => rfl
  | a :: l => by
    have z := inV_bl l
    unfold inV at z ⊢
    rw [List.map_cons, List.any_cons, List.any_cons, z]
    cases a <;> rfl
theorem flat_bl : ∀ l : List Bool, (l.map V.bl).all flatV = true
  | [] => rfl
  | a :: l => by rw [List.map_cons, List.all_cons, flat_bl l]; rfl
section
variable {P : Program} {w : World} {K : PySem.W.Frag} {mg : Str → Option Value} {base : Heap} {f : Addr} {fd : FuncData} {k : Nat}
theorem ok_lot (F : Fun K "_law_lot" "_law_lot" sLot f fd) (B : Bl mg) : FnOk P w K mg base CX0 (k + 1) f fd ["_law_rows_here", "_law_many"] spLot := by
  refine F.ok scLot (fun vs H Q E h => ?_) (fun cdv A outer s H vs Q E hr h => ?_)
  · obtain ⟨R, n, fs, rfl, _⟩ := h
    rfl
  · obtain ⟨R, n, fs, rfl, n6, fl, hR, hF, q⟩ := h
    refine ⟨_, pss_one (ps_ret (pe_callTy call_tupN (by rfl) B.tuple PyProof.Rows.boot_tuple (pa_cons (pe_lc (own := [("_law_k", 2)]) (g := gName 2) rfl scLot.nd (pi_range1 (by rfl) B.range (pa_cons (pv 1) pa_nil))
        (blkOk_by (N := nLot) (sc := defScope sLot) (by decide +kernel)) (fun _ _ _ _ _ => pg_name (i := 2) scLot.nd rfl (Or.inr rfl))
        (fun _ _ _ _ _ => pts_one (pt_cmpR (op_inK (K := K) rfl) pe_bl (pe_lc (own := [("_law_row", 3)]) (g := gName 3) rfl scLot.nd (pi_listK (K := K) rfl (pv 0)) (blkOk_by (N := nLot) (sc := scIn) (by decide +kernel))
          (fun _ _ _ _ _ => pg_name (i := 3) scLot.nd rfl (Or.inl rfl)) (fun _ _ _ _ _ => pts_nil) (fun _ _ _ _ _ => pe_ix (ix_listK (K := K) rfl) (pv 3) (pv 2) (fun _ _ => rfl))) rfl)) (fun _ _ _ _ _ => pv 2)) pa_nil))), ?_⟩
    refine ⟨_, rfl, (n : Nat), rfl, by omega, by omega, fun D nD => ?_⟩
    rw [Int.toNat_natCast]
    refine lc_filt (fun j => fs.any (fun p => p.2 j)) nD (by omega) (fun j H1 hj s1 R1 R0 hRR => ?_) (fun H1 s1 hD => ?_)
    · rw [Int.zero_add]
      refine ⟨rfl, _, rfl, R, rfl, ⟨_, SqL.of (s1 _ _ hR)⟩, fun D2 nD2 => ?_⟩
      refine lc_list (K := K) (a := R) (xs := fs.map fun p => V.ref p.1) (fun i H2 => Same H1 H2 ∧ H2 D2 = some (.lst (((fs.take i).map (fun p => p.2 j)).map V.bl))) ⟨same_new nD2, upd_same⟩ (fun i H2 _ pp => SqL.of (pp.1 _ _ (s1 _ _ hR))) (fun i v H2 hv pp => ?_) (fun H2 pp => ?_)
      · obtain ⟨s2, hD2⟩ := pp
        obtain ⟨p, hp, rfl⟩ := map_get hv
        have hi : i < fs.length := (List.getElem?_eq_some_iff.mp hp).1
        refine ⟨rfl, _, rfl, _, rfl, p.1, _, _, _, rfl, rfl, SqL.of (s2 _ _ (s1 _ _ (hF p (List.mem_of_getElem? hp)))), atI_nat (j := j) (bv_at hj), _, hD2, ?_, fun b o z => ?_, ?_⟩
        · rw [List.length_map, List.length_map, List.length_take]
          exact Nat.lt_of_le_of_lt (Nat.min_le_right _ _) (small1000 (by omega))
        · rw [upd_ne (ne_of_none z nD2)]; exact s2 _ _ z
        · rw [upd_same, List.take_add_one, hp, List.map_append, List.map_append]; rfl
      · obtain ⟨s2, hD2⟩ := pp
        rw [List.length_map, List.take_length] at hD2
        have hRR' := hRR H2 s2
        have e1 : ((fs.map (fun p => p.2 j)).any id) = fs.any (fun p => p.2 j) := by rw [List.any_map]; rfl
        refine ⟨D2, _, rfl, .inl (SqL.of hD2), rfl, flat_bl _, _, rfl, ?_⟩
        cases c : fs.any (fun p => p.2 j) with
        | true => exact iteD (by show inV _ _ = true; rw [inV_bl, e1, c]) ⟨_, rfl, hRR'.1 c⟩
        | false => exact iteE (by show inV _ _ = false; rw [inV_bl, e1, c]) (hRR'.2 c)
    · refine ⟨D, _, rfl, .inl hD, fun t1 H3 s3 ht => q H3 t1 (s1.trans s3) ht⟩
end
end Kc

set_option Elab.async false
set_option linter.all false
set_option maxRecDepth 100000
set_option maxHeartbeats 8000000
/-! The lots of known kinds, sorted. -/
namespace Kc
open PySem PySem.Spec PyProof.Rows L2 Kg Kd Kr Kf Kl
theorem known_mk {H : Hp} : ∀ (L : List (Addr × List Int)), (∀ p ∈ L, ∃ l, p.2 = ci l ∧ H p.1 = some (.tup (l.map iV)) ∧ l.length ≤ 1000) → ∃ A : List (List Nat), L.map (·.2) = A.map ci ∧ TuAll H (L.map fun q => V.ref q.1) (A.map pdI)
  | [], _ => ⟨[], rfl, .nil⟩
  | p :: L, h => by
    obtain ⟨l, h1, h2, h3⟩ := h p (List.mem_cons_self ..)
    obtain ⟨A, k1, k2⟩ := known_mk L fun q hq => h q (List.mem_cons_of_mem _ hq)
    exact ⟨l :: A, by rw [List.map_cons, List.map_cons, k1, h1], .cons (tu_ints h2 h3) k2⟩
theorem known_ok {H : Hp} {es : List (List Nat)} {ho : List Nat} {ps : List (Addr × List Nat)} {L L' : List (Addr × List Int)} (n6 : es.length ≤ 6) (hps : ps.map (·.2) = ((List.range es.length).filter (fun k => !decide (k ∈ ho))).map (lot es)) (h1 : ∀ p ∈ L, p ∈ ps.map (fun p => (p.1, ci p.2))) (h2 : ∀ p ∈ ps.map (fun p => (p.1, ci p.2)), p.2 ∈ L.map (·.2))
    (pm : L'.Perm L) (pw : L'.Pairwise (fun q r => Ku.lx q.2 r.2 = true)) (ht : ∀ p ∈ ps, H p.1 = some (.tup (p.2.map iV))) : ∃ A : List (List Nat), TuAll H (L'.map fun q => V.ref q.1) (A.map pdI) ∧ A.Pairwise (fun a b => lxN a b = true) ∧ ∀ l, l ∈ A ↔ kn es ho l = true := by
  have inp : ∀ l, l ∈ ps.map (·.2) ↔ kn es ho l = true := by
    intro l
    rw [hps, kn_iff, List.mem_map]
    constructor
    · rintro ⟨k, hk, rfl⟩
      rw [List.mem_filter, List.mem_range, Bool.not_eq_true', decide_eq_false_iff_not] at hk
      exact ⟨k, hk.1, hk.2, rfl⟩
    · rintro ⟨k, a, b, rfl⟩
      exact ⟨k, by rw [List.mem_filter, List.mem_range, Bool.not_eq_true', decide_eq_false_iff_not]; exact ⟨a, b⟩, rfl⟩
  obtain ⟨A, a1, a2⟩ := known_mk (H := H) L' (fun p hp => by
    obtain ⟨q, hq, e⟩ := List.mem_map.mp (h1 p (pm.mem_iff.mp hp))
    refine ⟨q.2, by rw [← e], by rw [← e]; exact ht q hq, ?_⟩
    obtain ⟨k, k1, _, k2⟩ := kn_iff.mp ((inp q.2).mp (List.mem_map.mpr ⟨q, hq, rfl⟩))
    rw [k2]
    have := lot_len es k
    omega)
  have mem : ∀ l, l ∈ A ↔ ci l ∈ L.map (·.2) := by
    intro l
    rw [← (pm.map (·.2)).mem_iff, a1, List.mem_map]
    constructor
    · intro h; exact ⟨l, h, rfl⟩
    · rintro ⟨l', h, e⟩; rw [← ci_inj e]; exact h
  refine ⟨A, a2, ?_, fun l => ?_⟩
  · have z : (L'.map (·.2)).Pairwise (fun a b => Ku.lx a b = true) := List.pairwise_map.mpr pw
    rw [a1] at z
    exact List.pairwise_map.mp z
  · rw [mem l, ← inp l]
    constructor
    · intro h
      obtain ⟨p, hp, e⟩ := List.mem_map.mp h
      obtain ⟨q, hq, e2⟩ := List.mem_map.mp (h1 p hp)
      rw [← e2] at e
      exact List.mem_map.mpr ⟨q, hq, ci_inj e⟩
    · intro h
      obtain ⟨q, hq, e⟩ := List.mem_map.mp h
      have := h2 _ (List.mem_map.mpr ⟨q, hq, rfl⟩)
      rw [← e]; exact this
end Kc

set_option Elab.async false
set_option linter.all false
set_option maxRecDepth 100000
set_option maxHeartbeats 8000000
namespace Kc
open PySem PySem.Spec PyProof.Rows L2 Kg Kd Kr Kf Kl
abbrev sLots : Stmt := topS 38
abbrev nLots : List Str := ["_law_four_here", "_law_above_here", "_law_many", "_law_codes", "_law_late", "_law_kind", "_law_known", "_law_code", "_law_some_here", "_law_right", "_law_lot_here", "_law_size"]
theorem scLots : FnScope nLots ["_law_four_here"] (defScope sLots) := ⟨rfl, rfl, rfl, by decide +kernel, rfl, by decide +kernel, by decide +kernel⟩
/-- what the lots are made of -/
structure LW (H : Hp) (Fa L D kA : Addr) (rows us : List V) (es : List (List Nat)) (cl ho : List Nat) (sv : Bool) (Kn : List (List Nat)) (kvs : List (List Key × V)) : Prop where
  fo : Fo H Fa es cl ho sv
  rw : Rws H L rows es.length es.length es
  kn : H kA = some (.lst us)
  tu : TuAll H us (Kn.map pdI)
  dd : H D = some (.dT kvs)
theorem LW.same {H H' : Hp} {Fa L D kA : Addr} {rows us : List V} {es : List (List Nat)} {cl ho : List Nat} {sv : Bool} {Kn : List (List Nat)} {kvs : List (List Key × V)} (W : LW H Fa L D kA rows us es cl ho sv Kn kvs) (s : Same H H') : LW H' Fa L D kA rows us es cl ho sv Kn kvs :=
  ⟨W.fo.same s, W.rw.same s, s _ _ W.kn, W.tu.keep (.of_same s), s _ _ W.dd⟩
theorem LW.put {H : Hp} {Fa L D kA : Addr} {rows us : List V} {es : List (List Nat)} {cl ho : List Nat} {sv : Bool} {Kn : List (List Nat)} {kvs kvs' : List (List Key × V)} (W : LW H Fa L D kA rows us es cl ho sv Kn kvs) : LW (upd H D (.dT kvs')) Fa L D kA rows us es cl ho sv Kn kvs' := by
  have kf : KF H (upd H D (.dT kvs')) := KF.put W.dd (fun z => z)
  have ne : ∀ {a : Addr} {xs : List V}, H a = some (.lst xs) → a ≠ D := fun h => ne_of h W.dd (by intro z; cases z)
  refine ⟨W.fo.keep kf (fun xs z => by rw [upd_ne (ne z)]; exact z), ⟨by rw [upd_ne (ne W.rw.at_)]; exact W.rw.at_, W.rw.len, fun m hm => ?_⟩, by rw [upd_ne (ne W.kn)]; exact W.kn, W.tu.keep kf, upd_same⟩
  obtain ⟨r, h1, h2, h3⟩ := W.rw.row m hm
  exact ⟨r, h1, h2, by rw [upd_ne (ne h3)]; exact h3⟩
def spLots : Sp := fun vs H Q _ => ∃ (F : Addr) (es : List (List Nat)) (cl ho : List Nat) (sv : Bool), vs = [.ref F] ∧ Fo H F es cl ho sv ∧
  ∀ H' q ls us, Same H H' → H q = none → H' q = some (.lst us) → TuAll H' us (ls.map pdI) → IsLots es cl ho sv ls → Q (.ref q) H'
theorem op_notInDK {X : Cx} {K : PySem.W.Frag} (h : X.K = K) (hu : X.A.units + 65 < cLine) : OpR X (compareOp .NotIn) (rNotInD K) := by subst h; exact op_notInD hu
abbrev XT (P : Program) (w : World) (K : PySem.W.Frag) (mg : Str → Option Value) (base : Heap) (f : Addr) (cdv : Value) (A : Around) (out : List Env) (s : Shared) (H : Hp) (E : XK) : Cx := (cxOf CX0 P w K mg base nLots "_law_lots" (defScope sLots) f cdv A out s H E).nox
def lotsS (i : Nat) : Stmt := (defBody sLots).getD i (.Pass ⟨0, 0, 0, 0⟩)
def forB (s : Stmt) : List Stmt := match s with
  | .For _ _ b _ _ => b
  | _ => []
def lotsT' (i : Nat) : Stmt := (forB (lotsS 3)).getD i (.Pass ⟨0, 0, 0, 0⟩)
section
variable {P : Program} {w : World} {K : PySem.W.Frag} {mg : Str → Option Value} {base : Heap} {f : Addr} {cdv : Value} {A : Around} {out : List Env} {s : Shared} {H0 : Hp} {E : XK}
/-- the known lots -/
def tL1 : TS := fun D σ H => ∃ (Fa L De : Addr) (rows : List V) (es : List (List Nat)) (cl ho : List Nat) (sv : Bool) (y5 y6 y7 y8 y9 y10 y11 : Option V), σ = [some (.ref Fa), some (.ref L), some (.int (es.length : Nat)), some (.int 1), some (.ref De), y5, y6, y7, y8, y9, y10, y11] ∧ Fo H Fa es cl ho sv ∧ Rws H L rows es.length es.length es ∧ H De = some (.dT []) ∧
  ∀ (H' : Hp) (kA : Addr) (us : List V) (Kn : List (List Nat)), Same H H' → H kA = none → H' kA = some (.lst us) → TuAll H' us (Kn.map pdI) → Kn.Pairwise (fun a b => lxN a b = true) → (∀ l, l ∈ Kn ↔ kn es ho l = true) → D.nx [some (.ref Fa), some (.ref L), some (.int (es.length : Nat)), some (.int 1), some (.ref De), y5, some (.ref kA), y7, y8, y9, y10, y11] H'
theorem lots1 (hr : Room 1 (XT P w K mg base f cdv A out s H0 E).A) (B : Bl mg) (M : Bm mg) (GL : Cal P w K mg base "_law_lot" 1 ["_law_rows_here", "_law_many"] spLot) : PS (XT P w K mg base f cdv A out s H0 E) (lotsS 1) tL1 := by
  have hu := hr.units
  refine ps_imp (ps_set (i := 6) scLots.nd rfl (.inl rfl) (pe_callB (Ku.cr_sortS rfl) (by rfl) M.sorted (by decide +kernel) (pa_cons (pe_callTy (cr_setOfT rfl hu) (by rfl) M.set (by decide +kernel) (pa_cons (pe_lc (own := [("_law_kind", 5)]) (g := gName 5) rfl scLots.nd (pi_range1 (by rfl) B.range (pa_cons (pv 2) pa_nil))
          (blkOk_by (N := nLots) (sc := defScope sLots) (by decide +kernel)) (fun _ _ _ _ _ => pg_name (i := 5) scLots.nd rfl (Or.inl rfl)) (fun _ _ _ _ _ => pts_one (pt_cmpR (op_notInK (K := K) rfl) (pv 5) (pe_ix (ix_listK (K := K) rfl) (pv 0) pe_int (fun _ _ => rfl)) rfl))
          (fun _ _ _ _ _ => pe_cal GL hr (by rfl) (pa_cons (pe_lst (pa_cons (pe_ix (ix_listK (K := K) rfl) (pv 1) (pv 5) (fun _ _ => rfl)) pa_nil)) (pa_cons (pv 2) pa_nil)))) pa_nil)) pa_nil))) (fun D σ H h => ?_)
  obtain ⟨Fa, L, De, rows, es, cl, ho, sv, y5, y6, y7, y8, y9, y10, y11, rfl, FO, RW, hDe, q⟩ := h
  obtain ⟨⟨e, c, h, hF, he, hc, hh⟩, EL, SC, SH⟩ := id FO
  obtain ⟨ah, rfl, hah, ahl⟩ := tu_inv hh
  have n6 := EL.hi
  have e2 : ((es.length : Nat) : Int).toNat = es.length := Int.toNat_natCast _
  refine ⟨_, rfl, (es.length : Nat), rfl, by omega, by omega, fun D1 nD1 => ?_⟩
  rw [e2]
  refine lc_range (lo := 0) (n := es.length) (fun i H1 => ∃ ps : List (Addr × List Nat), Same H H1 ∧ H1 D1 = some (.lst (ps.map fun p => V.ref p.1)) ∧ (∀ p ∈ ps, H1 p.1 = some (.tup (p.2.map iV))) ∧ ps.length ≤ i ∧ ps.map (·.2) = ((List.range i).filter (fun k => !decide (k ∈ ho))).map (lot es)) ⟨[], same_new nD1, upd_same, fun p hp => (nomatch hp), Nat.le_refl _, rfl⟩ (fun i H1 hi pp => ?_) (fun H1 pp => ?_)
  · obtain ⟨ps, s1, hD, hps, pl, pe⟩ := pp
    obtain ⟨r, r1, r2, r3⟩ := (RW.same s1).row i hi
    have RW1 := RW.same s1
    rw [Int.zero_add]
    refine ⟨rfl, _, rfl, _, rfl, Fa, _, 2, .ref ah, rfl, rfl, SqL.of (s1 _ _ hF), atI_nat (j := 2) rfl, ah, _, rfl, .inr (SqT.of (s1 _ _ hah)), rfl, flat_iV _, _, rfl, ?_⟩
    by_cases cc : i ∈ ho
    · refine iteE (by show (!inV _ _) = false; rw [inV_iV, decide_eq_true cc]; rfl) ⟨ps, s1, hD, hps, by omega, ?_⟩
      rw [rgf_succ, if_neg (by simpa using cc), List.append_nil]
      exact pe
    · refine iteD (by show (!inV _ _) = true; rw [inV_iV, decide_eq_false cc]; rfl) ?_
      refine ⟨_, rfl, _, rfl, L, rows, _, .ref r, rfl, rfl, SqL.of RW1.at_, atI_nat (j := i) r1, (show 1 ≤ sizeLine by decide), fun R nR => ?_⟩
      have s2 := same_new (o := HO.lst [.ref r]) nR
      refine ⟨_, rfl, R, es.length, [(r, abv es i)], rfl, n6, by simp, upd_same, fun p hp => by rw [List.mem_singleton.mp hp]; exact s2 _ _ r3, fun H3 t3 s3 ht => ?_⟩
      have el : (List.range es.length).filter (fun j => [(r, abv es i)].any (fun p => p.2 j)) = lot es i := by
        unfold lot
        congr 1
        funext j
        simp
      rw [el] at ht
      have s13 := s2.trans s3
      refine ⟨_, s13 _ _ hD, ?_, ps ++ [(t3, lot es i)], fun b o z => ?_, ?_, fun p hp => ?_, ?_, ?_⟩
      · rw [List.length_map]; exact small1000 (by omega)
      · rw [upd_ne (ne_of_none z nD1)]; exact s13 _ _ (s1 _ _ z)
      · rw [upd_same, List.map_append]; rfl
      · have neD : ∀ {a : Addr} {xs : List V}, H3 a = some (.tup xs) → a ≠ D1 := fun z => ne_of z (s13 _ _ hD) (by intro y; cases y)
        rcases List.mem_append.mp hp with z | z
        · have := s13 _ _ (hps p z)
          rw [upd_ne (neD this)]; exact this
        · rw [List.mem_singleton.mp z, upd_ne (neD ht)]; exact ht
      · rw [List.length_append, List.length_singleton]; omega
      · rw [rgf_succ, if_pos (by simpa using cc), List.map_append, List.map_append, pe]; rfl
  · obtain ⟨ps, s1, hD, hps, pl, pe⟩ := pp
    refine ⟨D1, ps.map (fun p => (p.1, ci p.2)), rfl, SqL.of (by rw [List.map_map]; exact hD), fun p hp => ?_, by rw [List.length_map]; omega, fun S Ls nS l1 l2 => ?_⟩
    · obtain ⟨p0, h0, rfl⟩ := List.mem_map.mp hp
      refine SqT.of ?_
      show H1 p0.1 = some (.tup ((ci p0.2).map V.int))
      rw [ci_V]; exact hps p0 h0
    have s2 := same_new (o := SetTO P w S Ls) nS
    refine ⟨S, Ls, rfl, upd_same, fun p hp => ?_, fun L' kA pm pw pl' nk => ?_⟩
    · obtain ⟨p0, h0, rfl⟩ := List.mem_map.mp (l1 p hp)
      refine ⟨SqT.of ?_, ?_⟩
      · show upd H1 S _ p0.1 = some (.tup ((ci p0.2).map V.int))
        rw [ci_V]; exact s2 _ _ (hps p0 h0)
      · intro z
        have hm : p0.2 ∈ ps.map (·.2) := List.mem_map.mpr ⟨p0, h0, rfl⟩
        rw [pe] at hm
        obtain ⟨k, hk, ek⟩ := List.mem_map.mp hm
        have hk' := List.mem_range.mp (List.mem_filter.mp hk).1
        exact lot_ne (es := es) hk' (by rw [ek]; exact ci_nil.mp z)
    have s3 := same_new (o := HO.lst (L'.map fun q => V.ref q.1)) nk
    obtain ⟨An, t1, t2, t3⟩ := known_ok (H := upd (upd H1 S (SetTO P w S Ls)) kA (.lst (L'.map fun (q : Addr × List Int) => V.ref q.1))) n6 pe l1 l2 pm pw (fun p hp => s3 _ _ (s2 _ _ (hps p hp)))
    exact q _ kA _ An (s1.trans (s2.trans s3)) ((s1.trans s2).free nk) upd_same t1 t2 t3
end
end Kc

set_option Elab.async false
set_option linter.all false
set_option maxRecDepth 100000
set_option maxHeartbeats 8000000
namespace Kc
open PySem PySem.Spec PyProof.Rows L2 Kg Kd Kr Kf Kl
/-- the slots in the walk over the codes -/
def SQ (Fa L De kA : Addr) (n c : Nat) (y5 y7 y8 y9 y10 y11 : Option V) : L2.St := [some (.ref Fa), some (.ref L), some (.int (n : Nat)), some (.int (c : Nat)), some (.ref De), y5, some (.ref kA), y7, y8, y9, y10, y11]
theorem shift_bit (c k : Nat) : (((c : Nat) : Int) / 2 ^ (((k : Nat) : Int).toNat)) % 2 = ((c / 2 ^ k % 2 : Nat) : Int) := by
  rw [Int.toNat_natCast]
  simp
theorem eqv_nilI (l : List Nat) : PyData.eqv (.list (l.map iD)) (.list []) = l.isEmpty := by
  cases l with
  | nil => simp [PyData.eqv, PyData.eqvAll]
  | cons a l => simp [PyData.eqv, PyData.eqvAll, iD]
theorem sh_iDs (l : List Nat) : SeqAt.shaped (.list (l.map iD)) = true := by
  refine shaped_of (lay_iD l) ?_
  show PyData.depthAll (l.map iD) + 1 ≤ 64
  rw [dep_iD]; decide
theorem dp_iVs {K : PySem.W.Frag} {H : Hp} : ∀ l : List Nat, DpAll K H (l.map iV) (l.map iD)
  | [] => .nil
  | a :: l => .cons (.int (a : Nat)) (dp_iVs l)
theorem sh_pdIs (A : List (List Nat)) : SeqAt.shaped (.list (A.map pdI)) = true := by
  refine shaped_of (lay_pdIs A) ?_
  show PyData.depthAll (A.map pdI) + 1 ≤ 64
  have := dep_pdIs A
  omega
theorem any_pdI (l : List Nat) : ∀ A : List (List Nat), ((A.map pdI).any fun z => PyData.eqv z (pdI l)) = decide (l ∈ A)
  | [] => by simp
  | a :: A => by
    rw [List.map_cons, List.any_cons, any_pdI l A, eqv_pdI]
    by_cases h : l = a
    · subst h; simp
    · have h2 : ¬ a = l := fun z => h z.symm
      simp [h, h2]
section
variable {P : Program} {w : World} {K : PySem.W.Frag} {mg : Str → Option Value} {base : Heap} {f : Addr} {cdv : Value} {A : Around} {out : List Env} {s : Shared} {H0 : Hp} {E : XK}
def tQ0 : TS := fun D σ H => ∃ (Fa L De kA : Addr) (n m c : Nat) (y5 y8 y9 y10 y11 : Option V), σ = SQ Fa L De kA n m y5 (some (.int (c : Nat))) y8 y9 y10 y11 ∧ n ≤ 6 ∧ ∀ H' a, Same H H' → H' a = some (.lst ((ksOf n c).map iV)) → D.nx (SQ Fa L De kA n m y5 (some (.int (c : Nat))) (some (.ref a)) y9 y10 y11) H'
theorem lotsQ0 (B : Bl mg) : PS (XT P w K mg base f cdv A out s H0 E) (lotsT' 0) tQ0 := by
  refine ps_imp (ps_setLc (i := 8) (own := [("_law_kind", 5)]) (g := gName 5) rfl scLots.nd rfl rfl (sw_true rfl rfl rfl (by decide +kernel)) (pi_range1 (by rfl) B.range (pa_cons (pv 2) pa_nil)) (blkOk_by (N := nLots) (sc := defScope sLots) (by decide +kernel)) (fun _ _ _ _ _ => pg_name (i := 5) scLots.nd rfl (Or.inl rfl))
          (fun _ _ _ _ _ => pts_one (pt_cmpR op_eq (pe_op op_mod (pe_op op_shr (pv 7) (pv 5)) pe_int) pe_int (nomark _))) (fun _ _ _ _ _ => pv 5)) (fun D σ H h => ?_)
  obtain ⟨Fa, L, De, kA, n, m, c, y5, y8, y9, y10, y11, rfl, n6, q⟩ := h
  refine ⟨_, rfl, (n : Nat), rfl, by omega, by omega, fun D1 nD1 => ?_⟩
  rw [Int.toNat_natCast]
  refine lc_filt (fun k => decide (c / 2 ^ k % 2 = 1)) nD1 (by omega) (fun j H2 hj s2 R R0 hR => ?_) (fun H2 s2 hD2 => q H2 D1 s2 hD2)
  have hR' := hR H2 (Same.refl _)
  rw [Int.zero_add]
  refine ⟨rfl, _, rfl, _, rfl, (c : Nat), (j : Nat), rfl, rfl, Int.natCast_nonneg j, _, 2, rfl, rfl, (by show (0 : Int) < 2; decide), rfl, _, rfl, ?_⟩
  have e1 : decide (V.int ((((c : Nat) : Int) / 2 ^ (((j : Nat) : Int).toNat)) % 2) = V.int 1) = decide (c / 2 ^ j % 2 = 1) := by
    rw [shift_bit]
    by_cases z : c / 2 ^ j % 2 = 1
    · rw [z]; simp
    · rw [decide_eq_false z, decide_eq_false (fun y => z (by have := V.int.inj y; omega))]
  by_cases z : decide (c / 2 ^ j % 2 = 1) = true
  · exact iteD (e1.trans z) ⟨_, rfl, hR'.1 z⟩
  · rw [Bool.not_eq_true] at z
    exact iteE (e1.trans z) (hR'.2 z)
def tQ1 : TS := fun D σ H => ∃ (Fa L De kA a : Addr) (n m : Nat) (ks : List Nat) (y5 y7 y9 y10 y11 : Option V) (es : List (List Nat)) (cl ho : List Nat) (sv : Bool), σ = SQ Fa L De kA n m y5 y7 (some (.ref a)) y9 y10 y11 ∧ Fo H Fa es cl ho sv ∧ H a = some (.lst (ks.map iV)) ∧ ks.length ≤ 6 ∧
  ∀ H', Same H H' → D.nx (SQ Fa L De kA n m y5 y7 (some (.ref a)) (some (.bl (rt cl sv ks))) y10 y11) H'
theorem lotsQ1 (hr : Room 1 (XT P w K mg base f cdv A out s H0 E).A) (B : Bl mg) : PS (XT P w K mg base f cdv A out s H0 E) (lotsT' 1) tQ1 := by
  have hu := hr.units
  refine ps_imp (ps_set (i := 9) scLots.nd rfl (.inl rfl) (pe_and (pe_cmpR (op_eqD hu) (pe_lc (own := [("_law_kind", 5)]) (g := gName 5) rfl scLots.nd (pi_list (pv 8)) (blkOk_by (N := nLots) (sc := defScope sLots) (by decide +kernel)) (fun _ _ _ _ _ => pg_name (i := 5) scLots.nd rfl (Or.inl rfl))
            (fun _ _ _ _ _ => pts_one (pt_cmpR (op_inK (K := K) rfl) (pv 5) (pe_ix (ix_listK (K := K) rfl) (pv 0) pe_int (fun _ _ => rfl)) rfl)) (fun _ _ _ _ _ => pv 5)) (pe_lst pa_nil) (nomark _))
          (pe_one (pe_or (pe_cmpR op_eq (pe_callB call_len_seq (by rfl) B.len PySem.boot_len (pa_cons (pv 8) pa_nil)) pe_int (nomark _)) (pe_one (pe_ix ix_list (pv 0) pe_int (fun _ _ => rfl))))))) (fun D σ H h => ?_)
  obtain ⟨Fa, L, De, kA, a, n, m, ks, y5, y7, y9, y10, y11, es, cl, ho, sv, rfl, FO, ha, k6, q⟩ := h
  obtain ⟨⟨e, c, h, hF, he, hc, hh⟩, EL, SC, SH⟩ := id FO
  obtain ⟨ac, rfl, hac, acl⟩ := tu_inv hc
  refine ⟨_, rfl, a, rfl, ⟨_, SqL.of ha⟩, fun D1 nD1 => ?_⟩
  refine lc_list (K := K) (a := a) (xs := ks.map iV) (fun i H1 => Same H H1 ∧ H1 D1 = some (.lst (((ks.take i).filter (fun k => decide (k ∈ cl))).map iV))) ⟨same_new nD1, upd_same⟩ (fun i H1 _ pp => SqL.of (pp.1 _ _ ha)) (fun i v H1 hv pp => ?_) (fun H1 pp => ?_)
  · obtain ⟨s1, hD⟩ := pp
    obtain ⟨z, hz, rfl⟩ := map_get hv
    have tk : ks.take (i + 1) = ks.take i ++ [z] := by rw [List.take_add_one, hz]; rfl
    refine ⟨rfl, _, rfl, _, rfl, Fa, _, 1, .ref ac, rfl, rfl, SqL.of (s1 _ _ hF), atI_nat (j := 1) rfl, ac, _, rfl, .inr (SqT.of (s1 _ _ hac)), rfl, flat_iV _, _, rfl, ?_⟩
    by_cases cc : z ∈ cl
    · refine iteD (by show inV _ _ = true; rw [show iV z = .int (z : Nat) from rfl, inV_iV, decide_eq_true cc]) ⟨_, rfl, _, hD, ?_, fun bb o yz => ?_, ?_⟩
      · rw [List.length_map]
        have h1 := List.length_filter_le (fun k => decide (k ∈ cl)) (ks.take i)
        have h2 : (ks.take i).length ≤ ks.length := by rw [List.length_take]; omega
        exact small1000 (by omega)
      · rw [upd_ne (ne_of_none yz nD1)]; exact s1 _ _ yz
      · rw [upd_same, tk, List.filter_append, List.map_append]
        simp [cc]
    · refine iteE (by show inV _ _ = false; rw [show iV z = .int (z : Nat) from rfl, inV_iV, decide_eq_false cc]) ⟨s1, ?_⟩
      rw [tk, List.filter_append]
      simpa [cc] using hD
  · obtain ⟨s1, hD⟩ := pp
    rw [List.length_map, List.take_length] at hD
    refine ⟨(show 0 ≤ sizeLine by decide), fun em nem => ?_⟩
    have s2 := same_new (o := HO.lst []) nem
    have s12 := s1.trans s2
    refine ⟨_, .list [], .lst (SqL.of (s2 _ _ hD)) (dp_iVs _), .lst (SqL.of upd_same) .nil, sh_iDs _, by decide +kernel, _, rfl, ?_⟩
    rw [eqv_nilI]
    have q' := q _ s12
    unfold rt at q'
    cases c1 : (ks.filter (fun k => decide (k ∈ cl))).isEmpty with
    | false =>
      rw [c1] at q'
      exact iteF q'
    | true =>
      rw [c1] at q'
      refine iteT ⟨_, rfl, a, _, rfl, .inl (SqL.of (s12 _ _ ha)), rfl, _, rfl, ?_⟩
      have e1 : decide (V.int (((ks.map iV).length : Nat) : Int) = V.int 1) = decide (ks.length = 1) := by
        rw [List.length_map]
        by_cases z : ks.length = 1
        · rw [z]; simp
        · rw [decide_eq_false z, decide_eq_false (fun y => z (by have := V.int.inj y; omega))]
      rw [e1]
      cases c2 : decide (ks.length = 1) with
      | true =>
        rw [c2] at q'
        exact iteT q'
      | false =>
        rw [c2] at q'
        exact iteF ⟨_, rfl, Fa, _, 3, .bl sv, rfl, rfl, SqL.of (s12 _ _ hF), atI_nat (j := 3) rfl, q'⟩
def tQ2 : TS := fun D σ H => ∃ (Fa L De kA a : Addr) (rows : List V) (m : Nat) (ks : List Nat) (y5 y7 y9 y10 y11 : Option V) (es : List (List Nat)), σ = SQ Fa L De kA es.length m y5 y7 (some (.ref a)) y9 y10 y11 ∧ Rws H L rows es.length es.length es ∧ es.length ≤ 6 ∧ H a = some (.lst (ks.map iV)) ∧ Som es.length ks ∧
  ∀ H' t, Same H H' → H' t = some (.tup ((lotS es ks).map iV)) → D.nx (SQ Fa L De kA es.length m y5 y7 (some (.ref a)) y9 (some (.ref t)) y11) H'
theorem lotsQ2 (hr : Room 1 (XT P w K mg base f cdv A out s H0 E).A) (GL : Cal P w K mg base "_law_lot" 1 ["_law_rows_here", "_law_many"] spLot) : PS (XT P w K mg base f cdv A out s H0 E) (lotsT' 2) tQ2 := by
  refine ps_imp (ps_set (i := 10) scLots.nd rfl (.inl rfl) (pe_cal GL hr (by rfl) (pa_cons (pe_lc (own := [("_law_kind", 5)]) (g := gName 5) rfl scLots.nd (pi_list (pv 8)) (blkOk_by (N := nLots) (sc := defScope sLots) (by decide +kernel)) (fun _ _ _ _ _ => pg_name (i := 5) scLots.nd rfl (Or.inl rfl)) (fun _ _ _ _ _ => pts_nil)
            (fun _ _ _ _ _ => pe_ix (ix_listK (K := K) rfl) (pv 1) (pv 5) (fun _ _ => rfl))) (pa_cons (pv 2) pa_nil)))) (fun D σ H h => ?_)
  obtain ⟨Fa, L, De, kA, a, rows, m, ks, y5, y7, y9, y10, y11, es, rfl, RW, n6, ha, SK, q⟩ := h
  have kl := SK.len
  refine ⟨_, rfl, a, rfl, ⟨_, SqL.of ha⟩, fun D1 nD1 => ?_⟩
  refine lc_list (K := K) (a := a) (xs := ks.map iV) (fun i H1 => ∃ fs : List (Addr × (Nat → Bool)), Same H H1 ∧ H1 D1 = some (.lst (fs.map fun p => V.ref p.1)) ∧ fs.map (·.2) = (ks.take i).map (abv es) ∧ ∀ p ∈ fs, H p.1 = some (.lst (bv es.length p.2))) ⟨[], same_new nD1, upd_same, rfl, fun p hp => (nomatch hp)⟩ (fun i H1 _ pp => by obtain ⟨_, p, _⟩ := pp; exact SqL.of (p _ _ ha)) (fun i v H1 hv pp => ?_) (fun H1 pp => ?_)
  · obtain ⟨fs, s1, hD, fe, hf⟩ := pp
    obtain ⟨z, hz, rfl⟩ := map_get hv
    have tk : ks.take (i + 1) = ks.take i ++ [z] := by rw [List.take_add_one, hz]; rfl
    have hzl := SK.low z (List.mem_of_getElem? hz)
    obtain ⟨r, r1, r2, r3⟩ := RW.row z hzl
    have fl : fs.length ≤ 6 := by
      have := congrArg List.length fe
      rw [List.length_map, List.length_map, List.length_take] at this
      omega
    refine ⟨rfl, _, rfl, _, rfl, L, rows, _, .ref r, rfl, rfl, SqL.of (s1 _ _ RW.at_), atI_nat (j := z) r1, _, hD, ?_, fs ++ [(r, abv es z)], fun bb o yz => ?_, ?_, ?_, fun p hp => ?_⟩
    · rw [List.length_map]; exact small1000 (by omega)
    · rw [upd_ne (ne_of_none yz nD1)]; exact s1 _ _ yz
    · rw [upd_same, List.map_append]; rfl
    · rw [List.map_append, tk, List.map_append, fe]; rfl
    · rcases List.mem_append.mp hp with y | y
      · exact hf p y
      · rw [List.mem_singleton.mp y]; exact r3
  · obtain ⟨fs, s1, hD, fe, hf⟩ := pp
    rw [List.length_map, List.take_length] at fe
    have fl : fs.length ≤ 6 := by
      have := congrArg List.length fe
      rw [List.length_map, List.length_map] at this
      omega
    refine ⟨_, rfl, D1, es.length, fs, rfl, n6, by omega, hD, fun p hp => s1 _ _ (hf p hp), fun H2 t s2 ht => q H2 t (s1.trans s2) ?_⟩
    rw [ht]
    have el : (List.range es.length).filter (fun j => fs.any (fun p => p.2 j)) = lotS es ks := by
      unfold lotS
      congr 1
      funext j
      have z : (fs.map (·.2)).any (fun g => g j) = (ks.map (abv es)).any (fun g => g j) := by rw [fe]
      rw [List.any_map, List.any_map] at z
      exact z
    rw [el]
def tQ3 : TS := fun D σ H => ∃ (Fa L De kA a t : Addr) (rows us : List V) (m : Nat) (ks : List Nat) (y5 y7 y11 : Option V) (es : List (List Nat)) (cl ho : List Nat) (sv : Bool) (Kn : List (List Nat)) (kvs : List (List Key × V)) (mm : List Nat → Option Nat), σ = SQ Fa L De kA es.length m y5 y7 (some (.ref a)) (some (.bl (rt cl sv ks))) (some (.ref t)) y11 ∧
  LW H Fa L De kA rows us es cl ho sv Kn kvs ∧ (∀ l, l ∈ Kn ↔ kn es ho l = true) ∧ H a = some (.lst (ks.map iV)) ∧ H t = some (.tup ((lotS es ks).map iV)) ∧ Dv kvs mm ∧ kvs.length < 1000 ∧ ks.length ≤ 6 ∧
  ∀ H' kvs', LW H' Fa L De kA rows us es cl ho sv Kn kvs' → (∀ b o, H b = some o → b ≠ De → H' b = some o) → Dv kvs' (if (rt cl sv ks && !kn es ho (lotS es ks)) = true then fun l => if l = lotS es ks then some (min ((mm l).getD 9) ks.length) else mm l else mm) → kvs'.length ≤ kvs.length + 1 → D.nx (SQ Fa L De kA es.length m y5 y7 (some (.ref a)) (some (.bl (rt cl sv ks))) (some (.ref t)) y11) H'
theorem lotsQ3 (hr : Room 1 (XT P w K mg base f cdv A out s H0 E).A) (B : Bl mg) (mn : mg "min" = none) : PS (XT P w K mg base f cdv A out s H0 E) (lotsT' 3) tQ3 := by
  have hu1 := hu_of hr
  have hu65 : (XT P w K mg base f cdv A out s H0 E).A.units + 65 < cLine := by have := hr.un; omega
  refine ps_imp (ps_if (PW.pt (pw_and (pt_val (pv 9)) (pw_and1 (pt_cmpR (op_notInD hu65) (pv 10) (pv 6) rfl))))
          (pss_one (ps_dput hu1 (pv 4) (pv 10) (pe_callB (call_min2 rfl) (by rfl) mn (by decide +kernel) (pa_cons (pe_dget2 hu1 (pv 4) (pv 10) pe_int ⟨rfl, rfl, rfl, rfl⟩) (pa_cons (pe_callB call_len_seq (by rfl) B.len PySem.boot_len (pa_cons (pv 8) pa_nil)) pa_nil))) rfl)) pss_nil) (fun D σ H h => ?_)
  obtain ⟨Fa, L, De, kA, a, t, rows, us, m, ks, y5, y7, y11, es, cl, ho, sv, Kn, kvs, mm, rfl, W, hk, ha, ht, DV, kl, k6, q⟩ := h
  have ht' : H t = some (.tup ((kL (lotS es ks)).map kV)) := by rw [kL_V]; exact ht
  refine ⟨_, rfl, _, rfl, ?_⟩
  have q0 := q H kvs W (fun _ _ z _ => z)
  cases c1 : rt cl sv ks with
  | false =>
    rw [c1] at q0
    refine iteF (iteF (q0 ?_ (Nat.le_succ _)))
    exact DV
  | true =>
    rw [c1] at q0
    have tl : (lotS es ks).length ≤ 1000 := by
      have := (lotS_som es ks).len
      have := W.fo.el.hi
      omega
    refine iteT ⟨_, rfl, _, rfl, pdI (lotS es ks), Kn.map pdI, (tu_ints ht tl).dp, .lst (SqL.of W.kn) W.tu.dp, sh_pdI _, sh_pdIs _, _, rfl, ?_⟩
    rw [any_pdI]
    have ek : decide (lotS es ks ∈ Kn) = kn es ho (lotS es ks) := by
      cases z : kn es ho (lotS es ks) with
      | true => exact decide_eq_true ((hk _).mpr z)
      | false => exact decide_eq_false (fun y => by rw [(hk _).mp y] at z; cases z)
    rw [ek]
    cases c2 : kn es ho (lotS es ks) with
    | true =>
      rw [c2] at q0
      refine iteF (q0 ?_ (Nat.le_succ _))
      exact DV
    | false =>
      refine iteT ⟨_, rfl, De, rfl, .inr ⟨kvs, .inl W.dd⟩, _, rfl, _, DGet.t W.dd ht', _, rfl, a, _, rfl, .inl (SqL.of ha), ?_⟩
      rw [DV.val]
      refine ⟨(((mm (lotS es ks)).getD 9 : Nat) : Int), ((ks.length : Nat) : Int), ?_, _, rfl, _, rfl, De, _, rfl, DPut.t W.dd ht' (small1000 (by omega)), ?_⟩
      · rw [List.length_map]
        cases mm (lotS es ks) <;> rfl
      · have em : (if ((ks.length : Nat) : Int) < (((mm (lotS es ks)).getD 9 : Nat) : Int) then ((ks.length : Nat) : Int) else (((mm (lotS es ks)).getD 9 : Nat) : Int)) = ((min ((mm (lotS es ks)).getD 9) ks.length : Nat) : Int) := by
          split <;> omega
        rw [em]
        have DP := DV.put (lotS es ks) (min ((mm (lotS es ks)).getD 9) ks.length)
        rw [c1] at q
        refine q _ _ W.put (fun b o z ne => by rw [upd_ne ne]; exact z) ?_ (length_putK ..)
        rw [c2]
        have ef : (fun l' => if l' = lotS es ks then some (min ((mm (lotS es ks)).getD 9) ks.length) else mm l') = (fun l => if l = lotS es ks then some (min ((mm l).getD 9) ks.length) else mm l) := by
          funext l
          by_cases z : l = lotS es ks
          · rw [if_pos z, if_pos z, z]
          · rw [if_neg z, if_neg z]
        rw [← ef]
        exact DP
end
end Kc

set_option Elab.async false
set_option linter.all false
set_option maxRecDepth 100000
set_option maxHeartbeats 8000000
namespace Kc
open PySem PySem.Spec PyProof.Rows L2 Kg Kd Kr Kf Kl
def toI : V → Int
  | .int i => i
  | _ => 0
/-- a pair of an int and a tuple of ints, read off the heap -/
def rdP (H : Hp) : V → Int × List Int
  | .ref t => match H t with
    | some (.tup [.int n, .ref b]) => (n, match H b with | some (.tup vs) => vs.map toI | _ => [])
    | _ => (0, [])
  | _ => (0, [])
theorem toI_iV (l : List Nat) : (l.map iV).map toI = ci l := by rw [List.map_map]; rfl
theorem rdP_at {H : Hp} {t b : Addr} {n : Nat} {l : List Nat} (h1 : H t = some (.tup [.int (n : Nat), .ref b])) (h2 : H b = some (.tup (l.map iV))) : rdP H (.ref t) = (((n : Nat) : Int), ci l) := by
  simp only [rdP, h1, h2, toI_iV]
/-- what stands at t: the number and the lot -/
def PrAt (H : Hp) (p : Addr × Nat × List Nat) : Prop := ∃ b, H p.1 = some (.tup [.int (p.2.1 : Nat), .ref b]) ∧ H b = some (.tup (p.2.2.map iV))
theorem PrAt.same {H H' : Hp} {p : Addr × Nat × List Nat} (h : PrAt H p) (s : Same H H') : PrAt H' p := by
  obtain ⟨b, h1, h2⟩ := h
  exact ⟨b, s _ _ h1, s _ _ h2⟩
theorem PrAt.rd {H : Hp} {p : Addr × Nat × List Nat} (h : PrAt H p) : rdP H (.ref p.1) = (((p.2.1 : Nat) : Int), ci p.2.2) := by
  obtain ⟨b, h1, h2⟩ := h
  exact rdP_at h1 h2
theorem pick_refs {ts : List (Addr × Nat × List Nat)} : ∀ ys : List V, (∀ y ∈ ys, y ∈ ts.map fun p => V.ref p.1) → ∃ ts' : List (Addr × Nat × List Nat), ys = ts'.map (fun p => V.ref p.1) ∧ ∀ p ∈ ts', p ∈ ts
  | [], _ => ⟨[], rfl, fun p hp => (nomatch hp)⟩
  | y :: ys, h => by
    obtain ⟨p, hp, e⟩ := List.mem_map.mp (h y (List.mem_cons_self ..))
    obtain ⟨ts', h1, h2⟩ := pick_refs ys fun z hz => h z (List.mem_cons_of_mem _ hz)
    refine ⟨p :: ts', by rw [List.map_cons, ← e, ← h1], fun q hq => ?_⟩
    rcases List.mem_cons.mp hq with z | z
    · rw [z]; exact hp
    · exact h2 q z
theorem map_rd {H : Hp} : ∀ {ts : List (Addr × Nat × List Nat)}, (∀ p ∈ ts, PrAt H p) → (ts.map fun p => V.ref p.1).map (rdP H) = ts.map fun p => (((p.2.1 : Nat) : Int), ci p.2.2)
  | [], _ => rfl
  | p :: ts, h => by
    rw [List.map_cons, List.map_cons, List.map_cons, map_rd fun q hq => h q (List.mem_cons_of_mem _ hq), (h p (List.mem_cons_self ..)).rd]
theorem nd_ci {l : List (List Nat)} (h : l.Nodup) : (l.map ci).Nodup := List.pairwise_map.mpr (h.imp (fun ne e => ne (ci_inj e)))
/-- the late lots in their order -/
theorem late_ok {H : Hp} {es : List (List Nat)} {cl ho : List Nat} {sv : Bool} {kvs : List (List Key × V)} {mm : List Nat → Option Nat} {ts : List (Addr × Nat × List Nat)} {ys : List V} (DV : Dv kvs mm) (hm : ∀ l m, mm l = some m ↔ Late es cl ho sv (m, l)) (te : ts.map (fun p => (kL p.2.2, V.int ((p.2.1 : Nat) : Int))) = kvs) (hp : ∀ p ∈ ts, PrAt H p)
    (srt : SrtO.Srtd (fun x y => Ku.lp (rdP H x) (rdP H y)) ys) (stb : SrtO.Stb (fun x y => Ku.lp (rdP H x) (rdP H y)) ys (ts.map fun p => V.ref p.1)) :
    ∃ ts' : List (Addr × Nat × List Nat), ys = ts'.map (fun p => V.ref p.1) ∧ (∀ p ∈ ts', PrAt H p) ∧ (ts'.map (·.2)).Pairwise (fun a b => lpN a b = true) ∧ (∀ p, p ∈ ts'.map (·.2) ↔ Late es cl ho sv p) ∧ ts'.length = ts.length := by
  obtain ⟨ts', rfl, sub⟩ := pick_refs ys fun y hy => stb.perm.mem_iff.mp hy
  have hp' : ∀ p ∈ ts', PrAt H p := fun p h => hp p (sub p h)
  have pm := stb.perm.map (rdP H)
  rw [map_rd hp', map_rd hp] at pm
  have nk : (ts.map (fun p => ci p.2.2)).Nodup := by
    have z := DV.nd
    rw [← te, List.map_map] at z
    have z2 : (ts.map (fun p => p.2.2)).Nodup := by
      refine List.pairwise_map.mpr ((List.pairwise_map.mp z).imp fun ne e => ne ?_)
      show kL _ = kL _
      rw [e]
    have := nd_ci z2
    rwa [List.map_map] at this
  have nk' : (ts'.map (fun p => ci p.2.2)).Nodup := by
    have z := pm.map (·.2)
    rw [List.map_map, List.map_map] at z
    exact z.nodup_iff.mpr nk
  refine ⟨ts', rfl, hp', ?_, fun p => ?_, ?_⟩
  · refine List.pairwise_map.mpr ?_
    have z : ts'.Pairwise (fun p q => Ku.lp (rdP H (V.ref q.1)) (rdP H (V.ref p.1)) = false) := List.pairwise_map.mp srt
    have n2 : ts'.Pairwise (fun p q => ci p.2.2 ≠ ci q.2.2) := List.pairwise_map.mp nk'
    refine List.Pairwise.imp_of_mem (fun {p q} h1 h2 y => ?_) (z.and n2)
    rw [(hp' p h1).rd, (hp' q h2).rd] at y
    show Ku.lx _ _ = true
    rcases Ku.lx_tri (((p.2.1 : Nat) : Int) :: ci p.2.2) (((q.2.1 : Nat) : Int) :: ci q.2.2) with e | e | e
    · exact absurd (List.cons.inj e).2 y.2
    · exact e
    · have e' : Ku.lp (((q.2.1 : Nat) : Int), ci q.2.2) (((p.2.1 : Nat) : Int), ci p.2.2) = true := e
      rw [y.1] at e'
      cases e'
  · obtain ⟨m, l⟩ := p
    rw [← hm l m]
    have step : (m, l) ∈ ts'.map (·.2) ↔ (((m : Nat) : Int), ci l) ∈ ts'.map (fun p => (((p.2.1 : Nat) : Int), ci p.2.2)) := by
      rw [List.mem_map, List.mem_map]
      constructor
      · rintro ⟨p, h1, h2⟩
        exact ⟨p, h1, by rw [h2]⟩
      · rintro ⟨p, h1, h2⟩
        rw [Prod.mk.injEq] at h2
        exact ⟨p, h1, Prod.ext (by omega) (ci_inj h2.2)⟩
    rw [step, pm.mem_iff, List.mem_map]
    constructor
    · rintro ⟨p, h1, h2⟩
      rw [Prod.mk.injEq] at h2
      have e1 : p.2.1 = m := by omega
      have e2 := ci_inj h2.2
      have hk : (kL p.2.2, V.int ((p.2.1 : Nat) : Int)) ∈ kvs := by rw [← te]; exact List.mem_map.mpr ⟨p, h1, rfl⟩
      obtain ⟨l', n', e3, e4⟩ := DV.ks _ hk
      rw [Prod.mk.injEq] at e3
      have e5 : p.2.2 = l' := kL_inj e3.1
      have e6 : p.2.1 = n' := by have := V.int.inj e3.2; omega
      rw [← e1, ← e2, e5, e6]; exact e4
    · intro h
      have hk := DV.all l m h
      rw [← te] at hk
      obtain ⟨p, h1, h2⟩ := List.mem_map.mp hk
      rw [Prod.mk.injEq] at h2
      have e5 : p.2.2 = l := kL_inj h2.1
      have e6 : p.2.1 = m := by have := V.int.inj h2.2; omega
      exact ⟨p, h1, by rw [e5, e6]⟩
  · have := stb.perm.length_eq
    rwa [List.length_map, List.length_map] at this
section
variable {P : Program} {w : World} {K : PySem.W.Frag} {mg : Str → Option Value} {base : Heap} {f : Addr} {cdv : Value} {A : Around} {out : List Env} {s : Shared} {H0 : Hp} {E : XK}
def tR : TS := fun D σ H => ∃ (Fa L De kA : Addr) (rows us : List V) (m : Nat) (y5 y7 y8 y9 y10 y11 : Option V) (es : List (List Nat)) (cl ho : List Nat) (sv : Bool) (Kn : List (List Nat)) (kvs : List (List Key × V)) (mm : List Nat → Option Nat), σ = SQ Fa L De kA es.length m y5 y7 y8 y9 y10 y11 ∧
  LW H Fa L De kA rows us es cl ho sv Kn kvs ∧ Kn.Pairwise (fun a b => lxN a b = true) ∧ (∀ l, l ∈ Kn ↔ kn es ho l = true) ∧ Dv kvs mm ∧ (∀ l m, mm l = some m ↔ Late es cl ho sv (m, l)) ∧ kvs.length ≤ 100 ∧ Kn.length ≤ 100 ∧
  ∀ (H' : Hp) (q : Addr) (ls : List (List Nat)) (us' : List V), Same H H' → H q = none → H' q = some (.lst us') → TuAll H' us' (ls.map pdI) → IsLots es cl ho sv ls → D.rt (.ref q) H'
theorem lotsR (hr : Room 1 (XT P w K mg base f cdv A out s H0 E).A) (M : Bm mg) : PS (XT P w K mg base f cdv A out s H0 E) (lotsS 4) tR := by
  have hu := hr.units
  have hu1 := hu_of hr
  refine ps_imp (ps_ret (pe_op op_cat (pv 6) (pe_lc (own := [("_law_size", 11), ("_law_lot_here", 10)]) (g := gTup K 2 (gCons (gName 11) (gCons (gName 10) gNil))) rfl scLots.nd
        (pi_list (pe_callB (Ku.cr_sortP hu) (by rfl) M.sorted (by decide +kernel) (pa_cons (pe_lock (pe_lc (own := [("_law_lot_here", 10)]) (g := gName 10) rfl scLots.nd (pi_keys (pv 4)) (blkOk_by (N := nLots) (sc := defScope sLots) (by decide +kernel)) (fun _ _ _ _ _ => pg_name (i := 10) scLots.nd rfl (Or.inl rfl)) (fun _ _ _ _ _ => pts_nil)
          (fun _ _ _ _ _ => pe_tup (pa_cons (pe_dget hu1 (pv 4) (pv 10) (fun _ _ => rfl)) (pa_cons (pv 10) pa_nil))))) pa_nil)))
        (blkOk_by (N := nLots) (sc := defScope sLots) (by decide +kernel)) (fun _ _ _ _ _ => pg_tup rfl (pgs_cons (pg_name (i := 11) scLots.nd rfl (.inl rfl)) (pgs_cons (pg_name (i := 10) scLots.nd rfl (.inl rfl)) pgs_nil))) (fun _ _ _ _ _ => pts_nil) (fun _ _ _ _ _ => pv 10)))) (fun D σ H h => ?_)
  obtain ⟨Fa, L, De, kA, rows, us, m, y5, y7, y8, y9, y10, y11, es, cl, ho, sv, Kn, kvs, mm, rfl, W, ka, km, DV, hm, k100, n100, q⟩ := h
  refine ⟨_, rfl, De, .dT kvs, W.dd, trivial, fun od => ?_⟩
  have hfr := upd_same (H := H) (a := De) (o := HO.frz od (.dT kvs))
  have toF : ∀ b o, H b = some o → b ≠ De → upd H De (.frz od (.dT kvs)) b = some o := fun b o z ne => by rw [upd_ne ne]; exact z
  generalize (upd H De (.frz od (.dT kvs))) = Hf at hfr toF
  refine ⟨_, rfl, De, od, rfl, .inr ⟨kvs, hfr, fun D1 nD1 => ?_⟩⟩
  refine lc_it (walk_keysT (d := De) (o := od) (kvs := kvs)) (fun i H1 => ∃ ts : List (Addr × Nat × List Nat), Same Hf H1 ∧ H1 D1 = some (.lst (ts.map fun p => V.ref p.1)) ∧ (∀ p ∈ ts, PrAt H1 p) ∧ ts.map (fun p => (kL p.2.2, V.int ((p.2.1 : Nat) : Int))) = kvs.take i) ⟨[], same_new nD1, upd_same, fun p hp => (nomatch hp), rfl⟩ (fun i H1 _ pp => by obtain ⟨_, p, _⟩ := pp; exact p _ _ hfr) (fun i x H1 H2 hi pp yy => ?_) (fun H1 pp => ?_)
  · obtain ⟨ts, s1, hD, hp, te⟩ := pp
    obtain ⟨rfl, k, v, b, hk, rfl, hb⟩ := yy
    obtain ⟨l, n, e1, e2⟩ := DV.ks _ (List.mem_of_getElem? hk)
    rw [Prod.mk.injEq] at e1
    obtain ⟨rfl, rfl⟩ := e1
    have tl : ts.length ≤ 100 := by
      have := congrArg List.length te
      rw [List.length_map, List.length_take] at this
      omega
    have hv : valV kvs (kL l) = some (V.int ((n : Nat) : Int)) := by rw [DV.val, e2]; rfl
    refine ⟨rfl, _, rfl, _, rfl, De, _, rfl, .inr ⟨kvs, kL l, b, .inr ⟨od, s1 _ _ hfr⟩, rfl, hb, hv.symm⟩, _, rfl, (show 2 ≤ sizeLine by decide), fun t nt => ?_⟩
    have s2 := same_new (o := HO.tup [.int ((n : Nat) : Int), .ref b]) nt
    have hb' : H2 b = some (.tup (l.map iV)) := by rw [hb, kL_V]
    have neD : ∀ {a : Addr} {vs : List V} {Hx : Hp}, Hx D1 = some (.lst (ts.map fun p => V.ref p.1)) → Hx a = some (.tup vs) → a ≠ D1 := fun y z => ne_of z y (by intro y; cases y)
    have keep : ∀ p, PrAt (upd H2 t (.tup [.int ((n : Nat) : Int), .ref b])) p → PrAt (upd (upd H2 t (.tup [.int ((n : Nat) : Int), .ref b])) D1 (.lst ((ts.map fun p => V.ref p.1) ++ [.ref t]))) p := by
      rintro p ⟨c, h1, h2⟩
      exact ⟨c, by rw [upd_ne (neD (s2 _ _ hD) h1)]; exact h1, by rw [upd_ne (neD (s2 _ _ hD) h2)]; exact h2⟩
    refine ⟨_, s2 _ _ hD, ?_, ts ++ [(t, n, l)], fun bb o z => ?_, ?_, fun p hp' => ?_, ?_⟩
    · rw [List.length_map]; exact small1000 (by omega)
    · rw [upd_ne (ne_of_none z nD1)]; exact s2 _ _ (s1 _ _ z)
    · rw [upd_same, List.map_append]; rfl
    · rcases List.mem_append.mp hp' with z | z
      · exact keep p ((hp p z).same s2)
      · rw [List.mem_singleton.mp z]
        exact keep _ ⟨b, upd_same, s2 _ _ hb'⟩
    · rw [List.map_append, te, List.take_add_one, hk]; rfl
  · obtain ⟨ts, s1, hD, hp, te⟩ := pp
    rw [List.take_length] at te
    have tl : ts.length ≤ 100 := by
      have := congrArg List.length te
      rw [List.length_map] at this
      omega
    refine ⟨s1 _ _ hfr, ?_⟩
    have sH : Same H (upd H1 De (.dT kvs)) := fun b o z => by
      by_cases ne : b = De
      · subst ne
        rw [upd_same]
        exact W.dd.symm.trans z
      · rw [upd_ne ne]; exact s1 _ _ (toF b o z ne)
    have neE : ∀ {a : Addr} {o : HO}, H1 a = some o → o ≠ .frz od (.dT kvs) → a ≠ De := fun z y => ne_of z (s1 _ _ hfr) y
    have hD' : upd H1 De (.dT kvs) D1 = some (.lst (ts.map fun p => V.ref p.1)) := by rw [upd_ne (neE hD (by intro y; cases y))]; exact hD
    have hp' : ∀ p ∈ ts, PrAt (upd H1 De (.dT kvs)) p := fun p h => by
      obtain ⟨b, h1, h2⟩ := hp p h
      exact ⟨b, by rw [upd_ne (neE h1 (by intro y; cases y))]; exact h1, by rw [upd_ne (neE h2 (by intro y; cases y))]; exact h2⟩
    generalize (upd H1 De (.dT kvs)) = H2 at sH hD' hp'
    refine ⟨D1, _, rdP H2, rfl, SqL.of hD', fun x hx => ?_, fun ys a srt stb na => ?_⟩
    · obtain ⟨p, h1, rfl⟩ := List.mem_map.mp hx
      obtain ⟨b, h2, h3⟩ := hp' p h1
      rw [rdP_at h2 h3]
      exact ⟨p.1, b, rfl, h2, SqT.of (by rw [ci_V]; exact h3)⟩
    obtain ⟨ts', rfl, pa, po, pm, pl⟩ := late_ok DV hm te hp' srt stb
    have s3 := same_new (o := HO.lst (ts'.map fun p => V.ref p.1)) na
    refine ⟨a, rfl, ⟨_, SqL.of upd_same⟩, fun D2 nD2 => ?_⟩
    have ha := upd_same (H := H2) (a := a) (o := HO.lst (ts'.map fun p => V.ref p.1))
    have pa3 : ∀ p ∈ ts', PrAt (upd H2 a (.lst (ts'.map fun p => V.ref p.1))) p := fun p h => (pa p h).same s3
    have sH3 := sH.trans s3
    generalize (upd H2 a (.lst (ts'.map fun p => V.ref p.1))) = H3 at ha pa3 sH3 nD2 ⊢
    refine lc_list (K := K) (a := a) (xs := ts'.map fun p => V.ref p.1) (fun i H4 => ∃ vs : List V, Same H3 H4 ∧ H4 D2 = some (.lst vs) ∧ TuAll H4 vs (((ts'.take i).map (·.2.2)).map pdI)) ⟨[], same_new nD2, upd_same, .nil⟩ (fun i H4 _ pp => by obtain ⟨_, p, _⟩ := pp; exact SqL.of (p _ _ ha)) (fun i v H4 hv pp => ?_) (fun H4 pp => ?_)
    · obtain ⟨vs, s4, hD2, tv⟩ := pp
      obtain ⟨p, hpi, rfl⟩ := map_get hv
      have hpm := List.mem_of_getElem? hpi
      obtain ⟨b, h1, h2⟩ := (pa3 p hpm).same s4
      have il : i < ts'.length := (List.getElem?_eq_some_iff.mp hpi).1
      have lt : (lotS es []).length ≤ 1000 := by have := (lotS_som es []).len; have := W.fo.el.hi; omega
      have pll : p.2.2.length ≤ 1000 := by
        have z := (pm p.2).mp (List.mem_map.mpr ⟨p, hpm, rfl⟩)
        obtain ⟨_, ⟨ks, _, _, _, e, _⟩, _⟩ := z
        rw [← e]
        have := (lotS_som es ks).len
        have := W.fo.el.hi
        omega
      have vl : vs.length ≤ 100 := by
        rw [tv.length, List.length_map, List.length_map, List.length_take]
        omega
      refine ⟨p.1, _, rfl, SqT.of h1, rfl, _, _, rfl, .ref b, _, rfl, rfl, rfl, ?_⟩
      refine ⟨_, rfl, _, hD2, small1000 (by omega), vs ++ [.ref b], fun bb o z => ?_, upd_same, ?_⟩
      · rw [upd_ne (ne_of_none z nD2)]; exact s4 _ _ z
      · rw [List.take_add_one, hpi, List.map_append, List.map_append]
        exact (tv.append (.cons (tu_ints h2 pll) .nil)).keep (KF.putL hD2)
    · obtain ⟨vs, s4, hD2, tv⟩ := pp
      rw [List.length_map, List.take_length] at tv
      have vl : vs.length ≤ 100 := by
        rw [tv.length, List.length_map, List.length_map]
        omega
      have ul : us.length ≤ 100 := by rw [W.tu.length, List.length_map]; exact n100
      have sH4 := sH3.trans s4
      refine ⟨kA, D2, us, vs, rfl, rfl, sH4 _ _ W.kn, hD2, Nat.le_of_lt (small1000 (by omega)), fun qa nq => ?_⟩
      have s5 := same_new (o := HO.lst (us ++ vs)) nq
      refine q _ qa (Kn ++ (ts'.map (·.2)).map (·.2)) _ (sH4.trans s5) (sH4.free nq) upd_same ?_ ⟨Kn, ts'.map (·.2), rfl, ka, km, po, pm⟩
      have em : (ts'.map (·.2)).map (·.2) = ts'.map (·.2.2) := by rw [List.map_map]; rfl
      rw [List.map_append, em]
      exact ((W.tu.keep (.of_same sH4)).append tv).keep (.of_same s5)
end
end Kc

set_option Elab.async false
set_option linter.all false
set_option maxRecDepth 100000
set_option maxHeartbeats 8000000
namespace Kc
open PySem PySem.Spec PyProof.Rows L2 Kg Kd Kr Kf Kl
section
variable {P : Program} {w : World} {K : PySem.W.Frag} {mg : Str → Option Value} {base : Heap} {f : Addr} {fd : FuncData} {k : Nat}
theorem pow64 {i : Nat} (h : i ≤ 6) : 2 ^ i ≤ 64 := by
  have : 2 ^ i ≤ 2 ^ 6 := Nat.pow_le_pow_right (by decide) h
  simpa using this
theorem known_len {es : List (List Nat)} {ho : List Nat} {Kn : List (List Nat)} (ka : Kn.Pairwise (fun a b => lxN a b = true)) (km : ∀ l, l ∈ Kn ↔ kn es ho l = true) : Kn.length ≤ es.length := by
  have nd : Kn.Nodup := ka.imp (fun h e => by rw [e, lxN_irrefl] at h; cases h)
  have sub : ∀ l ∈ Kn, l ∈ (List.range es.length).map (lot es) := fun l hl => by
    obtain ⟨k, h1, _, h2⟩ := kn_iff.mp ((km l).mp hl)
    exact List.mem_map.mpr ⟨k, List.mem_range.mpr h1, h2.symm⟩
  have := List.Nodup.length_le_of_subset nd sub
  rwa [List.length_map, List.length_range] at this
theorem ok_lots (F : Fun K "_law_lots" "_law_lots" sLots f fd) (B : Bl mg) (M : Bm mg) (mn : mg "min" = none) (GA : Cal P w K mg base "_law_above" 1 ["_law_elders"] spAbo) (GL : Cal P w K mg base "_law_lot" 1 ["_law_rows_here", "_law_many"] spLot) : FnOk P w K mg base CX0 2 f fd ["_law_four_here"] spLots := by
  refine F.ok scLots (fun vs H Q E h => ?_) (fun cdv A outer s H vs Q E hr h => ?_)
  · obtain ⟨a, es, cl, ho, sv, rfl, _⟩ := h
    rfl
  · obtain ⟨Fa, es, cl, ho, sv, rfl, FO, q⟩ := h
    refine ⟨_, pss_cons (ps_asg (pe_tup (pa_cons (pe_cal GA hr (by rfl) (pa_cons (pe_ix ix_list (pv 0) pe_int (fun _ _ => rfl)) pa_nil)) (pa_cons (pe_callB call_len_seq (by rfl) B.len PySem.boot_len (pa_cons (pe_ix ix_list (pv 0) pe_int (fun _ _ => rfl)) pa_nil)) (pa_cons pe_int (pa_cons pe_dnewT pa_nil)))))
        (pg_tup rfl (pgs_cons (pg_name (i := 1) scLots.nd rfl (.inr rfl)) (pgs_cons (pg_name (i := 2) scLots.nd rfl (.inr rfl)) (pgs_cons (pg_name (i := 3) scLots.nd rfl (.inl rfl)) (pgs_cons (pg_name (i := 4) scLots.nd rfl (.inr rfl)) pgs_nil))))))
      (pss_cons (lots1 hr B M GL)
      (pss_cons (ps_for PassesOwn.never rfl (pi_range1 (by rfl) B.range (pa_cons (pv 2) pa_nil)) (pg_name (i := 5) scLots.nd rfl (.inl rfl)) (pss_one (ps_set (i := 3) scLots.nd rfl (.inl rfl) (pe_op op_mul (pv 3) pe_int))))
      (pss_cons (ps_for PassesOwn.never rfl (pi_range2 (by rfl) B.range (pa_cons pe_int (pa_cons (pv 3) pa_nil))) (pg_name (i := 7) scLots.nd rfl (.inr rfl)) (pss_cons (lotsQ0 B) (pss_cons (lotsQ1 hr B) (pss_cons (lotsQ2 hr GL) (pss_one (lotsQ3 hr B mn))))))
      (pss_one (lotsR hr M))))), ?_⟩
    obtain ⟨⟨e, c, h, hF, he, hc, hh⟩, EL, SC, SH⟩ := id FO
    obtain ⟨ae, xs, rfl, hae, xl, hA⟩ := tu_elders he
    have n6 := EL.hi
    have e2 : ((es.length : Nat) : Int).toNat = es.length := Int.toNat_natCast _
    -- the rows, the number, the dict
    refine ⟨_, rfl, Fa, _, 0, .ref ae, rfl, rfl, SqL.of hF, atI_nat (j := 0) rfl, .ref ae, es, sv, rfl, he, EL, fun H1 L rows s1 nL RW => ?_⟩
    refine ⟨_, rfl, Fa, _, 0, .ref ae, rfl, rfl, SqL.of (s1 _ _ hF), atI_nat (j := 0) rfl, ae, xs, rfl, .inr (SqT.of (s1 _ _ hae)), fun D nD => ?_⟩
    have s2 := same_new (o := HO.dT []) nD
    refine ⟨(show 4 ≤ sizeLine by decide), fun T nT => ⟨T, _, rfl, SqT.of upd_same, rfl, _, _, rfl, _, _, rfl, _, _, rfl, _, _, rfl, rfl, ?_⟩⟩
    rw [xl]
    have s3 := same_new (o := HO.tup [.ref L, .int (es.length : Nat), .int 1, .ref D]) nT
    have hD0 := s3 _ _ (upd_same (H := H1) (a := D) (o := HO.dT []))
    have nDH : H D = none := s1.free nD
    have s13 := s1.trans (s2.trans s3)
    have RW3 := RW.same (s2.trans s3)
    have FO3 := FO.same s13
    generalize (upd (upd H1 D (.dT [])) T (.tup [.ref L, .int (es.length : Nat), .int 1, .ref D])) = H3 at s3 s13 hD0 RW3 FO3 ⊢
    clear s1 s2 s3 RW nD nT
    -- the known ones
    refine ⟨Fa, L, D, rows, es, cl, ho, sv, none, none, none, none, none, none, none, rfl, FO3, RW3, hD0, fun H4 kA us Kn s4 nk hk tu ka km => ?_⟩
    have W4 : LW H4 Fa L D kA rows us es cl ho sv Kn [] := ⟨FO3.same s4, RW3.same s4, hk, tu, s4 _ _ hD0⟩
    have s14 := s13.trans s4
    have kl := known_len ka km
    -- the number of codes
    refine ⟨_, rfl, (es.length : Nat), rfl, by omega, by omega, for_range (lo := 0) (n := ((es.length : Nat) : Int).toNat) (fun i σ H5 => ∃ y5, σ = SQ Fa L D kA es.length (2 ^ i) y5 none none none none none ∧ H5 = H4) ⟨none, rfl, rfl⟩ (fun i σ H5 hi pp => ?_) (fun σ H5 pp => ?_)⟩
    · obtain ⟨y5, rfl, rfl⟩ := pp
      rw [e2] at hi
      have p64 : 2 ^ i ≤ 64 := pow64 (by omega)
      have ep : ((2 ^ i : Nat) : Int) * 2 = ((2 ^ (i + 1) : Nat) : Int) := by rw [Nat.pow_succ]; omega
      refine ⟨_, rfl, ((2 ^ i : Nat) : Int), 2, rfl, rfl, .inl ⟨by have := Int.natCast_nonneg (2 ^ i); omega, by omega⟩, some (.int (0 + (i : Nat))), ?_, rfl⟩
      show List.set (SQ Fa L D kA es.length (2 ^ i) (some (.int (0 + (i : Nat)))) none none none none none) 3 (some (V.int (((2 ^ i : Nat) : Int) * 2))) = _
      rw [ep]; rfl
    · obtain ⟨y5, rfl, rfl⟩ := pp
      rw [e2]
      have p64 : 2 ^ es.length ≤ 64 := pow64 n6
      have p1 : 1 ≤ 2 ^ es.length := Nat.one_le_two_pow
      have en : (((2 ^ es.length : Nat) : Int) - 1).toNat = 2 ^ es.length - 1 := by omega
      -- the codes
      refine ⟨_, rfl, 1, ((2 ^ es.length : Nat) : Int), rfl, ⟨by decide, by decide, by omega, by omega⟩, for_range (lo := 1) (n := (((2 ^ es.length : Nat) : Int) - 1).toNat) (fun i σ H6 => ∃ (y7 y8 y9 y10 : Option V) (kvs : List (List Key × V)), σ = SQ Fa L D kA es.length (2 ^ es.length) y5 y7 y8 y9 y10 none ∧ LW H6 Fa L D kA rows us es cl ho sv Kn kvs ∧ Same H H6 ∧ Dv kvs (mmU es cl ho sv i) ∧ kvs.length ≤ i)
        ⟨none, none, none, none, [], rfl, W4, s14, Dv.nil, Nat.le_refl _⟩ (fun i σ H6 hi pp => ?_) (fun σ H6 pp => ?_)⟩
      · obtain ⟨y7, y8, y9, y10, kvs, rfl, W6, s6, DV, kv⟩ := pp
        rw [en] at hi
        have ec : (1 : Int) + (i : Nat) = ((i + 1 : Nat) : Int) := by omega
        rw [ec]
        refine ⟨Fa, L, D, kA, es.length, 2 ^ es.length, i + 1, y5, y8, y9, y10, none, rfl, n6, fun H7 a s7 ha => ?_⟩
        have W7 := W6.same s7
        have SK := ksOf_som es.length (i + 1)
        have kl6 : (ksOf es.length (i + 1)).length ≤ 6 := by have := SK.len; omega
        refine ⟨Fa, L, D, kA, a, es.length, 2 ^ es.length, _, y5, _, y9, y10, none, es, cl, ho, sv, rfl, W7.fo, ha, kl6, fun H8 s8 => ?_⟩
        have W8 := W7.same s8
        refine ⟨Fa, L, D, kA, a, rows, 2 ^ es.length, _, y5, _, _, y10, none, es, rfl, W8.rw, n6, s8 _ _ ha, SK, fun H9 t s9 ht => ?_⟩
        have W9 := W8.same s9
        have s69 := s7.trans (s8.trans s9)
        refine ⟨Fa, L, D, kA, a, t, rows, us, 2 ^ es.length, _, y5, _, none, es, cl, ho, sv, Kn, kvs, _, rfl, W9, km, s9 _ _ (s8 _ _ ha), ht, DV, by omega, kl6, fun HA kvs' WA kp DA lA => ?_⟩
        refine ⟨_, _, _, _, kvs', rfl, WA, fun b o z => kp b o (s69 _ _ (s6 _ _ z)) (ne_of_none z nDH), ?_, by omega⟩
        show Dv kvs' (stp es cl ho sv (mmU es cl ho sv i) (i + 1))
        unfold stp
        exact DA
      · obtain ⟨y7, y8, y9, y10, kvs, rfl, W6, s6, DV, kv⟩ := pp
        rw [en] at DV kv
        exact ⟨Fa, L, D, kA, rows, us, 2 ^ es.length, y5, y7, y8, y9, y10, none, es, cl, ho, sv, Kn, kvs, _, rfl, W6, ka, km, DV, fun l m => late_iff n6 m l, by omega, by omega, fun H7 qa ls us' s7 nq hq tq il => q H7 qa ls us' (s6.trans s7) (s6.free nq) hq tq il⟩
end
end Kc

set_option Elab.async false
set_option linter.all false
set_option maxRecDepth 100000
set_option maxHeartbeats 4000000
namespace Kc
open PySem PySem.Spec PyProof.Rows L2 Kg Kd Kr Kf LamX
section
variable {T : List (Addr × Str)} {H H' : Hp} {d la lb : Addr} {n : Nat}
theorem DeckAt.gr (D : DeckAt H d la lb n) (g : Gr T H H') : DeckAt H' d la lb n := by
  obtain ⟨⟨xs, ys, t, h1, h2, h3, h4⟩, m1, m2, m3⟩ := D
  exact ⟨⟨xs, ys, t, g.lst h1, g.lst h2, g.lst h3, h4⟩, m1, m2, m3⟩
theorem Go.tabs (g : Go H d la lb n H') (t : Tabs T H) : Tabs T H' := by
  obtain ⟨m, ⟨xs, ys, tt, h1, h2, h3, h4⟩, m1, m2, m3⟩ := g.b0
  refine tabs_keep g.kp (fun a z => ?_) t
  rcases z with z | z
  · rw [z]; exact ⟨_, h1⟩
  · rw [z]; exact ⟨_, h2⟩
theorem Go.gr {H1 : Hp} (g : Go H d la lb n H1) (k : Gr T H1 H') (nt : ∀ ps a, H a ≠ some (.tbl ps)) : Go H d la lb n H' := ⟨g.b0, g.now.gr k, fun c o h z => k.1 c o (g.kp c o h z) fun ps e => nt ps c (by rw [h, e])⟩
theorem Fo.gr {l : Addr} {es : List (List Nat)} {cl ho : List Nat} {sv : Bool} (k : Fo H l es cl ho sv) (g : Gr T H H') : Fo H' l es cl ho sv := k.keep g.kf fun _ z => g.lst z
/-- a draw leaves tables -/
theorem tabs_dk {b : Nat} (D : DeckAt H d la lb b) (k : Keep (dk d la) H H') (t : Tabs T H) : Tabs T H' := by
  obtain ⟨⟨xs, ys, tt, h1, h2, h3, h4⟩, m1, m2, m3⟩ := D
  refine tabs_keep k (fun a z => ?_) t
  rcases z with z | z
  · rw [z]; exact ⟨_, h1⟩
  · rw [z]; exact ⟨_, h2⟩
end
end Kc

set_option Elab.async false
set_option linter.all false
set_option maxRecDepth 100000
set_option maxHeartbeats 4000000
/-! What stands in a law's turn: the deck, the four parts, the tables. -/
namespace Kc
open PySem PySem.Spec PyProof.Rows L2 Kg Kd Kr Kf LamX
structure Ws (T : List (Addr × Str)) (H : Hp) (d la lb : Addr) (b : Nat) (Fa : Addr) (es : List (List Nat)) (cl ho : List Nat) (sv : Bool) : Prop where
  dk : DeckAt H d la lb b
  fo : Fo H Fa es cl ho sv
  n1 : d ≠ Fa
  n2 : la ≠ Fa
  tb : Tabs T H
section
variable {T : List (Addr × Str)} {H H' : Hp} {d la lb Fa : Addr} {b m : Nat} {es : List (List Nat)} {cl ho : List Nat} {sv : Bool}
theorem Ws.same (W : Ws T H d la lb b Fa es cl ho sv) (s : Same H H') : Ws T H' d la lb b Fa es cl ho sv := ⟨W.dk.same s, W.fo.same s, W.n1, W.n2, W.tb.ext s⟩
theorem Ws.gr (W : Ws T H d la lb b Fa es cl ho sv) (g : Gr T H H') : Ws T H' d la lb b Fa es cl ho sv := ⟨W.dk.gr g, W.fo.gr g, W.n1, W.n2, g.2 W.tb⟩
theorem Ws.less (W : Ws T H d la lb b Fa es cl ho sv) (h : m ≤ b) : Ws T H d la lb m Fa es cl ho sv := ⟨W.dk.less h, W.fo, W.n1, W.n2, W.tb⟩
theorem Ws.go (W : Ws T H d la lb b Fa es cl ho sv) (g : Go H d la lb m H') : Ws T H' d la lb m Fa es cl ho sv := ⟨g.now, W.fo.keep g.kf fun _ z => g.at_ z W.n1 W.n2, W.n1, W.n2, g.tabs W.tb⟩
theorem Ws.draw (W : Ws T H d la lb b Fa es cl ho sv) (D : DeckAt H' d la lb m) (k : Keep (Kc.dk d la) H H') : Ws T H' d la lb m Fa es cl ho sv := W.go ((Go.refl W.dk).draw D k)
theorem Ws.of {H0 : Hp} (g : Go H0 d la lb b H) (n : H0 Fa = none) (F : Fo H Fa es cl ho sv) (t : Tabs T H0) : Ws T H d la lb b Fa es cl ho sv := by
  obtain ⟨o1, o2, _⟩ := g.off n
  exact ⟨g.now, F, o1, o2, g.tabs t⟩
/-- len(four[0]), four[0] and so on -/
theorem Ws.elders (W : Ws T H d la lb b Fa es cl ho sv) : ∃ ae c h xs, H Fa = some (.lst [.ref ae, c, h, .bl sv]) ∧ H ae = some (.tup xs) ∧ xs.length = es.length ∧ TuAll H xs (es.map pdI) ∧ Tu H (.ref ae) (pdE es) ∧ Tu H c (pdI cl) ∧ Tu H h (pdI ho) := by
  obtain ⟨⟨e, c, h, hF, he, hc, hh⟩, _⟩ := W.fo
  obtain ⟨ae, xs, rfl, hae, xl, hA⟩ := tu_elders he
  exact ⟨ae, c, h, xs, hF, hae, xl, hA, he, hc, hh⟩
end
end Kc

set_option Elab.async false
set_option linter.all false
set_option maxRecDepth 100000
set_option maxHeartbeats 4000000
/-! Keys that are tuples of tuples: what stands at a value, its hash, its equality. -/
namespace Kha
open PySem
/-- values that may be keys, over a heap -/
structure HVal (prog : Program) (w : World) (K : Type) [DecidableEq K] where
  is : Heap → K → Value → Prop
  hash : K → Int
  draws : K → Nat
  dep : Nat
  inj : ∀ {h : Heap} {v : Value} {x y : K}, is h x v → is h y v → x = y
  keeps : ∀ {h h' : Heap} {k : K} {v : Value} {d : Addr} {o : Obj} {es ep}, is h k v → h.get? d = some o → o.data = .dict es ep → Heap.SameBut d h h' → is h' k v
  pyHash : ∀ {A : Around} {E : Value → Shared → Prop} {s : Shared} {k : K} {v : Value} {Q : Int → Shared → Prop}, A.units + dep < cLine → is s.heap k v → Q (hash k) { s with toks := s.toks + draws k } →
    wpAny (model prog w) A (PySem.pyHash v) Q E s
  eqBool : ∀ {A : Around} {E : Value → Shared → Prop} {s : Shared} {x y : K} {u v : Value} {Q : Bool → Shared → Prop}, A.units + dep < cLine → is s.heap x u → is s.heap y v → Q (decide (x = y)) s →
    wpAny (model prog w) A (PySem.eqBool u v) Q E s
  quiet : ∀ {A : Around} {E : Value → Shared → Prop} {s : Shared} {k : K} {v : Value} {n : Nat} {Q : Bool → Shared → Prop}, dep ≤ n → is s.heap k v → Q true s → wpAny (model prog w) A (eqIsQuiet n v) Q E s
section
variable {prog : Program} {w : World} {A : Around} {E : Value → Shared → Prop} {s : Shared}
/-- each of these values has this hash, with so many draws -/
inductive Hs (prog : Program) (w : World) (B : Around) (h : Heap) : List Value → List (Int × Nat) → Prop
  | nil : Hs prog w B h [] []
  | cons {v : Value} {vs : List Value} {p : Int × Nat} {ps : List (Int × Nat)} : (∀ (E : Value → Shared → Prop) (s : Shared) (Q : Int → Shared → Prop), s.heap = h → Q p.1 { s with toks := s.toks + p.2 } → wpAny (model prog w) B (PySem.pyHash v) Q E s) → Hs prog w B h vs ps → Hs prog w B h (v :: vs) (p :: ps)
def sumD (ps : List (Int × Nat)) : Nat := (ps.map (·.2)).sum
theorem hash_tup {a : Addr} {o : Obj} {items : Array Value} {n : Nat} {ps : List (Int × Nat)} {Q : Int → Shared → Prop} (hu : A.units < cLine) (ho : s.heap.get? a = some o) (hc : o.cls = .type "tuple") (hd : o.data = .seq items n) (hi : Hs prog w A.in1 s.heap items.toList ps)
    (h : Q (reduceHash (Builtin.Tuple.tupleHashOf (ps.map (·.1)))) { s with toks := s.toks + (sumD ps + 1) }) :
    wpAny (model prog w) A (pyHash (.ref a)) Q E s := by
  have hT : s.TypeIs (.ref a) "tuple" := ⟨o, ho, hc⟩
  unfold pyHash
  first | unfold pyHashByItsType | skip
  first | refine wpAny_bind (wpAny_cRoomFor_or (.inr hu) ?_) | skip
  refine wpAny_bind (wpAny_specialOf hT F.slot_tuple_hash.lookup ?_)
  show wpAny _ _ (if (some (Value.builtin "tuple.__hash__") == some Value.none) = true then _ else _) Q E s
  rw [if_neg (by rw [beq_builtin_none]; exact Bool.false_ne_true)]
  refine wpAny_bind (wpAny_specialOf hT F.slot_tuple_hash.lookup ?_)
  show wpAny _ _ (callSpecialIfBoundUnlessNone? (.ref a) "__hash__" _ >>= _) Q E s
  refine wpAny_bind (wpAny_callSpecialIfBoundUnlessNone?_slot hT F.slot_tuple_hash (wpAny_call_entry F.slot_tuple_hash hT F.entry_tuple_hash ?_ (F.args_tuple_hash_1 _)))
  show wpAny _ _ (Builtin.Tuple.tupleItemsOf (.ref a) >>= _) _ _ s
  refine wpAny_bind (wpAny_tupleItemsOf ho hd ?_)
  refine wpAny_bind ?_
  rw [← Array.forIn_toList]
  refine wpAny_forIn_list _
    (fun rest (b : Array Int) s' => ∃ done left, ps = done ++ left ∧ Hs prog w A.in1 s.heap rest left ∧ b.toList = done.map (·.1) ∧ s' = { s with toks := s.toks + sumD done })
    _ ?_ ?_ _ _ ⟨[], ps, rfl, hi, rfl, rfl⟩
  · rintro x rest b s' ⟨done, left, rfl, hl, hb, rfl⟩
    cases hl with
    | @cons v vs p ps' h1 hl' =>
      refine wpAny_bind (h1 _ _ _ rfl ?_)
      have e : sumD (done ++ [p]) = sumD done + p.2 := by unfold sumD; simp
      first
        | exact wpAny_pure ⟨done ++ [p], ps', by simp, hl', by simp [hb], by rw [e]; simp [Nat.add_assoc]⟩
        | exact wpAny_bind (wpAny_pure (wpAny_pure ⟨done ++ [p], ps', by simp, hl', by simp [hb], by rw [e]; simp [Nat.add_assoc]⟩))
  · rintro b s' ⟨done, left, rfl, hl, hb, rfl⟩
    cases hl
    rw [List.append_nil] at h
    show wpAny _ _ (retInt (Builtin.Tuple.tupleHashOf b.toList)) _ _ _
    rw [hb]
    refine wpAny_ret_mkInt ?_
    show wpAny _ _ (if (decide (-(2 : Int) ^ 63 ≤ Builtin.Tuple.tupleHashOf (done.map (·.1))) && decide (Builtin.Tuple.tupleHashOf (done.map (·.1)) < 2 ^ 63)) = true then _ else _) Q E _
    unfold reduceHash at h
    by_cases hr : (decide (-(2 : Int) ^ 63 ≤ Builtin.Tuple.tupleHashOf (done.map (·.1))) && decide (Builtin.Tuple.tupleHashOf (done.map (·.1)) < 2 ^ 63)) = true
    · rw [if_pos hr]
      rw [if_pos hr] at h
      exact wpAny_pure (by simpa [Nat.add_assoc] using h)
    · rw [if_neg hr]
      rw [if_neg hr] at h
      exact wpAny_bind (wpAny_rule (wpAny_pure (by simpa [Nat.add_assoc] using h)))
/-- each pair of values is equal or not -/
inductive Qs (prog : Program) (w : World) (B : Around) (h : Heap) : List Value → List Value → List Bool → Prop
  | nil {us vs : List Value} : us = [] ∨ vs = [] → Qs prog w B h us vs []
  | cons {u v : Value} {us vs : List Value} {b : Bool} {bs : List Bool} : (∀ (E : Value → Shared → Prop) (s : Shared) (Q : Bool → Shared → Prop), s.heap = h → Q b s → wpAny (model prog w) B (PySem.eqBool u v) Q E s) → Qs prog w B h us vs bs → Qs prog w B h (u :: us) (v :: vs) (b :: bs)
theorem tup_eq {a b : Addr} {oa ob : Obj} {xs ys : Array Value} {na nb : Nat} {bs : List Bool} {P : Fin → Shared → Prop} (hoa : s.heap.get? a = some oa) (hda : oa.data = .seq xs na) (hob : s.heap.get? b = some ob) (hcb : ob.cls = .type "tuple") (hdb : ob.data = .seq ys nb)
    (hq : Qs prog w A s.heap xs.toList ys.toList bs) (h : P (.done (.ret (.bool (bs.all id && (xs.size == ys.size))))) s) :
    wpAny (model prog w) A (Builtin.«tuple.__eq__» ⟨[.ref a, .ref b], []⟩) P E s := by
  have hTb : s.TypeIs (.ref b) "tuple" := ⟨ob, hob, hcb⟩
  show wpAny _ _ (isInstance (.ref b) (.type "tuple") >>= _) _ _ s
  refine wpAny_bind (wpAny_isInstance hTb isSubtype_tuple_tuple ?_)
  simp only [Bool.not_true, Bool.false_eq_true, if_false]
  refine wpAny_bind (wpAny_tupleItemsOf hoa hda ?_)
  refine wpAny_bind (wpAny_tupleItemsOf hob hdb ?_)
  refine wpAny_bind ?_
  refine wpAny_forIn_list _
    (fun rest r s' => r.1 = none ∧ s' = s ∧ ∃ us vs cs, rest = List.zip us vs ∧ Qs prog w A s.heap us vs cs ∧ cs.all id = bs.all id)
    _ ?_ ?_ _ _ ⟨rfl, rfl, xs.toList, ys.toList, bs, rfl, hq, rfl⟩
  · rintro ⟨u, v⟩ rest r s' ⟨hr, rfl, us, vs, cs, hz, hq', hall⟩
    cases hq' with
    | nil e => rcases e with e | e <;> subst e <;> simp at hz
    | @cons u' v' us' vs' c cs' h1 hq'' =>
      simp only [List.zip_cons_cons, List.cons.injEq, Prod.mk.injEq] at hz
      obtain ⟨⟨rfl, rfl⟩, rfl⟩ := hz
      refine wpAny_bind (h1 _ _ _ rfl ?_)
      cases c with
      | true =>
        simp only [Bool.not_true, Bool.false_eq_true, if_false]
        exact wpAny_pure ⟨rfl, rfl, us', vs', cs', rfl, hq'', by rw [← hall]; rfl⟩
      | false =>
        simp only [Bool.not_false, if_true]
        have hf : bs.all id = false := by rw [← hall]; rfl
        rw [hf, Bool.false_and] at h
        exact wpAny_bind (wpAny_pure (wpAny_pure (wpAny_pure h)))
  · rintro ⟨r1, r2⟩ s' ⟨hr, rfl, us, vs, cs, hz, hq', hall⟩
    simp only at hr
    subst hr
    refine wpAny_pure ?_
    cases hq' with
    | nil e =>
      have ha : bs.all id = true := by rw [← hall]; rfl
      rw [ha, Bool.true_and] at h
      exact h
    | cons _ _ => simp at hz
theorem eq_tup {a b : Addr} {oa ob : Obj} {xs ys : Array Value} {na nb : Nat} {bs : List Bool} {r : Bool} {Q : Bool → Shared → Prop} (hu : A.units < cLine) (hoa : s.heap.get? a = some oa) (hca : oa.cls = .type "tuple") (hda : oa.data = .seq xs na) (hob : s.heap.get? b = some ob) (hcb : ob.cls = .type "tuple") (hdb : ob.data = .seq ys nb)
    (hq : Qs prog w A.in1 s.heap xs.toList ys.toList bs) (hr : (bs.all id && (xs.size == ys.size)) = r) (same : a = b → r = true) (h : Q r s) : wpAny (model prog w) A (eqBool (.ref a) (.ref b)) Q E s := by
  unfold eqBool
  try with_reducible refine wpAny_holding ?_
  show wpAny _ _ (if (Value.ref a == Value.ref b) = true then _ else _) Q E s
  by_cases hab : (Value.ref a == Value.ref b) = true
  · rw [if_pos hab]
    have e : a = b := by have := eq_of_beq hab; injection this
    rw [same e] at h
    exact wpAny_bind (wpAny_rule (wpAny_pure h))
  · rw [if_neg hab]
    have hTa : s.TypeIs (.ref a) "tuple" := ⟨oa, hoa, hca⟩
    have hTb : s.TypeIs (.ref b) "tuple" := ⟨ob, hob, hcb⟩
    exact wpAny_bind (wpAny_richCompare_same_room (op := .Eq) hTa hTb F.slot_tuple_eq
      (wpAny_call_entry F.slot_tuple_eq hTa F.entry_tuple_eq (tup_eq hoa hda hob hcb hdb hq ⟨_, rfl, (fun e => nomatch e), wpAny_truthy_bool (by rw [hr]; exact h)⟩) (F.args_tuple_eq_2 _ _)) hu)
theorem quiet_tup {a : Addr} {o : Obj} {items : Array Value} {n m : Nat} {Q : Bool → Shared → Prop} (ho : s.heap.get? a = some o) (hc : o.cls = .type "tuple") (hd : o.data = .seq items m)
    (hi : ∀ v ∈ items.toList, ∀ (E : Value → Shared → Prop) (s' : Shared) (Q : Bool → Shared → Prop), s'.heap = s.heap → Q true s' → wpAny (model prog w) A (eqIsQuiet n v) Q E s') (h : Q true s) : wpAny (model prog w) A (eqIsQuiet (n + 1) (.ref a)) Q E s := by
  have hT : s.TypeIs (.ref a) "tuple" := ⟨o, ho, hc⟩
  unfold eqIsQuiet
  refine wpAny_bind (wpAny_specialOf hT F.slot_tuple_eq.lookup ?_)
  show wpAny _ _ (isInstance (.ref a) (.type "tuple") >>= _) _ _ s
  refine wpAny_bind (wpAny_isInstance hT isSubtype_tuple_tuple ?_)
  simp only [Bool.not_true, Bool.false_eq_true, if_false]
  refine wpAny_bind (wpAny_seqItems ho hd ?_)
  refine wpAny_bind ?_
  show wpAny _ _ (forIn items _ _) _ _ s
  rw [← Array.forIn_toList]
  refine wpAny_forIn_list _ (fun rest r s' => r.1 = none ∧ s' = s ∧ ∀ v ∈ rest, v ∈ items.toList) _ ?_ ?_ _ _ ⟨rfl, rfl, fun v hv => hv⟩
  · rintro v rest r s' ⟨hr, rfl, hall⟩
    refine wpAny_bind (hi v (hall v List.mem_cons_self) _ _ _ rfl ?_)
    simp only [Bool.not_true, Bool.false_eq_true, if_false]
    exact wpAny_pure ⟨rfl, rfl, fun u hu' => hall u (List.mem_cons_of_mem _ hu')⟩
  · rintro ⟨r1, r2⟩ s' ⟨hr, rfl, _⟩
    simp only at hr
    subst hr
    exact wpAny_pure h
end
/-! ### whole numbers, tuples, pairs -/
section
variable {prog : Program} {w : World}
def natV (prog : Program) (w : World) : HVal prog w Nat where
  is := fun _ k v => (L2.mixKind prog w).is (.inl ((k : Nat) : Int)) v = true
  hash := fun k => (L2.mixKind prog w).hash (.inl ((k : Nat) : Int))
  draws := fun _ => 1
  dep := 0
  inj := fun hx hy => by
    have := Sum.inl.inj ((L2.mixKind prog w).inj _ _ _ hx hy)
    omega
  keeps := fun h _ _ _ => h
  pyHash := fun _ h q => (L2.mixKind prog w).pyHash h q
  eqBool := fun {A E s x y u v Q} _ hx hy q => (L2.mixKind prog w).eqBool hx hy (by
    have e : decide ((Sum.inl ((x : Nat) : Int) : L2.Key) = .inl ((y : Nat) : Int)) = decide (x = y) := by
      by_cases c : x = y
      · subst c; simp
      · rw [decide_eq_false c, decide_eq_false (fun z => c (by have := Sum.inl.inj z; omega))]
    rw [e]; exact q)
  quiet := fun {A E s k v n Q} _ h q => by
    rw [eqIsQuiet_byValue n ((L2.mixKind prog w).byValue _ _ h)]
    exact wpAny_pure q
section
variable {K : Type} [DecidableEq K] (κ : HVal prog w K)
inductive Items : Heap → List K → List Value → Prop
  | nil {h : Heap} : Items h [] []
  | cons {h : Heap} {k : K} {v : Value} {ks : List K} {vs : List Value} : κ.is h k v → Items h ks vs → Items h (k :: ks) (v :: vs)
variable {κ}
theorem Items.length {h : Heap} {ks : List K} {vs : List Value} (x : Items κ h ks vs) : ks.length = vs.length := by
  induction x with
  | nil => rfl
  | cons _ _ ih => simp [ih]
theorem Items.inj {h : Heap} {x y : List K} {vs : List Value} (hx : Items κ h x vs) (hy : Items κ h y vs) : x = y := by
  induction hx generalizing y with
  | nil => cases hy; rfl
  | cons h1 _ ih =>
    cases hy with
    | cons h2 t2 => rw [κ.inj h1 h2, ih t2]
theorem Items.keeps {h h' : Heap} {ks : List K} {vs : List Value} {d : Addr} {o : Obj} {es ep} (x : Items κ h ks vs) (ho : h.get? d = some o) (hd : o.data = .dict es ep) (hs : Heap.SameBut d h h') : Items κ h' ks vs := by
  induction x with
  | nil => exact .nil
  | cons h1 _ ih => exact .cons (κ.keeps h1 ho hd hs) ih
theorem Items.hashes {B : Around} {h : Heap} (hb : B.units + κ.dep < cLine) {ks : List K} {vs : List Value} (x : Items κ h ks vs) : Hs prog w B h vs (ks.map fun k => (κ.hash k, κ.draws k)) := by
  induction x with
  | nil => exact .nil
  | cons h1 _ ih => exact .cons (fun E s Q e q => κ.pyHash hb (by rw [e]; exact h1) q) ih
def eqs : List K → List K → List Bool
  | x :: xs, y :: ys => decide (x = y) :: eqs xs ys
  | _, _ => []
theorem eqs_all : ∀ x y : List K, ((eqs x y).all id && (x.length == y.length)) = decide (x = y)
  | [], [] => by simp [eqs]
  | [], _ :: _ => by simp [eqs]
  | _ :: _, [] => by simp [eqs]
  | a :: x, b :: y => by
    have z := eqs_all x y
    by_cases c : a = b
    · subst c
      simp only [eqs, List.all_cons, id, decide_true, Bool.true_and, List.length_cons]
      rw [show ((x.length + 1 == y.length + 1) = (x.length == y.length)) by simp, z]
      simp
    · simp [eqs, c]
theorem Items.equals {B : Around} {h : Heap} (hb : B.units + κ.dep < cLine) : ∀ {x y : List K} {us vs : List Value}, Items κ h x us → Items κ h y vs → Qs prog w B h us vs (eqs x y)
  | [], _, _, _, .nil, _ => by unfold eqs; exact .nil (.inl rfl)
  | _ :: _, [], _, _, .cons _ _, .nil => by unfold eqs; exact .nil (.inr rfl)
  | _ :: _, _ :: _, _, _, .cons h1 r1, .cons h2 r2 => .cons (fun E s Q e q => κ.eqBool hb (by rw [e]; exact h1) (by rw [e]; exact h2) q) (Items.equals hb r1 r2)
theorem Items.quiets {A : Around} {h : Heap} {n : Nat} (hn : κ.dep ≤ n) {ks : List K} {vs : List Value} (x : Items κ h ks vs) : ∀ v ∈ vs, ∀ (E : Value → Shared → Prop) (s' : Shared) (Q : Bool → Shared → Prop), s'.heap = h → Q true s' → wpAny (model prog w) A (eqIsQuiet n v) Q E s' := by
  induction x with
  | nil => intro v hv; cases hv
  | cons h1 _ ih =>
    intro v hv E s' Q e q
    rcases List.mem_cons.mp hv with rfl | hv
    · exact κ.quiet hn (by rw [e]; exact h1) q
    · exact ih v hv E s' Q e q
/-- what stands at a tuple -/
def TupAt (h : Heap) (v : Value) (items : List Value) : Prop := ∃ a o its n, v = .ref a ∧ h.get? a = some o ∧ o.cls = .type "tuple" ∧ o.data = .seq its n ∧ its.toList = items
theorem TupAt.inj {h : Heap} {v : Value} {x y : List Value} (hx : TupAt h v x) (hy : TupAt h v y) : x = y := by
  obtain ⟨a, o, its, n, rfl, ho, _, hd, rfl⟩ := hx
  obtain ⟨a', o', its', n', e, ho', _, hd', rfl⟩ := hy
  injection e with e
  subst e
  obtain rfl : o = o' := Option.some.inj (ho.symm.trans ho')
  rw [hd] at hd'
  injection hd' with h1 _
  rw [h1]
theorem TupAt.keeps {h h' : Heap} {v : Value} {x : List Value} {d : Addr} {o : Obj} {es ep} (t : TupAt h v x) (ho : h.get? d = some o) (hd : o.data = .dict es ep) (hs : Heap.SameBut d h h') : TupAt h' v x := by
  obtain ⟨a, o', its, n, rfl, ho', hc, hd', e⟩ := t
  have hne : a ≠ d := by
    rintro rfl
    obtain rfl : o' = o := Option.some.inj (ho'.symm.trans ho)
    rw [hd] at hd'; exact nomatch hd'
  exact ⟨a, o', its, n, rfl, (hs.2 a hne).trans ho', hc, hd', e⟩
end
def tupV {K : Type} [DecidableEq K] (κ : HVal prog w K) : HVal prog w (List K) where
  is := fun h ks v => ∃ vs, TupAt h v vs ∧ Items κ h ks vs
  hash := fun ks => reduceHash (Builtin.Tuple.tupleHashOf (ks.map κ.hash))
  draws := fun ks => (ks.map κ.draws).sum + 1
  dep := κ.dep + 1
  inj := fun ⟨vs, t1, i1⟩ ⟨us, t2, i2⟩ => by
    have e := t1.inj t2
    subst e
    exact i1.inj i2
  keeps := fun ⟨vs, t, i⟩ ho hd hs => ⟨vs, t.keeps ho hd hs, i.keeps ho hd hs⟩
  pyHash := fun {A E s k v Q} hu ⟨vs, ⟨a, o, its, n, e, ho, hc, hd, e2⟩, i⟩ q => by
    subst e
    have hb : A.in1.units + κ.dep < cLine := by show A.units + 1 + κ.dep < cLine; omega
    refine hash_tup (by omega) ho hc hd (by rw [e2]; exact i.hashes hb) ?_
    rw [List.map_map]
    have e3 : sumD (k.map fun k => (κ.hash k, κ.draws k)) = (k.map κ.draws).sum := by unfold sumD; rw [List.map_map]; rfl
    rw [e3]
    exact q
  eqBool := fun {A E s x y u v Q} hu ⟨us, ⟨a, oa, xs, na, e, hoa, hca, hda, ex⟩, ix⟩ ⟨vs, ⟨b, ob, ys, nb, f, hob, hcb, hdb, ey⟩, iy⟩ q => by
    subst e
    subst f
    have hb : A.in1.units + κ.dep < cLine := by show A.units + 1 + κ.dep < cLine; omega
    refine eq_tup (by omega) hoa hca hda hob hcb hdb (by rw [ex, ey]; exact ix.equals hb iy) (r := decide (x = y)) ?_ ?_ q
    · rw [← eqs_all x y]
      have l1 : x.length = xs.size := by rw [ix.length, ← ex]; simp
      have l2 : y.length = ys.size := by rw [iy.length, ← ey]; simp
      rw [l1, l2]
    · intro e
      subst e
      have e1 : us = vs := TupAt.inj (h := s.heap) (v := .ref a) ⟨a, oa, xs, na, rfl, hoa, hca, hda, ex⟩ ⟨a, ob, ys, nb, rfl, hob, hcb, hdb, ey⟩
      subst e1
      rw [ix.inj iy]; simp
  quiet := fun {A E s k v n Q} hn ⟨vs, ⟨a, o, its, m, e, ho, hc, hd, e2⟩, i⟩ q => by
    subst e
    obtain ⟨n', rfl⟩ : ∃ n', n = n' + 1 := ⟨n - 1, by omega⟩
    exact quiet_tup ho hc hd (by rw [e2]; exact i.quiets (by omega)) q
def pairV {K L : Type} [DecidableEq K] [DecidableEq L] (κ : HVal prog w K) (l : HVal prog w L) : HVal prog w (K × L) where
  is := fun h p v => ∃ u1 u2, TupAt h v [u1, u2] ∧ κ.is h p.1 u1 ∧ l.is h p.2 u2
  hash := fun p => reduceHash (Builtin.Tuple.tupleHashOf [κ.hash p.1, l.hash p.2])
  draws := fun p => κ.draws p.1 + l.draws p.2 + 1
  dep := κ.dep + l.dep + 1
  inj := fun {h v x y} ⟨u1, u2, t1, i1, i2⟩ ⟨w1, w2, t2, j1, j2⟩ => by
    have e := t1.inj t2
    injection e with e1 e
    injection e with e2 _
    subst e1
    subst e2
    exact Prod.ext (κ.inj i1 j1) (l.inj i2 j2)
  keeps := fun ⟨u1, u2, t, i1, i2⟩ ho hd hs => ⟨u1, u2, t.keeps ho hd hs, κ.keeps i1 ho hd hs, l.keeps i2 ho hd hs⟩
  pyHash := fun {A E s k v Q} hu ⟨u1, u2, ⟨a, o, its, n, e, ho, hc, hd, e2⟩, i1, i2⟩ q => by
    subst e
    have hb1 : A.in1.units + κ.dep < cLine := by show A.units + 1 + κ.dep < cLine; omega
    have hb2 : A.in1.units + l.dep < cLine := by show A.units + 1 + l.dep < cLine; omega
    refine hash_tup (ps := [(κ.hash k.1, κ.draws k.1), (l.hash k.2, l.draws k.2)]) (by omega) ho hc hd (by rw [e2]; exact .cons (fun E s Q e q => κ.pyHash hb1 (by rw [e]; exact i1) q) (.cons (fun E s Q e q => l.pyHash hb2 (by rw [e]; exact i2) q) .nil)) ?_
    have e3 : sumD [(κ.hash k.1, κ.draws k.1), (l.hash k.2, l.draws k.2)] = κ.draws k.1 + l.draws k.2 := by unfold sumD; simp
    rw [e3]
    exact q
  eqBool := fun {A E s x y u v Q} hu ⟨u1, u2, ⟨a, oa, xs, na, e, hoa, hca, hda, ex⟩, i1, i2⟩ ⟨v1, v2, ⟨b, ob, ys, nb, f, hob, hcb, hdb, ey⟩, j1, j2⟩ q => by
    subst e
    subst f
    have hb1 : A.in1.units + κ.dep < cLine := by show A.units + 1 + κ.dep < cLine; omega
    have hb2 : A.in1.units + l.dep < cLine := by show A.units + 1 + l.dep < cLine; omega
    refine eq_tup (by omega) hoa hca hda hob hcb hdb (bs := [decide (x.1 = y.1), decide (x.2 = y.2)]) (by rw [ex, ey]; exact .cons (fun E s Q e q => κ.eqBool hb1 (by rw [e]; exact i1) (by rw [e]; exact j1) q) (.cons (fun E s Q e q => l.eqBool hb2 (by rw [e]; exact i2) (by rw [e]; exact j2) q) (.nil (.inl rfl)))) (r := decide (x = y)) ?_ ?_ q
    · have l1 : xs.size = 2 := by rw [← Array.length_toList, ex]; rfl
      have l2 : ys.size = 2 := by rw [← Array.length_toList, ey]; rfl
      rw [l1, l2]
      obtain ⟨x1, x2⟩ := x
      obtain ⟨y1, y2⟩ := y
      by_cases c1 : x1 = y1 <;> by_cases c2 : x2 = y2 <;> simp [c1, c2]
    · intro e
      subst e
      have e1 : [u1, u2] = [v1, v2] := TupAt.inj (h := s.heap) (v := .ref a) ⟨a, oa, xs, na, rfl, hoa, hca, hda, ex⟩ ⟨a, ob, ys, nb, rfl, hob, hcb, hdb, ey⟩
      injection e1 with e1 e2
      injection e2 with e2 _
      subst e1
      subst e2
      have : x = y := Prod.ext (κ.inj i1 j1) (l.inj i2 j2)
      rw [this]; simp
  quiet := fun {A E s k v n Q} hn ⟨u1, u2, ⟨a, o, its, m, e, ho, hc, hd, e2⟩, i1, i2⟩ q => by
    subst e
    obtain ⟨n', rfl⟩ : ∃ n', n = n' + 1 := ⟨n - 1, by omega⟩
    refine quiet_tup ho hc hd (fun v hv E s' Q e q => ?_) q
    rw [e2] at hv
    rcases List.mem_cons.mp hv with rfl | hv
    · exact κ.quiet (by omega) (by rw [e]; exact i1) q
    · rw [List.mem_singleton.mp hv]; exact l.quiet (by omega) (by rw [e]; exact i2) q
/-- keys of a dict -/
def HVal.kind {K : Type} [DecidableEq K] (κ : HVal prog w K) (h8 : κ.dep ≤ 8) : HeapKind prog w K where
  is := fun h k a => κ.is h k (.ref a)
  hash := κ.hash
  draws := κ.draws
  room := fun A => A.units + κ.dep < cLine
  inj := fun hx hy => κ.inj hx hy
  keeps := fun h ho hd hs => κ.keeps h ho hd hs
  pyHash := fun hu h q => κ.pyHash hu h q
  eqBool := fun hu hx hy q => κ.eqBool hu hx hy q
  quiet := fun h q => κ.quiet h8 h q
abbrev Case := List Nat × Nat
/-- tuples of pairs of a tuple of whole numbers and a whole number -/
def casesV (prog : Program) (w : World) : HVal prog w (List Case) := tupV (pairV (tupV (natV prog w)) (natV prog w))
def casesK (prog : Program) (w : World) : HeapKind prog w (List Case) := (casesV prog w).kind (by show 3 ≤ 8; decide)
end
end Kha

set_option Elab.async false
set_option linter.all false
set_option maxRecDepth 100000
set_option maxHeartbeats 4000000
/-! A dict of truths whose keys are tuples of truths: put, walked. -/
namespace Kf
open PySem PySem.Spec PyProof.Rows L2 Kg Kd Kha
def boolV (prog : Program) (w : World) : HVal prog w Bool where
  is := fun _ k v => v = .bool k
  hash := PpSet.hB
  draws := fun _ => 1
  dep := 0
  inj := fun {h v x y} hx hy => by rw [hx] at hy; exact Value.bool.inj hy
  keeps := fun h _ _ _ => h
  pyHash := fun {A E s k v Q} _ h q => by subst h; exact PpSet.pyHash_bool q
  eqBool := fun {A E s x y u v Q} _ hx hy q => by
    subst hx
    subst hy
    refine SeqAt.EqAt.bool_bool x y _ _ _ _ ?_
    rw [show (x == y) = decide (x = y) from rfl]
    exact q
  quiet := fun {A E s k v n Q} _ h q => by
    subst h
    rw [eqIsQuiet_byValue n rfl]
    exact wpAny_pure q
def placeK (prog : Program) (w : World) : HeapKind prog w (List Bool) := (tupV (boolV prog w)).kind (by show 1 ≤ 8; decide)
section
variable {P : Program} {w : World} {H : Hp} {h : Heap}
theorem bools_is : ∀ {l : List Bool} {us : List Value}, Vals (l.map V.bl) us → Items (boolV P w) h l us
  | [], _, r => by rw [List.map_nil] at r; cases r; exact .nil
  | n :: l, _, r => by
    rw [List.map_cons] at r
    cases r with
    | cons a t => exact .cons a (bools_is t)
theorem place_is (I : HOk P w H h) {a : Addr} {l : List Bool} (ha : H a = some (.tup (l.map V.bl))) : (placeK P w).is h l a := by
  obtain ⟨_, its, rv, o, ho, hc, n, hd⟩ := (show ObjOk P w H h a (.tup (l.map V.bl)) from I a _ ha)
  exact ⟨its, ⟨a, o, _, n, rfl, ho, hc, hd, by simp⟩, bools_is rv⟩
end
abbrev EnB := List Bool × Addr × Value
def OwnB (P : Program) (w : World) (a : Addr) (xs : List EnB) (h : Heap) : Prop :=
  ∃ o es ep, h.get? a = some o ∧ o.ExactDict ∧ o.data = .dict es ep ∧ es.toList = xs.map (entryOfKey (placeK P w)) ∧ (xs.map (·.1)).Nodup
theorem ownB_ok {P : Program} {w : World} {H : Hp} {h : Heap} {a : Addr} {xs : List EnB} (o : OwnB P w a xs h) : ObjOk P w H h a (.ext (OwnB P w a xs)) := by
  refine ⟨o, ?_, fun h1 h2 ⟨o, es, ep, e, c⟩ k => ⟨o, es, ep, k _ e, c⟩⟩
  obtain ⟨o, _, _, e, _⟩ := o
  exact ⟨o, e⟩
/-- the dict at a has these places for keys -/
def DctB (P : Program) (w : World) (H : Hp) (a : Addr) (ks : List (List Bool)) : Prop :=
  (a == sysModules) = false ∧ ∃ xs : List EnB, H a = some (.ext (OwnB P w a xs)) ∧ xs.map (·.1) = ks ∧ ks.Nodup ∧ ∀ x ∈ xs, H x.2.1 = some (.tup (x.1.map V.bl))
/-- one place more -/
def putB (ks : List (List Bool)) (k : List Bool) : List (List Bool) := if k ∈ ks then ks else ks ++ [k]
theorem putB_mem {ks : List (List Bool)} {k p : List Bool} : p ∈ putB ks k ↔ p ∈ ks ∨ p = k := by
  unfold putB
  split
  · rename_i c
    exact ⟨.inl, fun z => z.elim (fun x => x) fun e => e ▸ c⟩
  · simp
theorem storedB {xs : List EnB} {k : List Bool} {b : Addr} {v : Value} : (storedH xs k b v).map (·.1) = putB (xs.map (·.1)) k := by
  unfold storedH putB
  have e : (atKey xs k).isSome = decide (k ∈ xs.map (·.1)) := by
    unfold atKey
    rw [Option.isSome_map]
    cases c : (xs.find? fun p => decide (p.1 = k)).isSome with
    | true =>
      obtain ⟨x, hx⟩ := Option.isSome_iff_exists.mp c
      symm
      rw [decide_eq_true_iff]
      have h2 := List.find?_some hx
      exact List.mem_map.mpr ⟨x, List.mem_of_find?_eq_some hx, by simpa using h2⟩
    | false =>
      symm
      rw [decide_eq_false_iff_not]
      intro hm
      obtain ⟨x, hx, e⟩ := List.mem_map.mp hm
      have : (xs.find? fun p => decide (p.1 = k)).isSome = true := List.find?_isSome.mpr ⟨x, hx, by simp [e]⟩
      rw [c] at this
      cases this
  rw [e]
  by_cases c : k ∈ xs.map (·.1)
  · rw [if_pos (decide_eq_true c), if_pos c, List.map_map]
    refine List.map_congr_left fun x _ => ?_
    show (putAt k v x).1 = x.1
    unfold putAt
    split <;> rfl
  · rw [if_neg (by rw [decide_eq_false c]; exact Bool.false_ne_true), if_neg c, List.map_append]; rfl
theorem storedB_mem {xs : List EnB} {k : List Bool} {b : Addr} {v : Value} {x : EnB} (hx : x ∈ storedH xs k b v) : (∃ y ∈ xs, y.1 = x.1 ∧ y.2.1 = x.2.1) ∨ (x.1 = k ∧ x.2.1 = b) := by
  unfold storedH at hx
  split at hx
  · obtain ⟨y, hy, rfl⟩ := List.mem_map.mp hx
    refine .inl ⟨y, hy, ?_⟩
    unfold putAt
    split <;> exact ⟨rfl, rfl⟩
  · rcases List.mem_append.mp hx with hx | hx
    · exact .inl ⟨x, hx, rfl, rfl⟩
    · rw [List.mem_singleton.mp hx]; exact .inr ⟨rfl, rfl⟩
section
variable {P : Program} {w : World} {H H' : Hp} {h : Heap} {a : Addr} {ks : List (List Bool)}
theorem DctB.new {p : Addr} (np : (p == sysModules) = false) : DctB P w (upd H p (.ext (OwnB P w p []))) p [] := ⟨np, [], upd_same, rfl, List.nodup_nil, fun x hx => by (cases hx)⟩
theorem DctB.same (m : DctB P w H a ks) (s : Same H H') : DctB P w H' a ks := by
  obtain ⟨n, xs, e, d, nd, q⟩ := m
  exact ⟨n, xs, s _ _ e, d, nd, fun x hx => s _ _ (q x hx)⟩
theorem dictB_of (I : HOk P w H h) {xs : List EnB} (e : H a = some (.ext (OwnB P w a xs))) (q : ∀ x ∈ xs, H x.2.1 = some (.tup (x.1.map V.bl))) : h.DictOfH (placeK P w) a xs := by
  obtain ⟨⟨o, es, ep, h1, h2, h3, h4, h5⟩, _, _⟩ := (show ObjOk P w H h a (.ext (OwnB P w a xs)) from I a _ e)
  exact ⟨o, es, ep, h1, h2, h3, h4, fun x hx => place_is I (q x hx), h5⟩
end
section
variable {X : Cx} {o i e value : Expr} {pos pos' tpos : Pos} {td ty tv : TE}
def tBNew (P : Program) (w : World) : TE := fun _ H Q => ∀ p, H p = none → (p == sysModules) = false → Q (.ref p) (upd H p (.ext (OwnB P w p [])))
theorem pe_bnew : PE X (.Dict [] [] pos) (tBNew X.prog X.w) := ⟨fun pins s σ H Q I h =>
  wpAny_Dict_empty ⟨.ref s.heap.objs.size, _, I.laid (a := s.heap.objs.size) (o := .ext (OwnB X.prog X.w s.heap.objs.size [])) (t' := s.toks) (fun _ _ q => Heap.get?_push_of_some _ q) (Nat.le_refl _)
    (ownB_ok ⟨_, #[], 0, Heap.get?_push_size _ rfl, ⟨rfl, rfl, rfl⟩, rfl, rfl, List.nodup_nil⟩), rfl,
    h _ (I.hok.fresh (Nat.le_refl _)) (beq_eq_false_iff_ne.mpr (Ne.symm (Nat.ne_of_lt I.big)))⟩⟩
/-- found[place] = a truth -/
def sBPut (P : Program) (w : World) (td ty tv : TE) : TS := fun D σ H => tv σ H fun v H1 => td σ H1 fun x H2 => ty σ H2 fun y H3 => ∃ a ks b k t, x = .ref a ∧ DctB P w H3 a ks ∧ y = .ref b ∧ H3 b = some (.tup (k.map V.bl)) ∧ ks.length ≤ 900 ∧ v = .bl t ∧
  ∀ H4, (∀ c o, H3 c = some o → c ≠ a → H4 c = some o) → KF H3 H4 → DctB P w H4 a (putB ks k) → D.nx σ H4
theorem ps_bput (hu : X.A.units + 4 < cLine) (ho : PE X o td) (hi : PE X i ty) (hv : PE X value tv) (hs : swapsWith value (some (.Subscript o i pos')) pos.line X.env = pure false) :
    PS X (.Assign [.Subscript o i pos'] value pos) (sBPut X.prog X.w td ty tv) := by
  refine ⟨fun pins s σ H D I h => ?_⟩
  refine wpAny_Assign_Subscript (thn (hv.run pins s σ H _ I h) fun r s1 ⟨v, H1, I1, rv, q1⟩ => thn (ho.run pins s1 σ H1 _ I1 q1) fun u s2 ⟨x, H2, I2, rx, q2⟩ => thn (hi.run pins s2 σ H2 _ I2 q2) fun iv s3 ⟨y, H3, I3, ry, a, ks, b, k, t, ex, ⟨na, xs, ea, ek, nd, ok⟩, eb, hb, hl, ev, q3⟩ => ?_) hs
  subst ex
  subst ev
  subst eb
  subst ek
  obtain rfl : u = Value.ref a := rx
  obtain rfl : iv = Value.ref b := ry
  have hb' : X.A.in1.units + 3 < cLine := by show X.A.units + 1 + 3 < cLine; omega
  have dd := dictB_of I3.hok ea ok
  rw [List.length_map] at hl
  have hz : xs.length ≤ sizeLine := Nat.le_of_lt (small1000 (by omega))
  refine wpAny_setItem_heap (knd := placeK X.prog X.w) (hsz := hz) (by show X.A.in1.units + 1 < cLine; omega) (place_is I3.hok hb) dd fun h' dd' hs' => ?_
  obtain ⟨ob, es, ep, hq, h2, h3, h4, h6, h5⟩ := dd'
  have ow : OwnB X.prog X.w a (storedH xs k b r) h' := ⟨ob, es, ep, hq, h2, h3, h4, h5⟩
  have kf : KF H3 (upd H3 a (.ext (OwnB X.prog X.w a (storedH xs k b r)))) := KF.put ea (fun z => z)
  have nda : (putB (xs.map (·.1)) k).Nodup := by rw [← storedB (b := b) (v := r)]; exact h5
  refine ⟨σ, _, d_write I3 (by rw [ea]; exact True.intro) hs' ⟨ob, hq⟩ (ownB_ok ow), q3 _ (fun c o z ne => by rw [upd_ne ne]; exact z) kf ⟨na, _, upd_same, storedB, nda, fun x hx => ?_⟩⟩
  have tk : ∀ c l, H3 c = some (.tup l) → upd H3 a (.ext (OwnB X.prog X.w a (storedH xs k b r))) c = some (.tup l) := fun c l z => by
    rw [upd_ne (ne_of z ea (by intro y; cases y))]; exact z
  rcases storedB_mem hx with ⟨y, hy, e1, e2⟩ | ⟨e1, e2⟩
  · rw [← e1, ← e2]; exact tk _ _ (ok y hy)
  · rw [e1, e2]; exact tk _ _ hb
end
/-! ### walked -/
/-- the very object -/
def LkB (d : Addr) (o : Obj) (h : Heap) : Prop := h.get? d = some o
def ItB (d : Addr) (o : Obj) (xs : List EnB) : It :=
  ⟨fun i H => H d = some (.ext (LkB d o)) ∧ i < xs.length, fun i H x H' => H' = H ∧ ∃ y, xs[i]? = some y ∧ x = .ref y.2.1, fun i H => H d = some (.ext (LkB d o)) ∧ xs.length ≤ i⟩
theorem turn_keysB {P : Program} {w : World} {K : PySem.W.Frag} {tg : Expr} {d : Addr} {o : Obj} {es : Array DictEntry} {ep : Nat} {xs : List EnB} (it : Addr) (hod : o.data = .dict es ep) (hes : es.toList = xs.map (entryOfKey (placeK P w))) :
    Turn P w K tg (ItB d o xs) [it] it (fun i h => h.IsKeyIter it d i xs.length ep) where
  mem := by simp
  obj := fun i h st b hb => by
    have e : b = it := by simpa using hb
    subst e
    obtain ⟨oi, e, c, dd⟩ := st
    exact ⟨oi, e, fun v z => by rw [dd] at z; cases z⟩
  keep := fun i h h' st k => st.at fun oi e => k it (by simp) oi e
  item := by
    intro X hP hw hK hc i pins s σ H E I hf st hg
    subst hP hw hK
    obtain ⟨hd, hi⟩ := hg
    obtain ⟨f0, f1, f2, f3, f4, f5⟩ := hf it (by simp)
    obtain ⟨hgd, _, _⟩ := (show ObjOk X.prog X.w H s.heap d (.ext (LkB d o)) from I.hok d _ hd)
    obtain ⟨y, hy⟩ : ∃ p, xs[i]? = some p := ⟨xs[i], List.getElem?_eq_getElem hi⟩
    have hsz : es.size = xs.length := by rw [← Array.length_toList, hes, List.length_map]
    have hen : es[i]? = some (entryOfKey (placeK X.prog X.w) y) := by
      rw [← Array.getElem?_toList, hes, List.getElem?_map, hy]; rfl
    refine next_key_item st hgd hod hsz hen fun h' st' sb => ?_
    have I1 : Inv X pins σ H { s with heap := h' } := I.turned (t' := s.toks) (fun b ob hb e => (sb.2 b hb).trans e) f0 f1 f3 f4 f5
    obtain ⟨oi, e, c, dd⟩ := id st'
    exact ⟨_, rfl, go_of (s := { s with heap := h' }) e c dd (by decide) ⟨.ref y.2.1, H, I1, rfl, ⟨rfl, y, hy, rfl⟩, st', fun b hb => (hf b hb).1⟩⟩
  done := by
    intro X hP hw hK hc i pins s σ H E I hf st hg
    subst hP hw hK
    obtain ⟨hd, hi⟩ := hg
    obtain ⟨f0, f1, f2, f3, f4, f5⟩ := hf it (by simp)
    obtain ⟨hgd, _, _⟩ := (show ObjOk X.prog X.w H s.heap d (.ext (LkB d o)) from I.hok d _ hd)
    have hsz : es.size = xs.length := by rw [← Array.length_toList, hes, List.length_map]
    exact next_key_end (I.ok.hd hc) st hgd hod hsz hi fun h' eb => ⟨rfl, I.turned (t' := s.toks) (fun b ob hb e => eb b ob hb e) f0 f1 f3 f4 f5⟩
  self := fun A i s Q E st h => by
    refine wpAny_pyIter_slot st.typeIs PySem.F.slot_dict_keyiterator_iter (wpAny_call_entry PySem.F.slot_dict_keyiterator_iter st.typeIs PySem.F.entry_dict_keyiterator_iter ?_ (PySem.F.args_dict_keyiterator_iter_1 _))
    show wpAny _ _ (ret (.ref it)) _ _ s
    exact wpAny_pure ⟨_, rfl, "dict_keyiterator", _, st.typeIs, PySem.F.slot_dict_keyiterator_next.lookup, h⟩
/-- for place in found: the dict is locked from here on -/
def iBKeys (P : Program) (w : World) (td : TE) : TI := fun σ H R => td σ H fun x H1 => ∃ d ks, x = .ref d ∧ DctB P w H1 d ks ∧
  ∀ (o : Obj) (xs : List EnB), xs.map (·.1) = ks → (∀ x ∈ xs, H1 x.2.1 = some (.tup (x.1.map V.bl))) → (∃ φ, H1 d = some (.ext φ)) → R (ItB d o xs) (upd H1 d (.ext (LkB d o)))
theorem pi_bkeys {X : Cx} {tg e : Expr} {td : TE} (he : PE X e td) : PI X tg e (iBKeys X.prog X.w td) := by
  refine ⟨fun pins s σ H R I h => ?_⟩
  refine thn (he.run pins s σ H _ I h) fun u s1 ⟨x, H1, I1, rx, d, ks, ex, ⟨na, xs, ea, ek, nd, ok⟩, q⟩ => ?_
  subst ex
  obtain rfl : u = Value.ref d := rx
  obtain ⟨⟨o, es, ep, h1, h2, h3, h4, h5⟩, _, _⟩ := (show ObjOk X.prog X.w H1 s1.heap d (.ext (OwnB X.prog X.w d xs)) from I1.hok d _ ea)
  have I2 : Inv X pins σ (upd H1 d (.ext (LkB d o))) s1 := by
    have z := d_write (h' := s1.heap) (t' := s1.toks) (ob := .ext (LkB d o)) I1 (by rw [ea]; exact True.intro) ⟨rfl, fun _ _ => rfl⟩ ⟨o, h1⟩ ⟨h1, ⟨o, h1⟩, fun h1 h2 z k => k _ z⟩
    exact z
  have hsz : es.size = xs.length := by rw [← Array.length_toList, h4, List.length_map]
  refine iter_keys na h1 h2 h3 (pi_one (tk := s1.toks) I2 _ (turn_keysB _ h3 h4) ⟨_, Heap.get?_push_size _ rfl, rfl, ?_⟩ (q o xs ek ok ⟨_, ea⟩))
  rw [hsz] <;> rfl
theorem walk_keysB {d : Addr} {o : Obj} {xs : List EnB} : Walk (ItB d o xs) xs.length (fun H => H d = some (.ext (LkB d o))) (fun i H x H' => H' = H ∧ ∃ y, xs[i]? = some y ∧ x = .ref y.2.1) :=
  ⟨fun _ _ hi q => ⟨q, hi⟩, fun _ q => ⟨q, Nat.le_refl _⟩, fun _ _ _ _ _ _ y => y⟩
end Kf

set_option Elab.async false
set_option linter.all false
set_option maxRecDepth 100000
set_option maxHeartbeats 4000000
/-! Places put in order; a dict of places among tables. -/
namespace Kf
open PySem PySem.Spec PyProof.Rows L2 Kg Kd LamX
theorem lexB_trans : ∀ {p q r : List Bool}, lexB p q = true → lexB q r = true → lexB p r = true
  | [], _, _, h, _ => by simp [lexB] at h
  | _ :: _, [], _, h, _ => by simp [lexB] at h
  | _ :: _, _ :: _, [], _, h => by simp [lexB] at h
  | a :: p, b :: q, c :: r, h1, h2 => by
    have h1' : (if a = b then lexB p q else a) = true := h1
    have h2' : (if b = c then lexB q r else b) = true := h2
    show (if a = c then lexB p r else a) = true
    cases a <;> cases b <;> cases c <;> simp_all
    · exact lexB_trans h1 h2
    · exact lexB_trans h1 h2
theorem pltB_trans {p q r : List Bool} (h1 : pltB p q = true) (h2 : pltB q r = true) : pltB p r = true := by
  unfold pltB at *
  rcases Bool.or_eq_true_iff.mp h1 with a | a <;> rcases Bool.or_eq_true_iff.mp h2 with b | b
  · have a := of_decide_eq_true a
    have b := of_decide_eq_true b
    rw [decide_eq_true (by omega)]; rfl
  · have a := of_decide_eq_true a
    have b := of_decide_eq_true (Bool.and_eq_true_iff.mp b).1
    rw [decide_eq_true (by omega)]; rfl
  · have a := of_decide_eq_true (Bool.and_eq_true_iff.mp a).1
    have b := of_decide_eq_true b
    rw [decide_eq_true (by omega)]; rfl
  · obtain ⟨a1, a2⟩ := Bool.and_eq_true_iff.mp a
    obtain ⟨b1, b2⟩ := Bool.and_eq_true_iff.mp b
    have a1 := of_decide_eq_true a1
    have b1 := of_decide_eq_true b1
    rw [decide_eq_true (show p.length = r.length by omega), lexB_trans a2 b2]; simp
theorem pltB_irr {p : List Bool} : pltB p p = false := by
  cases c : pltB p p with
  | false => rfl
  | true => have := pltB_asym c; rw [c] at this; cases this
/-- rows with their places, put in order -/
def srtB (ts : List (V × List Bool)) : List (V × List Bool) := ts.mergeSort fun a b => !pltB b.2 a.2
theorem srt_data (ts : List (V × List Bool)) : ((ts.map fun x => (x.1, keyPD x.2)).mergeSort (PySem.W.dataLe false (·.2))).map (·.1) = (srtB ts).map (·.1) := by
  have e : (ts.mergeSort fun a b => !pltB b.2 a.2).map (fun x => (x.1, keyPD x.2)) = (ts.map fun x => (x.1, keyPD x.2)).mergeSort (PySem.W.dataLe false (·.2)) := by
    refine List.map_mergeSort fun a _ b _ => ?_
    rw [PySem.W.dataLe_eq]
    show (!pltB b.2 a.2) = !PySem.W.dataLt (keyPD b.2) (keyPD a.2)
    rw [key_lt]
  rw [← e, List.map_map]
  rfl
theorem srt_ord {ts : List (V × List Bool)} (nd : (ts.map (·.2)).Nodup) : ((srtB ts).map (·.2)).Pairwise (fun p q => pltB p q = true) := by
  have tot : ∀ a b : V × List Bool, (!pltB b.2 a.2 || !pltB a.2 b.2) = true := fun a b => by
    cases c : pltB b.2 a.2 with
    | false => rfl
    | true => rw [pltB_asym c]; rfl
  have tra : ∀ a b c : V × List Bool, (!pltB b.2 a.2) = true → (!pltB c.2 b.2) = true → (!pltB c.2 a.2) = true := fun a b c h1 h2 => by
    rw [Bool.not_eq_true'] at h1 h2 ⊢
    cases z : pltB c.2 a.2 with
    | false => rfl
    | true =>
      cases y : pltB a.2 b.2 with
      | true => rw [pltB_trans z y] at h2; cases h2
      | false =>
        have e := pltB_tot y h1
        rw [e, h2] at z; cases z
  have pw := List.pairwise_mergeSort tra tot ts
  have pm := (List.mergeSort_perm ts (fun a b => !pltB b.2 a.2)).map (·.2)
  have nd2 := pm.nodup_iff.mpr nd
  rw [List.Nodup, List.pairwise_map] at nd2
  rw [List.pairwise_map]
  refine (pw.and nd2).imp fun {a b} z => ?_
  have z1 := z.1
  rw [Bool.not_eq_true'] at z1
  cases y : pltB a.2 b.2 with
  | true => rfl
  | false => exact absurd (pltB_tot y z1) z.2
theorem srt_mem {ts : List (V × List Bool)} (x : V × List Bool) : x ∈ srtB ts ↔ x ∈ ts := (List.mergeSort_perm ts _).mem_iff
theorem dep_bools : ∀ p : List Bool, PyData.depthAll (p.map .bool) = 0
  | [] => rfl
  | b :: p => by
    show max (PyData.depth (.bool b)) (PyData.depthAll (p.map .bool)) = 0
    rw [dep_bools p]; rfl
theorem dep_ints0 : ∀ p : List Int, PyData.depthAll (p.map .int) = 0
  | [] => rfl
  | b :: p => by
    show max (PyData.depth (.int b)) (PyData.depthAll (p.map .int)) = 0
    rw [dep_ints0 p]; rfl
theorem dep_key (p : List Bool) : (keyPD p).depth = 2 := by
  show max 0 (max (PyData.depthAll ((bitsB p).map .int) + 1) (max (PyData.depthAll (p.map .bool) + 1) 0)) + 1 = 2
  rw [dep_bools, dep_ints0]
  rfl
theorem dep_places : ∀ ps : List (List Bool), PyData.depthAll (ps.map placeD) ≤ 1
  | [] => Nat.zero_le _
  | p :: ps => by
    show max (PyData.depthAll (p.map .bool) + 1) (PyData.depthAll (ps.map placeD)) ≤ 1
    have := dep_places ps
    rw [dep_bools]; omega
theorem dp_bools {K : PySem.W.Frag} {H : Hp} : ∀ p : List Bool, DpAll K H (p.map V.bl) (p.map .bool)
  | [] => .nil
  | b :: p => .cons (.bl b) (dp_bools p)
theorem dp_ints0 {K : PySem.W.Frag} {H : Hp} : ∀ p : List Int, DpAll K H (p.map V.int) (p.map .int)
  | [] => .nil
  | b :: p => .cons (.int b) (dp_ints0 p)
/-- a row of the law: how long, the sides as numbers, the place -/
def RowB (H : Hp) (v : V) (p : List Bool) : Prop := ∃ t l b, v = .ref t ∧ H t = some (.tup [.int ((p.length : Nat) : Int), .ref l, .ref b]) ∧ H l = some (.lst ((bitsB p).map V.int)) ∧ H b = some (.tup (p.map V.bl))
theorem RowB.same {H H' : Hp} {v : V} {p : List Bool} (h : RowB H v p) (s : Same H H') : RowB H' v p := by
  obtain ⟨t, l, b, e, h1, h2, h3⟩ := h
  exact ⟨t, l, b, e, s _ _ h1, s _ _ h2, s _ _ h3⟩
theorem RowB.dp {K : PySem.W.Frag} {H : Hp} {v : V} {p : List Bool} (h : RowB H v p) : Dp K H v (keyPD p) := by
  obtain ⟨t, l, b, rfl, h1, h2, h3⟩ := h
  exact .tup (SqT.of h1) (.cons (.int _) (.cons (.lst (SqL.of h2) (dp_ints0 _)) (.cons (.tup (SqT.of h3) (dp_bools _)) .nil)))
/-! ### among tables -/
theorem code_ne_own {P : Program} {w : World} {a : Addr} {q : Str} {xs : List EnB} : CodeO a q ≠ .ext (OwnB P w a xs) := by
  intro e
  unfold CodeO at e
  injection e with e
  let oc : Obj := { cls := .none, data := .fields #[.none, .str q 0] }
  let h : Heap := { objs := Array.replicate (a + 1) oc }
  have hg : h.get? a = some oc := by
    show (match (Array.replicate (a + 1) oc)[a]? with | some ⟨_, _, .freed, _⟩ => none | o => o) = some oc
    rw [Array.getElem?_replicate, if_pos (Nat.lt_succ_self a)]
  have z := congrFun e h
  have y : OwnB P w a xs h := by
    rw [← z]
    exact ⟨oc, _, 0, hg, rfl, rfl⟩
  obtain ⟨o, es, ep, h1, _, h3, _⟩ := y
  rw [hg] at h1
  cases h1
  cases h3
theorem tabs_bput {P : Program} {w : World} {T : List (Addr × Str)} {H H' : Hp} {a : Addr} {xs : List EnB} (h : H a = some (.ext (OwnB P w a xs))) (k : ∀ c o, H c = some o → c ≠ a → H' c = some o) (t : Tabs T H) : Tabs T H' := by
  intro p hp
  obtain ⟨ps, h1, h2, h3⟩ := t p hp
  refine ⟨ps, k _ _ h1 (fun z => by rw [z, h] at h1; cases h1), h2, fun pos cv hc => ?_⟩
  obtain ⟨c, e1, e2⟩ := h3 pos cv hc
  refine ⟨c, e1, k _ _ e2 fun z => ?_⟩
  subst z
  rw [h] at e2
  exact code_ne_own (Option.some.inj e2).symm
end Kf

set_option Elab.async false
set_option linter.all false
set_option maxRecDepth 100000
set_option maxHeartbeats 8000000
namespace Kc
open PySem PySem.Spec PyProof.Rows L2 Kg Kd Kr Kf Kl LamX
abbrev sLaw : Stmt := topS 47
abbrev nLaw : List Str := ["_law_script", "_law_deck_here", "_law_turn", "_law_four_here", "_law_kinds", "_law_tree_here", "_law_found", "_law_lot_here", "_law_place", "_law_ordered", "_law_side", "_law_row"]
theorem scLaw : FnScope nLaw ["_law_script"] (defScope sLaw) := ⟨rfl, rfl, rfl, by decide +kernel, rfl, by decide +kernel, by decide +kernel⟩
abbrev scIn16 : Scope := { kind := .function, names := [(".0", .local), ("_law_place", .local), ("len", .globalImplicit)], isGenerator := false, isCoroutine := false }
structure LE (P : Program) (w : World) (K : PySem.W.Frag) (mg : Str → Option Value) (base : Heap) (T : List (Addr × Str)) (C : Addr) : Prop where
  B : Bl mg
  M : Bm mg
  deck : Cal P w K mg base "_law_deck" 1 ["_law_script"] (spDeck K)
  next : Cal P w K mg base "_law_next" 1 ["_law_deck_here", "_law_many"] spNext
  same : CalG P w K mg base "_law_same" 7 ["_law_found", "_law_due"] (spSame 7)
  four : Cal P w K mg base "_law_four" 3 ["_law_deck_here", "_law_most"] spFour
  made : Cal P w K mg base "_law_made" 9 ["_law_four_here"] (spMade C)
  lotsL : Cal P w K mg base "_law_lots" 2 ["_law_four_here"] spLots
  tree : Cal P w K mg base "_law_tree" 5 psTree (spTree 4)
  long : Cal P w K mg base "_law_long" 2 psLong spLong
  ways : Cal P w K mg base "_law_ways" 1 psWys spWys
  rpl : Cal P w K mg base "reached_places" 7 ["kinds", "tree"] (spRpl T C)
abbrev XL (P : Program) (w : World) (K : PySem.W.Frag) (mg : Str → Option Value) (base : Heap) (f : Addr) (cdv : Value) (A : Around) (out : List Env) (s : Shared) (H : Hp) : Cx := (cxOf CX0 P w K mg base nLaw "law" (defScope sLaw) f cdv A out s H E0).nox
def forBody (s : Stmt) : List Stmt := match s with
  | .For _ _ b _ _ => b
  | _ => []
def turnS (i : Nat) : Stmt := (forBody ((defBody sLaw).getD 1 (.Pass ⟨0, 0, 0, 0⟩))).getD i (.Pass ⟨0, 0, 0, 0⟩)
abbrev SL (va : V) (d Fa p : Addr) (v : V) (a : Addr) (y2 y7 y8 y9 y10 y11 : Option V) : L2.St := [some va, some (.ref d), y2, some (.ref Fa), some (.ref p), some v, some (.ref a), y7, y8, y9, y10, y11]
structure Tn (T : List (Addr × Str)) (C : Addr) (H : Hp) (d la lb : Addr) (b : Nat) (Fa p : Addr) (v : V) (es : List (List Nat)) (cl ho : List Nat) (sv : Bool) (t : Tr) : Prop where
  ws : Ws T H d la lb b Fa es cl ho sv
  ko : KO C H p es cl ho sv
  tv : Tu H v t.d
  ts : t.size ≤ 12
section
variable {T : List (Addr × Str)} {C : Addr} {H H' : Hp} {d la lb a : Addr} {b m : Nat} {Fa p : Addr} {v : V} {es : List (List Nat)} {cl ho : List Nat} {sv : Bool} {t : Tr} {φ : Heap → Prop}
theorem Tn.gr (x : Tn T C H d la lb b Fa p v es cl ho sv t) (g : Gr T H H') : Tn T C H' d la lb b Fa p v es cl ho sv t := ⟨x.ws.gr g, x.ko.keep g.kf, g.tu x.tv, x.ts⟩
theorem Tn.same (x : Tn T C H d la lb b Fa p v es cl ho sv t) (s : Same H H') : Tn T C H' d la lb b Fa p v es cl ho sv t := x.gr (.of s)
theorem Tn.put (x : Tn T C H d la lb b Fa p v es cl ho sv t) (ha : H a = some (.ext φ)) (k : ∀ c o, H c = some o → c ≠ a → H' c = some o) (kf : KF H H') (tb : Tabs T H') : Tn T C H' d la lb b Fa p v es cl ho sv t := by
  obtain ⟨⟨dk, fo, n1, n2, _⟩, ko, tv, ts⟩ := x
  obtain ⟨e0, c0, h0, xs0, hF0, _⟩ := Ws.elders ⟨dk, fo, n1, n2, ‹_›⟩
  obtain ⟨⟨xs, ys, u, h1, h2, h3, h4⟩, m1, m2, m3⟩ := dk
  refine ⟨⟨⟨⟨xs, ys, u, k _ _ h1 (ne_of h1 ha (by intro y; cases y)), k _ _ h2 (ne_of h2 ha (by intro y; cases y)), k _ _ h3 (ne_of h3 ha (by intro y; cases y)), h4⟩, m1, m2, m3⟩, fo.keep kf fun _ z => k _ _ z (ne_of hF0 ha (by intro y; cases y)), n1, n2, tb⟩, ko.keep kf, tv.keep kf, ts⟩
end
theorem ways_short : ∀ (t : Tr) (l : List Nat) {p : List Bool}, p ∈ waysT t l → p.length ≤ t.size
  | .ans _, _, p, h => by rw [List.mem_singleton.mp h]; exact Nat.zero_le _
  | .tst k y n, l, p, h => by
    have h' : p ∈ ([] : List Bool) :: (if k ∈ l then (waysT y l).map (true :: ·) else (waysT n l).map (false :: ·)) := h
    rcases List.mem_cons.mp h' with e | e
    · rw [e]; exact Nat.zero_le _
    · show p.length ≤ 1 + y.size + n.size
      by_cases c : k ∈ l
      · rw [if_pos c] at e
        obtain ⟨r, hr, rfl⟩ := List.mem_map.mp e
        have := ways_short y l hr
        show r.length + 1 ≤ _
        omega
      · rw [if_neg c] at e
        obtain ⟨r, hr, rfl⟩ := List.mem_map.mp e
        have := ways_short n l hr
        show r.length + 1 ≤ _
        omega
/-- a row whose list is not the one under way -/
def RowD (D : Addr) (H : Hp) (v : V) (p : List Bool) : Prop := ∃ t l b, v = .ref t ∧ l ≠ D ∧ H t = some (.tup [.int ((p.length : Nat) : Int), .ref l, .ref b]) ∧ H l = some (.lst ((bitsB p).map V.int)) ∧ H b = some (.tup (p.map V.bl))
theorem RowD.row {D : Addr} {H : Hp} {v : V} {p : List Bool} (h : RowD D H v p) : RowB H v p := by
  obtain ⟨t, l, b, e, _, h⟩ := h
  exact ⟨t, l, b, e, h⟩
/-- a long tree, at times -/
def tLn (T : List (Addr × Str)) (C : Addr) : TS := fun D σ H => ∃ (va : V) (d la lb Fa p a : Addr) (b : Nat) (v : V) (t : Tr) (y2 y7 y8 y9 y10 y11 : Option V) (es : List (List Nat)) (cl ho : List Nat) (sv : Bool), σ = SL va d Fa p v a y2 y7 y8 y9 y10 y11 ∧ Tn T C H d la lb (b + 60) Fa p v es cl ho sv t ∧
  ∀ (H' : Hp) (v : V) (t : Tr), Go H d la lb b H' → Tn T C H' d la lb b Fa p v es cl ho sv t → D.nx (SL va d Fa p v a y2 y7 y8 y9 y10 y11) H'
/-- all the places -/
def tFd (P : Program) (w : World) (T : List (Addr × Str)) (C : Addr) : TS := fun D σ H => ∃ (va : V) (d la lb Fa p a : Addr) (b : Nat) (v : V) (t : Tr) (y2 y7 y8 y9 y10 y11 : Option V) (es : List (List Nat)) (cl ho : List Nat) (sv : Bool), σ = SL va d Fa p v a y2 y7 y8 y9 y10 y11 ∧ Tn T C H d la lb b Fa p v es cl ho sv t ∧ DctB P w H a [] ∧
  ∀ (H' : Hp) (y7 y8 : Option V) (ls ks : List (List _)), Tn T C H' d la lb b Fa p v es cl ho sv t → IsLots es cl ho sv ls → DctB P w H' a ks → ks.length ≤ 900 → (∀ p, p ∈ ks ↔ ∃ l ∈ ls, p ∈ waysT t l) → D.nx (SL va d Fa p v a y2 y7 y8 y9 y10 y11) H'
/-- in their order -/
def tOr (P : Program) (w : World) (T : List (Addr × Str)) (C : Addr) : TS := fun D σ H => ∃ (va : V) (d la lb Fa p a : Addr) (b : Nat) (v : V) (t : Tr) (y2 y7 y8 y9 y10 y11 : Option V) (es : List (List Nat)) (cl ho : List Nat) (sv : Bool) (ks : List (List Bool)), σ = SL va d Fa p v a y2 y7 y8 y9 y10 y11 ∧ Tn T C H d la lb b Fa p v es cl ho sv t ∧ DctB P w H a ks ∧ ks.length ≤ 900 ∧ (∀ p ∈ ks, p.length ≤ 100) ∧
  ∀ (H' : Hp) (S : Addr) (ts : List (V × List Bool)), Tn T C H' d la lb b Fa p v es cl ho sv t → H' S = some (.lst (ts.map (·.1))) → (∀ x ∈ ts, RowB H' x.1 x.2) → (ts.map (·.2)).Pairwise (fun p q => pltB p q = true) → (∀ p, p ∈ ts.map (·.2) ↔ p ∈ ks) → ts.length ≤ 900 → D.nx (SL va d Fa p v a y2 y7 y8 (some (.ref S)) y10 y11) H'
section
variable {P : Program} {w : World} {K : PySem.W.Frag} {mg : Str → Option Value} {base : Heap} {T : List (Addr × Str)} {C f : Addr} {cdv : Value} {A : Around} {out : List Env} {s : Shared} {H0 : Hp}
theorem segL (hr : Room 40 (XL P w K mg base f cdv A out s H0).A) (E : LE P w K mg base T C) : PS (XL P w K mg base f cdv A out s H0) (turnS 2) (tLn T C) := by
  have hr1 := hr.mono (show 1 ≤ 40 by decide)
  have hr2 := hr.mono (show 2 ≤ 40 by decide)
  refine ps_imp (ps_if (pt_cmpR op_eq (pe_cal E.next hr1 (by rfl) (pa_cons (pv 1) (pa_cons pe_int pa_nil))) pe_int (nomark _)) (pss_one (ps_set (i := 5) scLaw.nd rfl (.inl rfl) (pe_cal E.long hr2 (by rfl) (pa_cons (pv 1) (pa_cons (pe_callB call_len_seq (by rfl) E.B.len PySem.boot_len (pa_cons (pe_ix ix_list (pv 3) pe_int (fun _ _ => rfl)) pa_nil)) (pa_cons (pe_op op_add pe_int (pe_cal E.next hr1 (by rfl) (pa_cons (pv 1) (pa_cons pe_int pa_nil)))) pa_nil)))))) pss_nil) (fun D σ H h => ?_)
  obtain ⟨va, d, la, lb, Fa, p, a, b, v, t, y2, y7, y8, y9, y10, y11, es, cl, ho, sv, rfl, x, nx⟩ := h
  have n1 : 1 ≤ es.length := x.ws.fo.el.lo
  have n6 := x.ws.fo.el.hi
  refine ⟨_, rfl, d, la, lb, 3, b + 59, rfl, by decide, by decide, x.ws.dk, fun r H1 r0 r1 D1 k1 => ⟨rfl, _, rfl, ?_⟩⟩
  have g1 := (Go.refl x.ws.dk).draw D1 k1
  refine ite2 (fun _ => ?_) (fun _ => ?_)
  · have W1 := x.ws.go g1
    obtain ⟨ae, ce, ho0, xs, hF0, hae, xl, hA, te, tc, th⟩ := W1.elders
    refine ⟨_, rfl, _, rfl, Fa, _, 0, .ref ae, rfl, rfl, SqL.of hF0, atI_nat (j := 0) rfl, ae, xs, rfl, .inr (SqT.of hae), ?_⟩
    rw [xl]
    refine ⟨_, rfl, d, la, lb, 9, b + 58, rfl, by decide, by decide, g1.now, fun r2 H2 r20 r21 D2 k2 => ⟨4, r2, rfl, rfl, ?_⟩⟩
    have g2 := g1.draw D2 k2
    obtain ⟨m, rfl⟩ : ∃ m : Nat, r2 = (m : Nat) := ⟨r2.toNat, by omega⟩
    refine ⟨d, la, lb, es.length, 4 + m, b, (by show [V.ref d, V.int (es.length : Nat), V.int (4 + ((m : Nat) : Int))] = _; rw [show (4 : Int) + ((m : Nat) : Int) = ((4 + m : Nat) : Int) by omega]), n1, n6, by omega, g2.now.less (by omega), fun H3 v3 t3 g3 tv3 to3 ts3 => ?_⟩
    have g13 := g2.trans g3
    exact nx H3 v3 t3 g13 ⟨x.ws.go g13, x.ko.keep g13.kf, tv3, by omega⟩
  · have g := g1.less (show b ≤ b + 59 by omega)
    exact nx H1 v t g ⟨x.ws.go g, x.ko.keep g.kf, x.tv.keep g.kf, x.ts⟩
theorem segF (hr : Room 40 (XL P w K mg base f cdv A out s H0).A) (E : LE P w K mg base T C) : PS (XL P w K mg base f cdv A out s H0) (turnS 3) (tFd P w T C) := by
  have hr1 := hr.mono (show 1 ≤ 40 by decide)
  have hr2 := hr.mono (show 2 ≤ 40 by decide)
  refine ps_imp (ps_for PassesOwn.never rfl (pi_list (pe_cal E.lotsL hr2 (by rfl) (pa_cons (pv 3) pa_nil))) (pg_name (i := 7) scLaw.nd rfl (.inl rfl))
    (pss_one (ps_for PassesOwn.never rfl (pi_list (pe_cal E.ways hr1 (by rfl) (pa_cons (pv 5) (pa_cons (pv 7) pa_nil)))) (pg_name (i := 8) scLaw.nd rfl (.inl rfl))
      (pss_one (ps_bput (by have := hr.units; omega) (pv 6) (pv 8) pe_bl rfl))))) (fun D σ H h => ?_)
  obtain ⟨va, d, la, lb, Fa, p, a, b, v, t, y2, y7, y8, y9, y10, y11, es, cl, ho, sv, rfl, x, dc, nx⟩ := h
  have n6 := x.ws.fo.el.hi
  refine ⟨_, rfl, Fa, es, cl, ho, sv, rfl, x.ws.fo, fun H1 q ls us s1 nq hq uq il => ?_⟩
  have l63 := il.len63 n6
  have ul : us.length = ls.length := by rw [uq.length, List.length_map]
  refine ⟨q, rfl, ⟨_, SqL.of hq⟩, for_list (K := K) (a := q) (xs := us) (fun i σ H2 => ∃ (y7 y8 : Option V) (ks : List (List Bool)), σ = SL va d Fa p v a y2 y7 y8 y9 y10 y11 ∧ Tn T C H2 d la lb b Fa p v es cl ho sv t ∧ H2 q = some (.lst us) ∧ TuAll H2 us (ls.map pdI) ∧ DctB P w H2 a ks ∧ ks.length ≤ 13 * i ∧ ∀ p, p ∈ ks ↔ ∃ l ∈ ls.take i, p ∈ waysT t l)
    ⟨y7, y8, [], rfl, x.same s1, hq, uq, dc.same s1, Nat.le_refl _, fun p => by simp⟩ (fun i σ H2 _ pp => by obtain ⟨_, _, _, _, _, z, _⟩ := pp; exact SqL.of z) (fun i u σ H2 hu pp => ?_) (fun σ H2 pp => ?_)⟩
  · obtain ⟨z7, z8, ks, rfl, x2, hq2, uq2, dc2, kl, km⟩ := pp
    obtain ⟨dd, hd, td⟩ := uq2.get hu
    obtain ⟨l, hl, rfl⟩ := map_get hd
    obtain ⟨al, rfl, hal, all⟩ := tu_inv td
    have hi := (List.getElem?_eq_some_iff.mp hl).1
    have tk : ls.take (i + 1) = ls.take i ++ [l] := by rw [List.take_add_one, hl]; rfl
    refine ⟨_, rfl, _, rfl, v, al, t, l, rfl, x2.tv, hal, by have := x2.ts; omega, fun H3 r xs s3 hr3 pr => ?_⟩
    have wl := ways_len t l
    have xl := pr.length
    refine ⟨r, rfl, ⟨_, SqL.of hr3⟩, for_list (K := K) (a := r) (xs := xs) (fun j σ H4 => ∃ (y8 : Option V) (ks : List (List Bool)), σ = SL va d Fa p v a y2 (some (.ref al)) y8 y9 y10 y11 ∧ Tn T C H4 d la lb b Fa p v es cl ho sv t ∧ H4 q = some (.lst us) ∧ TuAll H4 us (ls.map pdI) ∧ H4 r = some (.lst xs) ∧ Paired (PlAt H4) xs (waysT t l) ∧ DctB P w H4 a ks ∧ ks.length ≤ 13 * i + j ∧ ∀ p, p ∈ ks ↔ (∃ l ∈ ls.take i, p ∈ waysT t l) ∨ p ∈ (waysT t l).take j)
      ⟨z8, ks, rfl, x2.same s3, s3 _ _ hq2, uq2.keep (.of_same s3), hr3, pr, dc2.same s3, kl, fun p => by rw [km p]; simp⟩ (fun j σ H4 _ pp => by obtain ⟨_, _, _, _, _, _, z, _⟩ := pp; exact SqL.of z) (fun j y σ H4 hy pp => ?_) (fun σ H4 pp => ?_)⟩
    · obtain ⟨w8, ks4, rfl, x4, hq4, uq4, hr4, pr4, dc4, kl4, km4⟩ := pp
      obtain ⟨pc, hp, pl, rfl, hpl⟩ := prd_get pr4 hy
      have hj := (List.getElem?_eq_some_iff.mp hp).1
      have tsz := x4.ts
      refine ⟨_, rfl, _, rfl, a, ks4, pl, pc, true, rfl, dc4, rfl, hpl, by omega, rfl, fun H5 kp kf dc5 => ?_⟩
      obtain ⟨na, en, ea, _⟩ := id dc4
      have tb5 := tabs_bput ea kp x4.ws.tb
      refine ⟨_, putB ks4 pc, rfl, x4.put ea kp kf tb5, kp _ _ hq4 (ne_of hq4 ea (by intro y; cases y)), uq4.keep kf, kp _ _ hr4 (ne_of hr4 ea (by intro y; cases y)), Paired.mapP pr4 fun x y h => ?_, dc5, ?_, fun p => ?_⟩
      · obtain ⟨z, e, h⟩ := h
        exact ⟨z, e, kp _ _ h (ne_of h ea (by intro y; cases y))⟩
      · unfold putB
        split
        · omega
        · rw [List.length_append]; show ks4.length + 1 ≤ _; omega
      · rw [putB_mem, km4 p, List.take_add_one, hp]
        simp [or_assoc]
    · obtain ⟨w8, ks4, rfl, x4, hq4, uq4, hr4, pr4, dc4, kl4, km4⟩ := pp
      have tsz := x4.ts
      rw [xl, List.take_length] at km4
      refine ⟨_, _, ks4, rfl, x4, hq4, uq4, dc4, by omega, fun p => ?_⟩
      rw [km4 p, tk]
      simp [or_and_right, exists_or]
  · obtain ⟨z7, z8, ks, rfl, x2, hq2, uq2, dc2, kl, km⟩ := pp
    rw [ul, List.take_length] at km
    exact nx H2 z7 z8 ls ks x2 il dc2 (by omega) km
theorem segO (hr : Room 40 (XL P w K mg base f cdv A out s H0).A) (E : LE P w K mg base T C) : PS (XL P w K mg base f cdv A out s H0) (turnS 4) (tOr P w T C) := by
  refine ps_imp (ps_set (i := 9) scLaw.nd rfl (.inl rfl) (pe_callB (cr_sortD (by have := hr.units; omega)) (by rfl) E.M.sorted (by decide +kernel) (pa_cons (pe_lc (own := [("_law_place", 8)]) (g := (gName 8)) rfl scLaw.nd (pi_bkeys (pv 6))
        (blkOk_by (N := nLaw) (sc := defScope sLaw) (by decide +kernel)) (fun _ _ _ _ _ => (pg_name (i := 8) scLaw.nd rfl (.inl rfl))) (fun _ _ _ _ _ => pts_nil)
        (fun _ _ _ _ _ => (pe_tup (pa_cons (pe_callB (call_lenK (K := K) rfl) (by rfl) E.B.len PySem.boot_len (pa_cons (pv 8) pa_nil)) (pa_cons (pe_lc (own := [("_law_side", 10)]) (g := (gName 10)) rfl scLaw.nd (pi_tupK (K := K) rfl (pv 8))
        (blkOk_by (N := nLaw) (sc := scIn16) (by decide +kernel)) (fun _ _ _ _ _ => (pg_name (i := 10) scLaw.nd rfl (.inl rfl))) (fun _ _ _ _ _ => pts_nil)
        (fun _ _ _ _ _ => (pe_callTy call_int1 (by rfl) E.B.int PyProof.Rows.boot_int (pa_cons (pe_not (pv 10)) pa_nil)))) (pa_cons (pv 8) pa_nil)))))) pa_nil))) (fun D σ H h => ?_)
  obtain ⟨va, d, la, lb, Fa, p, a, b, v, t, y2, y7, y8, y9, y10, y11, es, cl, ho, sv, ks, rfl, x, dc, k900, k100, nx⟩ := h
  refine ⟨_, rfl, a, ks, rfl, dc, fun o xs ex hx he D1 nD1 => ?_⟩
  obtain ⟨na, en, ea, _⟩ := id dc
  have kp : ∀ c u, H c = some u → c ≠ a → upd H a (.ext (LkB a o)) c = some u := fun c u z ne => by rw [upd_ne ne]; exact z
  have xL := x.put ea kp (KF.put ea (fun z => z)) (tabs_bput ea kp x.ws.tb)
  have hLk := upd_same (H := H) (a := a) (o := HO.ext (LkB a o))
  have hxL : ∀ y ∈ xs, upd H a (.ext (LkB a o)) y.2.1 = some (.tup (y.1.map V.bl)) := fun y hy => kp _ _ (hx y hy) (ne_of (hx y hy) ea (by intro y; cases y))
  generalize (upd H a (.ext (LkB a o))) = HL at xL hLk hxL nD1
  refine lc_it (walk_keysB (d := a) (o := o) (xs := xs)) (fun i H1 => ∃ ts : List (V × List Bool), Same HL H1 ∧ H1 D1 = some (.lst (ts.map (·.1))) ∧ (∀ x ∈ ts, RowD D1 H1 x.1 x.2) ∧ ts.map (·.2) = ks.take i) ⟨[], same_new nD1, upd_same, fun p hp => (nomatch hp), rfl⟩ (fun i H1 _ pp => by obtain ⟨_, z, _⟩ := pp; exact z _ _ hLk) (fun i y H1 H2 hi pp yy => ?_) (fun H1 pp => ?_)
  · obtain ⟨ts, s1, hD, hts, te⟩ := pp
    obtain ⟨rfl, e, hy, rfl⟩ := yy
    have hk : ks[i]? = some e.1 := by rw [← ex, List.getElem?_map, hy]; rfl
    have hm := List.mem_of_getElem? hk
    have l100 := k100 _ hm
    have hb := s1 _ _ (hxL e (List.mem_of_getElem? hy))
    have tl : ts.length ≤ 900 := by
      have := congrArg List.length te
      rw [List.length_map, List.length_take] at this
      omega
    refine ⟨rfl, _, rfl, e.2.1, _, rfl, .inr (SqT.of hb), _, rfl, e.2.1, rfl, ⟨_, SqT.of hb⟩, fun D2 nD2 => ?_⟩
    refine lc_tup (K := K) (a := e.2.1) (xs := e.1.map V.bl) (fun j H3 => Same H2 H3 ∧ H3 D2 = some (.lst ((bitsB (e.1.take j)).map V.int))) ⟨same_new nD2, upd_same⟩ (fun j H3 _ pp => SqT.of (pp.1 _ _ hb)) (fun j z H3 hz pp => ?_) (fun H3 pp => ?_)
    · obtain ⟨s3, hD2⟩ := pp
      obtain ⟨c, hc, rfl⟩ := map_get hz
      have hj := (List.getElem?_eq_some_iff.mp hc).1
      have eb : bitsB (e.1.take (j + 1)) = bitsB (e.1.take j) ++ [bitB c] := by
        unfold bitsB
        rw [List.take_add_one, hc, List.map_append]; rfl
      refine ⟨rfl, _, rfl, _, rfl, .inr ⟨_, rfl, _, hD2, small1000 ?_, fun b o z => ?_, ?_⟩⟩
      · unfold bitsB
        rw [List.length_map, List.length_map, List.length_take]; omega
      · rw [upd_ne (ne_of_none z nD2)]; exact s3 _ _ z
      · rw [upd_same, eb, List.map_append]
        cases c <;> rfl
    · obtain ⟨s3, hD2⟩ := pp
      rw [List.length_map, List.take_length] at hD2
      refine ⟨_, rfl, (by rw [sizeLine_eq]; decide : 3 ≤ sizeLine), fun tt nT => ?_⟩
      have s4 := same_new (o := HO.tup [V.int (((e.1.map V.bl).length : Nat) : Int), V.ref D2, V.ref e.2.1]) nT
      have s14 := s3.trans s4
      have hD4 := s14 _ _ hD
      have ht4 := upd_same (H := H3) (a := tt) (o := HO.tup [V.int (((e.1.map V.bl).length : Nat) : Int), V.ref D2, V.ref e.2.1])
      have hD24 := s4 _ _ hD2
      have hb4 := s14 _ _ hb
      have n12 : D2 ≠ D1 := fun z => by rw [z, hD] at nD2; cases nD2
      generalize (upd H3 tt (HO.tup [V.int (((e.1.map V.bl).length : Nat) : Int), V.ref D2, V.ref e.2.1])) = H4 at s4 s14 hD4 ht4 hD24 hb4 ⊢
      have neT : ∀ {c : Addr} {vs : List V}, H4 c = some (.tup vs) → c ≠ D1 := fun z => ne_of z hD4 (by intro y; cases y)
      have keep : ∀ x : V × List Bool, x ∈ ts → RowD D1 (upd H4 D1 (.lst (ts.map (·.1) ++ [V.ref tt]))) x.1 x.2 := fun x hx => by
        obtain ⟨t1, l1, b1, e1, m1, h1, h2, h3⟩ := hts x hx
        exact ⟨t1, l1, b1, e1, m1, by rw [upd_ne (neT (s14 _ _ h1))]; exact s14 _ _ h1, by rw [upd_ne m1]; exact s14 _ _ h2, by rw [upd_ne (neT (s14 _ _ h3))]; exact s14 _ _ h3⟩
      refine ⟨_, hD4, ?_, ts ++ [(V.ref tt, e.1)], fun bb u z => ?_, ?_, fun y hy' => ?_, ?_⟩
      · rw [List.length_map]; exact small1000 (by omega)
      · rw [upd_ne (ne_of_none z nD1)]; exact s14 _ _ (s1 _ _ z)
      · rw [upd_same, List.map_append]; rfl
      · rcases List.mem_append.mp hy' with z | z
        · exact keep y z
        · rw [List.mem_singleton.mp z]
          refine ⟨tt, D2, e.2.1, rfl, n12, ?_, ?_, ?_⟩
          · rw [upd_ne (neT ht4), ht4, List.length_map]
          · rw [upd_ne n12]; exact hD24
          · rw [upd_ne (neT hb4)]; exact hb4
      · rw [List.map_append, te, List.take_add_one, hk]; rfl
  · obtain ⟨ts, s1, hD, hts, te⟩ := pp
    have xl : xs.length = ks.length := by rw [← ex, List.length_map]
    rw [xl, List.take_length] at te
    have tl : ts.length = ks.length := by rw [← te, List.length_map]
    refine ⟨D1, ts.map fun x => (x.1, keyPD x.2), rfl, SqL.of (by rw [List.map_map]; exact hD), fun z hz => ?_, ?_, .inl fun z hz => ?_, by rw [List.length_map]; omega, fun S nS => ?_⟩
    · obtain ⟨y, hy, rfl⟩ := List.mem_map.mp hz
      exact ⟨(hts y hy).row.dp, by rw [dep_key]; decide⟩
    · intro z1 h1 z2 h2
      rw [List.map_map] at h1 h2
      obtain ⟨a1, _, rfl⟩ := List.mem_map.mp h1
      obtain ⟨a2, _, rfl⟩ := List.mem_map.mp h2
      exact alike_key _ _
    · rw [List.map_map] at hz
      obtain ⟨a1, _, rfl⟩ := List.mem_map.mp hz
      exact ⟨_, _, rfl⟩
    · rw [srt_data]
      have s2 := same_new (o := HO.lst ((srtB ts).map (·.1))) nS
      have s12 := s1.trans s2
      refine nx _ S (srtB ts) (xL.same s12) upd_same (fun y hy => (hts y ((srt_mem y).mp hy)).row.same s2) (srt_ord (by rw [te]; obtain ⟨_, _, _, _, nd, _⟩ := dc; exact nd)) (fun p => ?_) ?_
      · rw [← te]
        constructor
        · intro h
          obtain ⟨y, hy, rfl⟩ := List.mem_map.mp h
          exact List.mem_map.mpr ⟨y, (srt_mem y).mp hy, rfl⟩
        · intro h
          obtain ⟨y, hy, rfl⟩ := List.mem_map.mp h
          exact List.mem_map.mpr ⟨y, (srt_mem y).mpr hy, rfl⟩
      · unfold srtB
        rw [List.length_mergeSort]; omega
/-- both are the same -/
def tEn (T : List (Addr × Str)) (C : Addr) : TS := fun D σ H => ∃ (va : V) (d la lb Fa p a S : Addr) (b : Nat) (v : V) (t : Tr) (y2 y7 y8 y10 y11 : Option V) (es : List (List Nat)) (cl ho : List Nat) (sv : Bool) (ls : List (List Nat)) (ts : List (V × List Bool)), σ = SL va d Fa p v a y2 y7 y8 (some (.ref S)) y10 y11 ∧ Tn T C H d la lb b Fa p v es cl ho sv t ∧ H S = some (.lst (ts.map (·.1))) ∧ (∀ x ∈ ts, RowB H x.1 x.2) ∧ (ts.map (·.2)).Pairwise (fun p q => pltB p q = true) ∧ IsLots es cl ho sv ls ∧ (∀ p, p ∈ ts.map (·.2) ↔ ∃ l ∈ ls, p ∈ waysT t l) ∧ ts.length ≤ 900 ∧
  ∀ H', Tn T C H' d la lb b Fa p v es cl ho sv t → D.nx (SL va d Fa p v a y2 y7 y8 (some (.ref S)) y10 y11) H'
theorem tus_bools {H : Hp} : ∀ p : List Bool, TuAll H (p.map V.bl) (p.map .bool)
  | [] => .nil
  | c :: p => .cons (.bl c) (tus_bools p)
theorem plat_tus {H : Hp} : ∀ {xs : List V} {ps : List (List Bool)}, Paired (PlAt H) xs ps → (∀ p ∈ ps, p.length ≤ 900) → TuAll H xs (ps.map placeD)
  | _, _, .nil, _ => .nil
  | _, _, .cons h r, l => by
    refine .cons ?_ (plat_tus r fun p hp => l p (List.mem_cons_of_mem _ hp))
    obtain ⟨pl, rfl, hp⟩ := h
    refine .tup hp (by rw [List.length_map]; have := l _ (List.mem_cons_self ..); omega) (tus_bools _)
theorem segE (hgu : (XL P w K mg base f cdv A out s H0).A.guards = some []) (hr : Room 40 (XL P w K mg base f cdv A out s H0).A) (E : LE P w K mg base T C) : PS (XL P w K mg base f cdv A out s H0) (turnS 5) (tEn T C) := by
  have hr7 := hr.mono (show 7 ≤ 40 by decide)
  refine ps_imp (ps_if (pt_not (pt_val (pe_calG E.same hgu hr7 (by rfl) (pa_cons (pe_cal E.rpl hr7 (by rfl) (pa_cons (pv 4) (pa_cons (pv 5) pa_nil))) (pa_cons (pe_callTy call_tupN (by rfl) E.B.tuple PyProof.Rows.boot_tuple (pa_cons (pe_lc (own := [("_law_row", 11)]) (g := (gName 11)) rfl scLaw.nd (pi_list (pv 9))
        (blkOk_by (N := nLaw) (sc := defScope sLaw) (by decide +kernel)) (fun _ _ _ _ _ => (pg_name (i := 11) scLaw.nd rfl (.inl rfl))) (fun _ _ _ _ _ => pts_nil)
        (fun _ _ _ _ _ => (pe_ix (ix_tupK (K := K) rfl) (pv 11) pe_int (fun _ _ => rfl)))) pa_nil)) pa_nil))))) (pss_one (ps_ret pe_bl)) pss_nil) (fun D σ H h => ?_)
  obtain ⟨va, d, la, lb, Fa, p, a, S, b, v, t, y2, y7, y8, y10, y11, es, cl, ho, sv, ls, ts, rfl, x, hS, hrow, hord, il, hmem, t900, nx⟩ := h
  have tsz := x.ts
  refine ⟨_, rfl, _, rfl, p, v, t, es, cl, ho, sv, rfl, x.ko, x.ws.tb, x.tv, by omega, fun H1 r xs ls1 g1 il1 hr1 pr => ?_⟩
  have e1 := IsLots.uniq il1 il
  subst e1
  have x1 := x.gr g1
  have hS1 := g1.lst hS
  have hrow1 : ∀ y ∈ ts, ∃ q : Addr, (∃ l b', H1 q = some (.tup [.int ((y.2.length : Nat) : Int), .ref l, .ref b']) ∧ H1 b' = some (.tup (y.2.map V.bl))) ∧ y.1 = .ref q := fun y hy => by
    obtain ⟨q, l, b', e, h1, _, h3⟩ := hrow y hy
    exact ⟨q, ⟨l, b', g1.tup h1, g1.tup h3⟩, e⟩
  refine ⟨_, rfl, S, rfl, ⟨_, SqL.of hS1⟩, fun D1 nD1 => ?_⟩
  refine lc_list (K := K) (a := S) (xs := ts.map (·.1)) (fun i H2 => ∃ zs : List V, Same H1 H2 ∧ H2 D1 = some (.lst zs) ∧ Paired (PlAt H2) zs ((ts.take i).map (·.2))) ⟨[], same_new nD1, upd_same, .nil⟩ (fun i H2 _ pp => by obtain ⟨_, z, _⟩ := pp; exact SqL.of (z _ _ hS1)) (fun i y H2 hy pp => ?_) (fun H2 pp => ?_)
  · obtain ⟨zs, s2, hD, pz⟩ := pp
    obtain ⟨u, hu, rfl⟩ := map_get hy
    obtain ⟨q, ⟨l, b', h1, h3⟩, e⟩ := hrow1 u (List.mem_of_getElem? hu)
    have zl := pz.length
    rw [List.length_map, List.length_take] at zl
    rw [e]
    have h1' := s2 _ _ h1
    have h3' := s2 _ _ h3
    have tk : ts.take (i + 1) = ts.take i ++ [u] := by rw [List.take_add_one, hu]; rfl
    refine ⟨rfl, _, rfl, q, _, 2, .ref b', rfl, rfl, SqT.of h1', atI_nat (j := 2) rfl, zs, hD, small1000 (by omega), zs ++ [V.ref b'], fun bb o z => ?_, upd_same, ?_⟩
    · rw [upd_ne (ne_of_none z nD1)]; exact s2 _ _ z
    · have kt : ∀ c vs, H2 c = some (.tup vs) → upd H2 D1 (.lst (zs ++ [V.ref b'])) c = some (.tup vs) := fun c vs z => by rw [upd_ne (ne_of z hD (by intro y; cases y))]; exact z
      rw [tk, List.map_append]
      exact prd_app (Paired.mapP pz fun x y h => by obtain ⟨z, e, h⟩ := h; exact ⟨z, e, kt _ _ h⟩) (.cons ⟨b', rfl, kt _ _ h3'⟩ .nil)
  · obtain ⟨zs, s2, hD, pz⟩ := pp
    rw [List.length_map, List.take_length] at pz
    have zl := pz.length
    rw [List.length_map] at zl
    refine ⟨D1, zs, rfl, .inl hD, fun ra H3 s3 hra => ?_⟩
    have s23 := s2.trans s3
    -- the places are the same
    have ee : bfsB (t.dep + 1) [([], t, ls1)] = ts.map (·.2) := by
      refine plt_uniq (bfs_ord (n := 0) _ ⟨fun e he => by rw [List.mem_singleton.mp he]; rfl, List.pairwise_singleton ..⟩).1 hord fun k => ?_
      rw [hmem, bfs_mem _ _ _ fun e he => by rw [List.mem_singleton.mp he]; exact Nat.lt_succ_self _]
      constructor
      · rintro ⟨e, he, l, hl, r, hr, rfl⟩
        rw [List.mem_singleton.mp he] at hl hr ⊢
        exact ⟨l, hl, by simpa using hr⟩
      · rintro ⟨l, hl, hk⟩
        exact ⟨_, List.mem_singleton.mpr rfl, l, hl, k, hk, by simp⟩
    rw [ee] at pr
    have l900 : ∀ k ∈ ts.map (·.2), k.length ≤ 900 := fun k hk => by
      obtain ⟨l, _, hw⟩ := (hmem k).mp hk
      have := ways_short t l hw
      omega
    have xl := pr.length
    rw [List.length_map] at xl
    have t1 : Tu H3 (.ref r) (.tuple ((ts.map (·.2)).map placeD)) := .tup (s23 _ _ hr1) (by omega) (plat_tus (Paired.mapP pr fun x y h => by obtain ⟨z, e, h⟩ := h; exact ⟨z, e, s23 _ _ h⟩) l900)
    have t2 : Tu H3 (.ref ra) (.tuple ((ts.map (·.2)).map placeD)) := .tup hra (by omega) (plat_tus (Paired.mapP pz fun x y h => by obtain ⟨z, e, h⟩ := h; exact ⟨z, e, s3 _ _ h⟩) l900)
    refine ⟨_, _, _, _, rfl, t1.da, t2.da, ?_, fun H4 s4 => ⟨_, rfl, ?_⟩⟩
    · show PyData.depthAll ((ts.map (·.2)).map placeD) + 1 < 7
      have := dep_places (ts.map (·.2))
      omega
    · exact iteE (by show (!sameD _ _) = false; rw [sameD_refl]; rfl) (nx H4 (x1.same (s23.trans s4)))
end
def spLaw (K : PySem.W.Frag) (T : List (Addr × Str)) : Sp := fun vs H Q _ => ∃ (a : Addr) (ns : List Int), vs = [.ref a] ∧ SqL K H a (ns.map V.int) ∧ ns.length ≤ 63 ∧ Tabs T H ∧ ∀ H', Q (.bl true) H'
theorem ok_law {P : Program} {w : World} {K : PySem.W.Frag} {mg : Str → Option Value} {base : Heap} {T : List (Addr × Str)} {C f : Addr} {fd : FuncData} (F : Fun K "law" "law" sLaw f fd) (E : LE P w K mg base T C) : FnG P w K mg base 41 f fd ["_law_script"] (spLaw K T) := by
  refine okG F scLaw (fun vs H Q E h => ?_) (fun cdv A out s H vs Q hgu hr h => ?_)
  · obtain ⟨a, ns, rfl, _⟩ := h
    rfl
  · obtain ⟨va, ns, rfl, hS, hlen, hT, q⟩ := h
    have hr1 := hr.mono (show 1 ≤ 40 by decide)
    have hr3 := hr.mono (show 3 ≤ 40 by decide)
    have hr5 := hr.mono (show 5 ≤ 40 by decide)
    have hr9 := hr.mono (show 9 ≤ 40 by decide)
    refine ⟨_, (pss_cons (ps_set (i := 1) scLaw.nd rfl (.inl rfl) (pe_cal E.deck hr1 (by rfl) (pa_cons (pv 0) pa_nil)))
      (pss_cons (ps_for PassesOwn.never rfl (pi_range1 (by rfl) E.B.range (pa_cons pe_int pa_nil)) (pg_name (i := 2) scLaw.nd rfl (.inl rfl))
        (pss_cons (ps_set (i := 3) scLaw.nd rfl (.inl rfl) (pe_cal E.four hr3 (by rfl) (pa_cons (pv 1) (pa_cons pe_int pa_nil))))
      (pss_cons (ps_par3 (i := 4) (j := 5) (l := 6) (by rfl) scLaw.nd rfl rfl rfl (by decide) (by decide) (by decide) rfl rfl rfl (pa_cons (pe_cal E.made hr9 (by rfl) (pa_cons (pv 3) pa_nil)) (pa_cons (pe_cal E.tree hr5 (by rfl) (pa_cons (pv 1) (pa_cons (pe_callB call_len_seq (by rfl) E.B.len PySem.boot_len (pa_cons (pe_ix ix_list (pv 3) pe_int (fun _ _ => rfl)) pa_nil)) (pa_cons pe_int pa_nil)))) (pa_cons pe_bnew pa_nil))) (by rfl))
      (pss_cons (segL hr E) (pss_cons (segF hr E) (pss_cons (segO hr E) (pss_one (segE hgu hr E))))))))
      (pss_one (ps_ret pe_bl)))), ?_⟩
    refine ⟨_, rfl, va, ns, rfl, hS, hlen, fun H1 d la lb s1 nd nla nlb D1 => ?_⟩
    refine ⟨5, rfl, by decide, by decide, for_range (lo := 0) (n := 5) (fun i σ H2 => ∃ (y2 y3 y4 y5 y6 y7 y8 y9 y10 y11 : Option V), σ = [some (.ref va), some (.ref d), y2, y3, y4, y5, y6, y7, y8, y9, y10, y11] ∧ DeckAt H2 d la lb (1152921504606846976 - 300 * i) ∧ Tabs T H2)
      ⟨none, none, none, none, none, none, none, none, none, none, rfl, D1, hT.ext s1⟩ (fun i σ H2 hi hP => ?_) (fun σ H2 hP => ?_)⟩
    · obtain ⟨y2, y3, y4, y5, y6, y7, y8, y9, y10, y11, rfl, D2, T2⟩ := hP
      obtain ⟨b, hb⟩ : ∃ b, 1152921504606846976 - 300 * i = ((b + 60) + 22) + 64 := ⟨1152921504606846976 - 300 * i - 146, by omega⟩
      rw [hb] at D2
      refine ⟨_, rfl, d, la, lb, 6, _, rfl, by decide, by decide, D2, fun H3 Fa es cl ho sv g3 nF F3 el => ?_⟩
      have W3 := Ws.of g3 nF F3 T2
      have n1 : 1 ≤ es.length := F3.el.lo
      have n6 := F3.el.hi
      refine ⟨_, rfl, Fa, es, cl, ho, sv, rfl, F3, fun H4 p s4 np kp => ?_⟩
      have W4 := W3.same s4
      obtain ⟨ae, ce, ho0, xs, hF0, hae, xl, hA, te, tc, th⟩ := W4.elders
      refine ⟨_, rfl, _, rfl, Fa, _, 0, .ref ae, rfl, rfl, SqL.of hF0, atI_nat (j := 0) rfl, ae, xs, rfl, .inr (SqT.of hae), ?_⟩
      rw [xl]
      refine ⟨d, la, lb, es.length, 3, b + 60, rfl, by decide, n1, n6, W4.dk, fun H5 v t g5 tv to td ts => ?_⟩
      refine fun a na nsys => ⟨_, _, _, rfl, ?_⟩
      have W5 := W4.go g5
      have s6 := same_new (o := HO.ext (OwnB P w a [])) na
      have x6 : Tn T C (upd H5 a (.ext (OwnB P w a []))) d la lb (b + 60) Fa p v es cl ho sv t := ⟨W5.same s6, (kp.keep g5.kf).keep (.of_same s6), tv.same s6, by omega⟩
      have dc6 : DctB P w (upd H5 a (.ext (OwnB P w a []))) a [] := DctB.new nsys
      refine ⟨_, d, la, lb, Fa, p, a, b, v, t, _, _, _, _, _, _, es, cl, ho, sv, rfl, x6, fun H7 v7 t7 g7 x7 => ?_⟩
      have dc7 : DctB P w H7 a [] := by
        obtain ⟨z1, en, ea, e1, e2, e3⟩ := dc6
        have e0 : en = [] := by cases en with | nil => rfl | cons _ _ => cases e1
        subst e0
        refine ⟨z1, [], ?_, e1, e2, fun x hx => nomatch hx⟩
        obtain ⟨o1, o2, _⟩ := (Go.refl W5.dk).off na
        exact g7.at_ ea o1 o2
      refine ⟨_, d, la, lb, Fa, p, a, b, v7, t7, _, _, _, _, _, _, es, cl, ho, sv, rfl, x7, dc7, fun H8 z7 z8 ls ks x8 il dc8 kl km => ?_⟩
      have ks100 : ∀ p ∈ ks, p.length ≤ 100 := fun p hp => by
        obtain ⟨l, _, hw⟩ := (km p).mp hp
        have := ways_short t7 l hw
        have := x8.ts
        omega
      refine ⟨_, d, la, lb, Fa, p, a, b, v7, t7, _, _, _, _, _, _, es, cl, ho, sv, ks, rfl, x8, dc8, kl, ks100, fun H9 S rows x9 hS9 hr9 ho9 hm9 hl9 => ?_⟩
      refine ⟨_, d, la, lb, Fa, p, a, S, b, v7, t7, _, _, _, _, _, es, cl, ho, sv, ls, rows, rfl, x9, hS9, hr9, ho9, il, fun k => (hm9 k).trans (km k), hl9, fun H10 x10 => ?_⟩
      exact ⟨_, _, _, _, _, _, _, _, _, _, rfl, x10.ws.dk.less (by omega), x10.ws.tb⟩
    · obtain ⟨y2, y3, y4, y5, y6, y7, y8, y9, y10, y11, rfl, _⟩ := hP
      exact q H2
end Kc

set_option Elab.async false
set_option linter.all false
set_option maxRecDepth 100000
set_option maxHeartbeats 4000000
/-! The law's end, where the table of modules is known to stand. -/
namespace Kg
open PySem PySem.Spec PyProof.Rows L2
/-! ### the law's end -/
theorem endH {P : Program} {w : World} {K : PySem.W.Frag} {mg mb : Str → Option Value} {k : Nat} {fa a : Addr} {fd : FuncData} {x : Str} {sp : Sp} {s₁ : Shared} {vs : List Value} {ns : List Int}
    (KX : K.In s₁.heap) (hns : s₁.heap.Ns mainGlobals mg) (hb : s₁.heap.Ns builtinsNs mb) (hbb : ∀ x : Str, x ≠ "__name__" → mb x = bootBuiltins x) (hlim : s₁.heap.NoLimit) (hg : s₁.gens = #[])
    (ha : s₁.heap.get? a = some { cls := .type "list", data := .seq vs.toArray }) (hi : IntsAre vs ns) (hl : ns.length ≤ sizeLine) (hr : Room k callerA)
    (hsm : ∃ o es n, s₁.heap.get? sysModules = some o ∧ o.data = .dict es n) (F : ∀ base : Heap, K.In base → base.Ns mainGlobals mg → (∃ o, base.get? sysModules = some o) → FnG P w K mg base k fa fd [x] sp) (hbind : ∀ (s : Shared) (u : Value), BindsTo s fd ⟨[u], []⟩ [(x, u)])
    (hsp : ∀ H : Hp, Only H → SqL K H a (ns.map V.int) → sp [.ref a] H (fun v _ => v = .bl true) E0) :
    codeAny (model P w) callerA (.call (.ref fa) ⟨[.ref a], []⟩) (fun r s' => r = .ok (.ret (.bool true)) ∧ OldK s₁.heap s'.heap ∧ s'.os = s₁.os ∧ AllBare s'.gens) s₁ := by
  have main : ∀ H : Hp, Only H → SqL K H a (ns.map V.int) → HOk P w H s₁.heap → (∀ b o, H b = some o → b = a ∧ K.lookup a = none) →
      codeAny (model P w) callerA (.call (.ref fa) ⟨[.ref a], []⟩) (fun r s' => r = .ok (.ret (.bool true)) ∧ OldK s₁.heap s'.heap ∧ s'.os = s₁.os ∧ AllBare s'.gens) s₁ := by
    intro H only sq ok one
    have notD : ∀ {b : Addr} {o : Obj} {es : Array DictEntry} {n : Nat}, s₁.heap.get? b = some o → o.data = .dict es n → H b = none := by
      intro b o es n e d
      cases q : H b with
      | none => rfl
      | some u =>
        rw [(one b u q).1, ha] at e
        rw [← Option.some.inj e] at d
        exact nomatch d
    have hid : ∀ {b : Addr} {m : Str → Option Value}, s₁.heap.Ns b m → (hidT s₁.heap H).Ns b m := by
      intro b m z
      obtain ⟨o, es, n, e, d, r⟩ := z
      exact ⟨o, es, n, hidT_get e (notD e d), d, r⟩
    have kb : K.In (hidT s₁.heap H) := by
      intro b o e
      refine hidT_get (KX b o e) ?_
      cases q : H b with
      | none => rfl
      | some u =>
        obtain ⟨z1, z2⟩ := one b u q
        rw [z1, z2] at e
        exact nomatch e
    obtain ⟨mc, l1, l2⟩ := hlim
    have env : Env0 P w K mg (hidT s₁.heap H) callerA [] s₁ H :=
      { frames := rfl, mod := ⟨kb, hid hns, ⟨mb, hid hb, hbb⟩, ⟨mc, hid l1, l2⟩⟩, bs := fun b o e => of_hidT e, bsz := Nat.le_of_eq (hidT_size _ _), funs := trivial, frf := fun b z => (nomatch (show b ∈ ([] : List Addr) from z)), hok := ok, bare := .of_eq hg }
    obtain ⟨osm, esm, nsm, hsm1, hsm2⟩ := hsm
    refine codeAny_mono ((F _ kb (hid hns) ⟨osm, hidT_get hsm1 (notD hsm1 hsm2)⟩).go callerA [] s₁ H ⟨[.ref a], []⟩ [.ref a] [.ref a] _ rfl hr env (hbind s₁ (.ref a)) (.cons rfl .nil) (hsp H only sq)) fun r s' z => ?_
    match r, z with
    | .error _, z => exact z.elim
    | .ok .next, z => exact z.elim
    | .ok .brk, z => exact z.elim
    | .ok .cont, z => exact z.elim
    | .ok (.ret u), ⟨v, H', zo, zb, un, ok', rv, ev⟩ =>
      have ev' : v = .bl true := ev
      rw [ev'] at rv
      have eu : u = Value.bool true := rv
      refine ⟨by rw [eu], OldK.of_keep fun b o e => ?_, zo, zb⟩
      cases q : H b with
      | none => exact un.keep b o e q (fun y => nomatch (show b ∈ ([] : List Addr) from y)) (fun y => nomatch y)
      | some u2 =>
        cases only b with
        | inl y => rw [q] at y; exact nomatch y
        | inr y =>
          obtain ⟨ob, xs, y⟩ := y
          have y1 : ObjOk P w H s₁.heap b (.frz ob (.lst xs)) := ok b _ y
          have y2 : ObjOk P w H' s'.heap b (.frz ob (.lst xs)) := ok' b _ (un.frzs b ob _ y)
          have y3 : some o = some ob := e.symm.trans y1.1
          rw [Option.some.inj y3]
          exact y2.1
  have rv := vals_ints hi
  cases hk : K.lookup a with
  | none =>
    let H0 : Hp := fun b => if b = a then some (.frz { cls := .type "list", data := .seq vs.toArray } (.lst (ns.map V.int))) else none
    have at0 : ∀ b o, H0 b = some o → b = a ∧ o = .frz { cls := .type "list", data := .seq vs.toArray } (.lst (ns.map V.int)) := by
      intro b o e
      by_cases z : b = a
      · exact ⟨z, (Option.some.inj ((if_pos z).symm.trans e)).symm⟩
      · exact nomatch ((if_neg z).symm.trans e)
    refine main H0 (fun b => ?_) (.inl (.inr ⟨_, if_pos rfl⟩)) (fun b o e => ?_) (fun b o e => ⟨(at0 b o e).1, hk⟩)
    · cases q : H0 b with
      | none => exact .inl rfl
      | some o => exact .inr ⟨_, _, by rw [(at0 b o q).2]⟩
    · obtain ⟨z1, z2⟩ := at0 b o e
      rw [z1, z2]
      exact ⟨ha, by rw [List.length_map]; exact hl, vs, _, rv, ha⟩
  | some o =>
    have eo : ({ cls := .type "list", data := .seq vs.toArray } : Obj) = o := Option.some.inj (ha.symm.trans (KX a o hk))
    rw [← eo] at hk
    refine main (fun _ => none) (fun _ => .inl rfl) (.inr ⟨_, vs.toArray, _, hk, rfl, rfl, rfl, ?_, by simpa using rv⟩) (fun b o e => nomatch (show (none : Option HO) = some o from e)) (fun b o e => nomatch (show (none : Option HO) = some o from e))
    rw [List.size_toArray, hi.length]; exact hl
/-- what k_head leaves, from the law's promise; the script's bits are told -/
theorem walkH {l : PySem.W.OpenLaw} {n k : Nat} {q : Program} {loose : List Str} {XP : (Str → Option Value) → Heap → Prop} {YP : World → Heap → Prop} {d : DefRec} {K : Params → PySem.W.Frag} {sp : PySem.W.Frag → Sp} {x : Str}
    (himp : importsNone q = true) (hn : l.most = some n) (hn2 : n ≤ sizeLine) (hdf : d.params.defaults = []) (hr : Room k callerA) (hY : ∀ (w : World) (h : Heap), YP w h → (K w.params).In h)
    (F : ∀ (w : World) (mg : Str → Option Value) (fa : Addr) (h : Heap), (K w.params).In h → h.Ns mainGlobals mg → mg d.name = some (.ref fa) →
      ∃ fd : FuncData, (∀ (s : Shared) (u : Value), BindsTo s fd ⟨[u], []⟩ [(x, u)]) ∧ ∀ base : Heap, (K w.params).In base → base.Ns mainGlobals mg → (∃ o, base.get? sysModules = some o) → FnG l.prog w (K w.params) mg base k fa fd [x] (sp (K w.params)))
    (hsp : ∀ (K : PySem.W.Frag) (H : Hp) (a : Addr) (ns : List Int), ns.length ≤ n → (∀ z ∈ ns, Builtin.Int.intBits z ≤ 1048576) → Only H → SqL K H a (ns.map V.int) → sp K [.ref a] H (fun v _ => v = .bl true) E0) :
    PySem.W.WalkO q loose XP YP l.row.toRowW d [] (fun f vs => PySem.call f vs) := by
  refine Att.attach_callB hn hdf fun w s₀ s₁ mg mb fa o pm cd dc a vs ns G Y ho hd hcd hmg hobj hints hlen hbits hgen => ?_
  obtain ⟨fd, hbi, hF⟩ := F w mg fa _ (hY w _ Y) G.T.g hmg
  exact endH (hY w _ Y) G.T.g G.T.b G.T.builtins G.T.nolimit hgen hobj hints (Nat.le_trans hlen hn2) hr (by
    obtain ⟨mm, ⟨o, es, n', e1, e2, _⟩, _⟩ := (G.T.seer himp).mods
    exact ⟨o, es, n', e1, e2⟩) hF hbi fun H hO hS => hsp (K w.params) H a ns hlen hbits hO hS
end Kg

set_option Elab.async false
set_option linter.all false
set_option maxRecDepth 100000
set_option maxHeartbeats 4000000
/-! The law's end where some defs make lambdas: the tables of their code objects are tracked. -/
namespace Kg
open PySem PySem.Spec PyProof.Rows L2 LamX
abbrev empT : Obj := { cls := .none, data := .fields #[] }
/-- the places of the tables -/
abbrev plc (cs : List (Addr × Addr)) : List Addr := cs.map fun x => x.2
theorem endT {P : Program} {w : World} {K : PySem.W.Frag} {mg mb : Str → Option Value} {k : Nat} {fa a : Addr} {fd : FuncData} {x : Str} {sp : Sp} {s₁ : Shared} {vs : List Value} {ns : List Int} {cs : List (Addr × Addr)}
    (KX : K.In s₁.heap) (hns : s₁.heap.Ns mainGlobals mg) (hb : s₁.heap.Ns builtinsNs mb) (hbb : ∀ x : Str, x ≠ "__name__" → mb x = bootBuiltins x) (hlim : s₁.heap.NoLimit) (hg : s₁.gens = #[])
    (tb1 : ∀ t ∈ cs, s₁.heap.get? t.2 = some empT) (tb2 : ∀ t ∈ cs, K.lookup t.2 = none) (tb3 : ∀ t ∈ cs, PySem.W.CodeHd s₁.heap t.1 t.2)
    (bmn : ∃ (bm : Addr) (ob : Obj), mg "__builtins__" = some (.ref bm) ∧ bm ≠ builtinsNs ∧ s₁.heap.get? bm = some ob ∧ ob.cls = .type "module" ∧ ob.dict = some builtinsNs ∧ ob.data = .plain)
    (ha : s₁.heap.get? a = some { cls := .type "list", data := .seq vs.toArray }) (hi : IntsAre vs ns) (hl : ns.length ≤ sizeLine) (hr : Room k callerA)
    (hsm : ∃ o es n, s₁.heap.get? sysModules = some o ∧ o.data = .dict es n)
    (F : ∀ base : Heap, K.In base → base.Ns mainGlobals mg → (∃ o, base.get? sysModules = some o) → (∀ t ∈ cs, TabB base mg t.1 t.2) → FnG P w K mg base k fa fd [x] sp) (hbind : ∀ (s : Shared) (u : Value), BindsTo s fd ⟨[u], []⟩ [(x, u)])
    (hsp : ∀ H : Hp, (∀ t ∈ cs, H t.2 = some (.tbl #[])) → SqL K H a (ns.map V.int) → sp [.ref a] H (fun v _ => v = .bl true) E0) :
    codeAny (model P w) callerA (.call (.ref fa) ⟨[.ref a], []⟩) (fun r s' => r = .ok (.ret (.bool true)) ∧ OldK s₁.heap s'.heap ∧ s'.os = s₁.os ∧ AllBare s'.gens) s₁ := by
  have emp : ∀ b : Addr, b ∈ plc cs → s₁.heap.get? b = some empT := by
    intro b z
    obtain ⟨t, t1, t2⟩ := List.mem_map.mp z
    rw [← t2]; exact tb1 t t1
  have na : a ∉ plc cs := by
    intro z
    have y := emp a z
    rw [ha] at y
    exact nomatch (show Data.seq vs.toArray _ = Data.fields #[] from congrArg Obj.data (Option.some.inj y))
  have inP : ∀ t ∈ cs, t.2 ∈ plc cs := fun t z => List.mem_map.mpr ⟨t, z, rfl⟩
  have main : ∀ H : Hp, (∀ t ∈ cs, H t.2 = some (.tbl #[])) → SqL K H a (ns.map V.int) → HOk P w H s₁.heap → (∀ b o, H b = some o → b ∈ plc cs ∨ (b = a ∧ K.lookup a = none ∧ ∃ ob xs, o = .frz ob (.lst xs))) →
      codeAny (model P w) callerA (.call (.ref fa) ⟨[.ref a], []⟩) (fun r s' => r = .ok (.ret (.bool true)) ∧ OldK s₁.heap s'.heap ∧ s'.os = s₁.os ∧ AllBare s'.gens) s₁ := by
    intro H tab sq ok one
    -- nothing but lists and tables is hidden
    have out : ∀ {b : Addr} {o : Obj}, s₁.heap.get? b = some o → (∀ us m, o.data ≠ .seq us m) → o.data ≠ .fields #[] → H b = none := by
      intro b o e d1 d2
      cases q : H b with
      | none => rfl
      | some u =>
        rcases one b u q with z | ⟨z, _⟩
        · rw [emp b z] at e
          rw [← Option.some.inj e] at d2
          exact absurd rfl d2
        · rw [z, ha] at e
          rw [← Option.some.inj e] at d1
          exact absurd rfl (d1 _ _)
    have notD : ∀ {b : Addr} {o : Obj} {es : Array DictEntry} {n : Nat}, s₁.heap.get? b = some o → o.data = .dict es n → H b = none := fun e d => out e (fun us m z => by rw [d] at z; cases z) (fun z => by rw [d] at z; cases z)
    have hid : ∀ {b : Addr} {m : Str → Option Value}, s₁.heap.Ns b m → (hidT s₁.heap H).Ns b m := by
      intro b m z
      obtain ⟨o, es, n, e, d, r⟩ := z
      exact ⟨o, es, n, hidT_get e (notD e d), d, r⟩
    have kb : K.In (hidT s₁.heap H) := by
      intro b o e
      refine hidT_get (KX b o e) ?_
      cases q : H b with
      | none => rfl
      | some u =>
        rcases one b u q with z | ⟨z1, z2, _⟩
        · obtain ⟨t, t1, t2⟩ := List.mem_map.mp z
          rw [← t2, tb2 t t1] at e
          exact nomatch e
        · rw [z1, z2] at e
          exact nomatch e
    have TB : ∀ t ∈ cs, TabB (hidT s₁.heap H) mg t.1 t.2 := by
      intro t ht
      have t0 := tb1 t ht
      refine ⟨?_, ?_, ?_⟩
      · obtain ⟨o, us, file, tf, flags, tg, inF, text, tt, e1, r1, r2, r3, rest⟩ := tb3 t ht
        refine ⟨o, us, file, tf, flags, tg, inF, text, tt, hidT_get e1 (out e1 (fun us m z => by rw [r2] at z; cases z) (fun z => ?_)), r1, r2, r3, rest⟩
        rw [r2] at z
        cases z
        simp at r3
      · obtain ⟨bm, ob, b1, b2, b3, b4, b5, b6⟩ := bmn
        refine ⟨bm, ob, b1, b2, ?_, ?_, hidT_get b3 (out b3 (fun us m z => by rw [b6] at z; cases z) (fun z => by rw [b6] at z; cases z)), b4, b5, b6⟩
        · intro z
          obtain ⟨o, es, n, e, d, _⟩ := hns
          rw [← z, b3] at e
          cases e
          rw [b6] at d
          exact nomatch d
        · intro z
          rw [z, t0] at b3
          cases b3
          exact nomatch b6
      · intro z
        obtain ⟨o, es, n, e, d, _⟩ := hns
        rw [z, t0] at e
        cases e
        exact nomatch d
    obtain ⟨mc, l1, l2⟩ := hlim
    have env : Env0 P w K mg (hidT s₁.heap H) callerA [] s₁ H :=
      { frames := rfl, mod := ⟨kb, hid hns, ⟨mb, hid hb, hbb⟩, ⟨mc, hid l1, l2⟩⟩, bs := fun b o e => of_hidT e, bsz := Nat.le_of_eq (hidT_size _ _), funs := trivial, frf := fun b z => (nomatch (show b ∈ ([] : List Addr) from z)), hok := ok, bare := .of_eq hg }
    obtain ⟨osm, esm, nsm, hsm1, hsm2⟩ := hsm
    refine codeAny_mono ((F _ kb (hid hns) ⟨osm, hidT_get hsm1 (notD hsm1 hsm2)⟩ TB).go callerA [] s₁ H ⟨[.ref a], []⟩ [.ref a] [.ref a] _ rfl hr env (hbind s₁ (.ref a)) (.cons rfl .nil) (hsp H tab sq)) fun r s' z => ?_
    match r, z with
    | .error _, z => exact z.elim
    | .ok .next, z => exact z.elim
    | .ok .brk, z => exact z.elim
    | .ok .cont, z => exact z.elim
    | .ok (.ret u), ⟨v, H', zo, zb, un, ok', rv, ev⟩ =>
      have ev' : v = .bl true := ev
      rw [ev'] at rv
      have eu : u = Value.bool true := rv
      have stay : ∀ b o, b ∉ plc cs → s₁.heap.get? b = some o → s'.heap.get? b = some o := by
        intro b o nb e
        cases q : H b with
        | none => exact un.keep b o e q (fun y => nomatch (show b ∈ ([] : List Addr) from y)) (fun y => nomatch y)
        | some u2 =>
          rcases one b u2 q with y | ⟨_, _, ob, xs, rfl⟩
          · exact absurd y nb
          · have y1 : ObjOk P w H s₁.heap b (.frz ob (.lst xs)) := ok b _ q
            have y2 : ObjOk P w H' s'.heap b (.frz ob (.lst xs)) := ok' b _ (un.frzs b ob _ q)
            have y3 : some o = some ob := e.symm.trans y1.1
            rw [Option.some.inj y3]
            exact y2.1
      have grew : ∀ b, b ∈ plc cs → ∃ t ∈ cs, t.2 = b ∧ ∃ vs' : Array Value, s'.heap.get? b = some { cls := .none, data := .fields vs' } := by
        intro b z
        obtain ⟨t, t1, t2⟩ := List.mem_map.mp z
        obtain ⟨vs', y⟩ := un.tbls t.2 #[] (tab t t1)
        have y2 := ok' t.2 _ y
        rw [show t.2 = b from t2] at y2
        exact ⟨t, t1, t2, _, y2⟩
      refine ⟨by rw [eu], ⟨fun b o e => ?_, fun b o e => ?_⟩, zo, zb⟩
      · by_cases z : b ∈ plc cs
        · obtain ⟨t, t1, t2, vs', y⟩ := grew b z
          subst t2
          rw [tb1 t t1] at e
          cases e
          exact .inr (.inl ⟨((tb3 t t1).tab (tb1 t t1)).isCodeTable, rfl, #[], vs', rfl, by rw [Array.empty_append]; exact y⟩)
        · exact .inl (stay b o z e)
      · by_cases z : b ∈ plc cs
        · obtain ⟨_, _, _, vs', y⟩ := grew b z
          exact ⟨_, y⟩
        · exact ⟨o, stay b o z e⟩
  have rv := vals_ints hi
  cases hk : K.lookup a with
  | none =>
    let H0 : Hp := fun b => if b ∈ plc cs then some (.tbl #[]) else if b = a then some (.frz { cls := .type "list", data := .seq vs.toArray } (.lst (ns.map V.int))) else none
    have hA : H0 a = some (.frz { cls := .type "list", data := .seq vs.toArray } (.lst (ns.map V.int))) := (if_neg na).trans (if_pos rfl)
    have at0 : ∀ b o, H0 b = some o → (b ∈ plc cs ∧ o = .tbl #[]) ∨ (b = a ∧ o = .frz { cls := .type "list", data := .seq vs.toArray } (.lst (ns.map V.int))) := by
      intro b o e
      by_cases y : b ∈ plc cs
      · exact .inl ⟨y, (Option.some.inj ((if_pos y).symm.trans e)).symm⟩
      · have e2 := (if_neg y).symm.trans e
        by_cases z : b = a
        · exact .inr ⟨z, (Option.some.inj ((if_pos z).symm.trans e2)).symm⟩
        · exact nomatch ((if_neg z).symm.trans e2)
    refine main H0 (fun t z => if_pos (inP t z)) (.inl (.inr ⟨_, hA⟩)) (fun b o e => ?_) (fun b o e => ?_)
    · rcases at0 b o e with ⟨z1, z2⟩ | ⟨z1, z2⟩
      · rw [z2]; exact emp b z1
      · rw [z1, z2]
        exact ⟨ha, by rw [List.length_map]; exact hl, vs, _, rv, ha⟩
    · rcases at0 b o e with ⟨z1, z2⟩ | ⟨z1, z2⟩
      · exact .inl z1
      · exact .inr ⟨z1, hk, _, _, z2⟩
  | some o =>
    have eo : ({ cls := .type "list", data := .seq vs.toArray } : Obj) = o := Option.some.inj (ha.symm.trans (KX a o hk))
    rw [← eo] at hk
    let H0 : Hp := fun b => if b ∈ plc cs then some (.tbl #[]) else none
    have at0 : ∀ b o, H0 b = some o → b ∈ plc cs ∧ o = .tbl #[] := by
      intro b o e
      by_cases y : b ∈ plc cs
      · exact ⟨y, (Option.some.inj ((if_pos y).symm.trans e)).symm⟩
      · exact nomatch ((if_neg y).symm.trans e)
    refine main H0 (fun t z => if_pos (inP t z)) (.inr ⟨_, vs.toArray, _, hk, rfl, rfl, rfl, ?_, by simpa using rv⟩) (fun b o e => ?_) (fun b o e => .inl (at0 b o e).1)
    · rw [List.size_toArray, hi.length]; exact hl
    · obtain ⟨z1, z2⟩ := at0 b o e
      rw [z2]; exact emp b z1
/-- what k_head leaves, from the law's promise; nm: the defs that make lambdas -/
theorem walkT {l : PySem.W.OpenLaw} {n k : Nat} {q : Program} {loose : List Str} {XP : (Str → Option Value) → Heap → Prop} {YP : World → Heap → Prop} {d : DefRec} {K : Params → PySem.W.Frag} {sp : PySem.W.Frag → List (Addr × Str) → Sp} {x : Str} (nm : List Str)
    (hnm : (nm.all fun y => ((PyProof.Rows.recsOf q).find? (fun e => e.name == y)).isSome) = true)
    (himp : importsNone q = true) (hn : l.most = some n) (hn2 : n ≤ sizeLine) (hdf : d.params.defaults = []) (hr : Room k callerA) (hY : ∀ (w : World) (h : Heap), YP w h → (K w.params).In h)
    (F : ∀ (w : World) (mg : Str → Option Value) (fa : Addr) (h : Heap), (K w.params).In h → h.Ns mainGlobals mg → mg d.name = some (.ref fa) →
      ∃ (fd : FuncData) (cs : List (Addr × Addr)) (T : List (Addr × Str)), (∀ (s : Shared) (u : Value), BindsTo s fd ⟨[u], []⟩ [(x, u)]) ∧ (∀ t ∈ cs, (K w.params).lookup t.2 = none ∧ ∃ y ∈ nm, PySem.W.tabIn (K w.params) y = some t) ∧ (∀ t ∈ T, ∃ c ∈ cs, c.2 = t.1) ∧
      ∀ base : Heap, (K w.params).In base → base.Ns mainGlobals mg → (∃ o, base.get? sysModules = some o) → (∀ t ∈ cs, TabB base mg t.1 t.2) → FnG l.prog w (K w.params) mg base k fa fd [x] (sp (K w.params) T))
    (hsp : ∀ (K : PySem.W.Frag) (T : List (Addr × Str)) (H : Hp) (a : Addr) (ns : List Int), ns.length ≤ n → (∀ z ∈ ns, Builtin.Int.intBits z ≤ 1048576) → Tabs T H → SqL K H a (ns.map V.int) → sp K T [.ref a] H (fun v _ => v = .bl true) E0) :
    PySem.W.WalkO q loose XP YP l.row.toRowW d [] (fun f vs => PySem.call f vs) := by
  refine Att.attach_callB hn hdf fun w s₀ s₁ mg mb fa o pm cd dc a vs ns G Y ho hd hcd hmg hobj hints hlen hbits hgen => ?_
  obtain ⟨fd, cs, T, hbi, hcs, hT, hF⟩ := F w mg fa _ (hY w _ Y) G.T.g hmg
  have tabs : ∀ t ∈ cs, PySem.W.CodeHd s₁.heap t.1 t.2 ∧ s₁.heap.get? t.2 = some (PySem.W.tabObj #[]) := by
    intro t ht
    obtain ⟨_, y, hy, e⟩ := hcs t ht
    have z := List.all_eq_true.mp hnm y hy
    obtain ⟨dr, hdr⟩ := Option.isSome_iff_exists.mp z
    exact PySem.W.tab_of G.T (hY w _ Y) hdr e
  exact endT (cs := cs) (hY w _ Y) G.T.g G.T.b G.T.builtins G.T.nolimit hgen (fun t ht => (tabs t ht).2) (fun t ht => (hcs t ht).1) (fun t ht => (tabs t ht).1) G.T.bmain hobj hints (Nat.le_trans hlen hn2) hr (by
    obtain ⟨mm, ⟨o, es, n', e1, e2, _⟩, _⟩ := (G.T.seer himp).mods
    exact ⟨o, es, n', e1, e2⟩) hF hbi fun H hO hS => hsp (K w.params) T H a ns hlen hbits (fun t ht => by
      obtain ⟨c, c1, c2⟩ := hT t ht
      exact TabS.nil (by rw [← c2]; exact hO c c1)) hS
end Kg
namespace Kg
open PySem PySem.Spec PyProof.Rows L2 LamX
theorem tabIn_of {K : PySem.W.Frag} {x : Str} {f c Pt : Addr} {oc oc2 : Value} {od od2 : Option Addr} {fd : FuncData} {sl sl2 : Array (Option Value)} {vs : Array Value} (a : PySem.W.nsIn K mainGlobals x = some (some (.ref f))) (l : K.lookup f = some ⟨oc, od, .func fd, sl⟩) (hc : fd.code = .ref c) (lc : K.lookup c = some ⟨oc2, od2, .fields vs, sl2⟩) (vp : vs[11]? = some (.ref Pt)) : PySem.W.tabIn K x = some (c, Pt) := by
  unfold PySem.W.tabIn
  simp only [a, l, hc, lc, vp]
theorem two_tabs {P1 P2 : Addr} {q1 q2 : Str} (ne : P1 ≠ P2) : (∀ p ∈ [(P1, q1), (P2, q2)], p.1 = P1 → p.2 = q1) ∧ ∀ p ∈ [(P1, q1), (P2, q2)], p.1 = P2 → p.2 = q2 := by
  constructor
  · intro p hp e
    rcases List.mem_cons.mp hp with z | z
    · rw [z]
    · rw [List.mem_singleton.mp z] at e; exact absurd e.symm ne
  · intro p hp e
    rcases List.mem_cons.mp hp with z | z
    · rw [z] at e; exact absurd e ne
    · rw [List.mem_singleton.mp z]
end Kg

set_option Elab.async false
set_option linter.all false
set_option maxRecDepth 100000
set_option maxHeartbeats 8000000
namespace Kc
open PySem PySem.Spec PyProof.Rows L2 Kg Kd Kr Kf Kl LamX
theorem ba2 {a b : Bool} (h : (a && b) = true) : a = true ∧ b = true := Bool.and_eq_true_iff.mp h
/-- the class Kinds -/
def kcB (K : PySem.W.Frag) (C fI : Addr) : Bool := PySem.W.plainGet K C Str.empty && (PySem.W.hasDictIn K C && (PySem.W.plainOver K C && (decide (PySem.W.findIn K (.ref C) "__setattr__" = some (some (.builtin "object.__setattr__"))) &&
  (decide (PySem.W.findIn K (.ref C) "kept_elders" = some none) && (decide (PySem.W.findIn K (.ref C) "kept_closed" = some none) && (decide (PySem.W.findIn K (.ref C) "kept_hollow" = some none) && (decide (PySem.W.findIn K (.ref C) "kept_several" = some none) && (decide (PySem.W.findIn K (.ref C) "kept_above" = some none) &&
  (PySem.W.makesIn K C && (PySem.W.isFn K (.ref fI) && PySem.W.keepIn K (.ref C)))))))))))
theorem kcB_ok {K : PySem.W.Frag} {C fI : Addr} (y : PySem.W.findIn K (.ref C) "__init__" = some (some (.ref fI))) (h : kcB K C fI = true) : KC K C ∧ Mk K C fI := by
  obtain ⟨h1, h⟩ := ba2 h
  obtain ⟨h2, h⟩ := ba2 h
  obtain ⟨h3, h⟩ := ba2 h
  obtain ⟨h4, h⟩ := ba2 h
  obtain ⟨h5, h⟩ := ba2 h
  obtain ⟨h6, h⟩ := ba2 h
  obtain ⟨h7, h⟩ := ba2 h
  obtain ⟨h8, h⟩ := ba2 h
  obtain ⟨h9, h⟩ := ba2 h
  obtain ⟨hA, h⟩ := ba2 h
  obtain ⟨hB, hC⟩ := ba2 h
  have k5 : PySem.W.findIn K (.ref C) "kept_elders" = some none := of_decide_eq_true h5
  have k6 : PySem.W.findIn K (.ref C) "kept_closed" = some none := of_decide_eq_true h6
  have k7 : PySem.W.findIn K (.ref C) "kept_hollow" = some none := of_decide_eq_true h7
  have k8 : PySem.W.findIn K (.ref C) "kept_several" = some none := of_decide_eq_true h8
  have k9 : PySem.W.findIn K (.ref C) "kept_above" = some none := of_decide_eq_true h9
  exact ⟨⟨⟨h1, h2, h3, of_decide_eq_true h4⟩, k5, k6, k7, k8, k9⟩, ⟨hA, y, hB, hC⟩⟩
def tys : List String := ["tuple", "NoneType", "str", "int", "dict"]
def kiB (K : PySem.W.Frag) (C : Addr) : Bool := decide (PySem.W.findIn K (.ref C) "__class__" = some (some (.builtin "object.__class__"))) && (decide (PySem.W.specialIn K (.builtin "object.__class__") "__get__" = some (some (.builtin "getset_descriptor.__get__"))) && (decide (PySem.W.takesIn K (.builtin "object.__class__") = some true) &&
  (decide (PySem.W.mroIn K C (.type "object") = some true) && (decide (PySem.W.kitOne K (.ref C) (.ref C) = some true) && ((tys.all fun t => decide (PySem.W.kitOne K (.type t) (.ref C) = some false)) && ((tys.all fun t => PySem.W.notFirst K C (.type t)) && (PySem.W.notFirst K C (.ref C) &&
  (decide (PySem.W.findIn K (.ref C) "__ne__" = some (some (.builtin "object.__ne__"))) && decide (PySem.W.subIn K (.ref C) (.type "object") = some true)))))))))
theorem kiB_ok {K : PySem.W.Frag} {C : Addr} (h : kiB K C = true) : KI K C ∧ PySem.W.findIn K (.ref C) "__ne__" = some (some (.builtin "object.__ne__")) ∧ PySem.W.subIn K (.ref C) (.type "object") = some true := by
  obtain ⟨h1, h⟩ := ba2 h
  obtain ⟨h2, h⟩ := ba2 h
  obtain ⟨h3, h⟩ := ba2 h
  obtain ⟨h4, h⟩ := ba2 h
  obtain ⟨h5, h⟩ := ba2 h
  obtain ⟨h6, h⟩ := ba2 h
  obtain ⟨h7, h⟩ := ba2 h
  obtain ⟨h8, h⟩ := ba2 h
  obtain ⟨h9, hA⟩ := ba2 h
  exact ⟨⟨of_decide_eq_true h1, of_decide_eq_true h2, of_decide_eq_true h3, of_decide_eq_true h4, of_decide_eq_true h5, fun t ht => of_decide_eq_true (List.all_eq_true.mp h6 t ht), fun t ht => List.all_eq_true.mp h7 t ht, h8⟩, of_decide_eq_true h9, of_decide_eq_true hA⟩
def prB (K : PySem.W.Frag) (p : Addr) : Bool := decide (PySem.W.specialIn K (.ref p) "__get__" = some (some (.builtin "property.__get__"))) && decide (PySem.W.takesIn K (.ref p) = some true)
/-! ### what the top has written -/
theorem all_mk {l : PySem.W.OpenLaw} {w : World} {K : PySem.W.Frag} {h : Heap} {mg : Str → Option Value} {fa f_is_number f_is_index f_is_bool f_is_ascending f_are_elders f_wrong_elders f_wrong_place f_table_above f_law_deck f_law_next f_law_same f_law_some f_law_four f_law_made f_law_above f_law_lot f_law_lots f_law_tree f_law_long f_law_ways f_joined f_lot_of f_members f_parts_of f_single_elders f_lots f_with_kind f_without_kind f_ways_on f_reached_places f_law f_m_init f_m_above f_m_len f_m_opened cC p_hollow p_several f_p_hollow f_p_several : Addr} (X : K.In h) (G : h.Ns mainGlobals mg) (hfa : mg "law" = some (.ref fa))
    (a_is_number : PySem.W.nsIn K mainGlobals "is_number" = some (some (.ref f_is_number)))
    {ocis_number kVis_number dcis_number pmis_number cdis_number ctis_number : Value} {odis_number anis_number : Option Addr} {slis_number : Array (Option Value)}
    (l_is_number : K.lookup f_is_number = some ⟨ocis_number, odis_number, .func (PySem.W.fnOf "is_number" "is_number" (defArgs sNum) (defBody sNum) (defScope sNum) .none kVis_number dcis_number pmis_number anis_number cdis_number ctis_number), slis_number⟩)
    (x_is_number : PySem.W.codeIn K cdis_number "is_number" = true)
    (k_is_number : PySem.W.keepIn K (.ref f_is_number) = true)
    (a_is_index : PySem.W.nsIn K mainGlobals "is_index" = some (some (.ref f_is_index)))
    {ocis_index kVis_index dcis_index pmis_index cdis_index ctis_index : Value} {odis_index anis_index : Option Addr} {slis_index : Array (Option Value)}
    (l_is_index : K.lookup f_is_index = some ⟨ocis_index, odis_index, .func (PySem.W.fnOf "is_index" "is_index" (defArgs sIdx) (defBody sIdx) (defScope sIdx) .none kVis_index dcis_index pmis_index anis_index cdis_index ctis_index), slis_index⟩)
    (x_is_index : PySem.W.codeIn K cdis_index "is_index" = true)
    (k_is_index : PySem.W.keepIn K (.ref f_is_index) = true)
    (a_is_bool : PySem.W.nsIn K mainGlobals "is_bool" = some (some (.ref f_is_bool)))
    {ocis_bool kVis_bool dcis_bool pmis_bool cdis_bool ctis_bool : Value} {odis_bool anis_bool : Option Addr} {slis_bool : Array (Option Value)}
    (l_is_bool : K.lookup f_is_bool = some ⟨ocis_bool, odis_bool, .func (PySem.W.fnOf "is_bool" "is_bool" (defArgs sIsB) (defBody sIsB) (defScope sIsB) .none kVis_bool dcis_bool pmis_bool anis_bool cdis_bool ctis_bool), slis_bool⟩)
    (x_is_bool : PySem.W.codeIn K cdis_bool "is_bool" = true)
    (k_is_bool : PySem.W.keepIn K (.ref f_is_bool) = true)
    (a_is_ascending : PySem.W.nsIn K mainGlobals "is_ascending" = some (some (.ref f_is_ascending)))
    {ocis_ascending kVis_ascending dcis_ascending pmis_ascending cdis_ascending ctis_ascending : Value} {odis_ascending anis_ascending : Option Addr} {slis_ascending : Array (Option Value)}
    (l_is_ascending : K.lookup f_is_ascending = some ⟨ocis_ascending, odis_ascending, .func (PySem.W.fnOf "is_ascending" "is_ascending" (defArgs sAsc) (defBody sAsc) (defScope sAsc) .none kVis_ascending dcis_ascending pmis_ascending anis_ascending cdis_ascending ctis_ascending), slis_ascending⟩)
    (x_is_ascending : PySem.W.codeIn K cdis_ascending "is_ascending" = true)
    (k_is_ascending : PySem.W.keepIn K (.ref f_is_ascending) = true)
    (a_are_elders : PySem.W.nsIn K mainGlobals "are_elders" = some (some (.ref f_are_elders)))
    {ocare_elders kVare_elders dcare_elders pmare_elders cdare_elders ctare_elders : Value} {odare_elders anare_elders : Option Addr} {slare_elders : Array (Option Value)}
    (l_are_elders : K.lookup f_are_elders = some ⟨ocare_elders, odare_elders, .func (PySem.W.fnOf "are_elders" "are_elders" (defArgs sEld) (defBody sEld) (defScope sEld) .none kVare_elders dcare_elders pmare_elders anare_elders cdare_elders ctare_elders), slare_elders⟩)
    (x_are_elders : PySem.W.codeIn K cdare_elders "are_elders" = true)
    (k_are_elders : PySem.W.keepIn K (.ref f_are_elders) = true)
    (a_wrong_elders : PySem.W.nsIn K mainGlobals "wrong_elders" = some (some (.ref f_wrong_elders)))
    {ocwrong_elders kVwrong_elders dcwrong_elders pmwrong_elders cdwrong_elders ctwrong_elders : Value} {odwrong_elders anwrong_elders : Option Addr} {slwrong_elders : Array (Option Value)}
    (l_wrong_elders : K.lookup f_wrong_elders = some ⟨ocwrong_elders, odwrong_elders, .func (PySem.W.fnOf "wrong_elders" "wrong_elders" (defArgs sWrE) (defBody sWrE) (defScope sWrE) .none kVwrong_elders dcwrong_elders pmwrong_elders anwrong_elders cdwrong_elders ctwrong_elders), slwrong_elders⟩)
    (x_wrong_elders : PySem.W.codeIn K cdwrong_elders "wrong_elders" = true)
    (k_wrong_elders : PySem.W.keepIn K (.ref f_wrong_elders) = true)
    (a_wrong_place : PySem.W.nsIn K mainGlobals "wrong_place" = some (some (.ref f_wrong_place)))
    {ocwrong_place kVwrong_place dcwrong_place pmwrong_place cdwrong_place ctwrong_place : Value} {odwrong_place anwrong_place : Option Addr} {slwrong_place : Array (Option Value)}
    (l_wrong_place : K.lookup f_wrong_place = some ⟨ocwrong_place, odwrong_place, .func (PySem.W.fnOf "wrong_place" "wrong_place" (defArgs sWrP) (defBody sWrP) (defScope sWrP) .none kVwrong_place dcwrong_place pmwrong_place anwrong_place cdwrong_place ctwrong_place), slwrong_place⟩)
    (x_wrong_place : PySem.W.codeIn K cdwrong_place "wrong_place" = true)
    (k_wrong_place : PySem.W.keepIn K (.ref f_wrong_place) = true)
    (a_table_above : PySem.W.nsIn K mainGlobals "table_above" = some (some (.ref f_table_above)))
    {octable_above kVtable_above dctable_above pmtable_above cdtable_above cttable_above : Value} {odtable_above antable_above : Option Addr} {sltable_above : Array (Option Value)}
    (l_table_above : K.lookup f_table_above = some ⟨octable_above, odtable_above, .func (PySem.W.fnOf "table_above" "table_above" (defArgs sTab) (defBody sTab) (defScope sTab) .none kVtable_above dctable_above pmtable_above antable_above cdtable_above cttable_above), sltable_above⟩)
    (x_table_above : PySem.W.codeIn K cdtable_above "table_above" = true)
    (k_table_above : PySem.W.keepIn K (.ref f_table_above) = true)
    (a_law_deck : PySem.W.nsIn K mainGlobals "_law_deck" = some (some (.ref f_law_deck)))
    {oclaw_deck kVlaw_deck dclaw_deck pmlaw_deck cdlaw_deck ctlaw_deck : Value} {odlaw_deck anlaw_deck : Option Addr} {sllaw_deck : Array (Option Value)}
    (l_law_deck : K.lookup f_law_deck = some ⟨oclaw_deck, odlaw_deck, .func (PySem.W.fnOf "_law_deck" "_law_deck" (defArgs sDeck) (defBody sDeck) (defScope sDeck) .none kVlaw_deck dclaw_deck pmlaw_deck anlaw_deck cdlaw_deck ctlaw_deck), sllaw_deck⟩)
    (x_law_deck : PySem.W.codeIn K cdlaw_deck "_law_deck" = true)
    (k_law_deck : PySem.W.keepIn K (.ref f_law_deck) = true)
    (a_law_next : PySem.W.nsIn K mainGlobals "_law_next" = some (some (.ref f_law_next)))
    {oclaw_next kVlaw_next dclaw_next pmlaw_next cdlaw_next ctlaw_next : Value} {odlaw_next anlaw_next : Option Addr} {sllaw_next : Array (Option Value)}
    (l_law_next : K.lookup f_law_next = some ⟨oclaw_next, odlaw_next, .func (PySem.W.fnOf "_law_next" "_law_next" (defArgs sNext) (defBody sNext) (defScope sNext) .none kVlaw_next dclaw_next pmlaw_next anlaw_next cdlaw_next ctlaw_next), sllaw_next⟩)
    (x_law_next : PySem.W.codeIn K cdlaw_next "_law_next" = true)
    (k_law_next : PySem.W.keepIn K (.ref f_law_next) = true)
    (a_law_same : PySem.W.nsIn K mainGlobals "_law_same" = some (some (.ref f_law_same)))
    {oclaw_same kVlaw_same dclaw_same pmlaw_same cdlaw_same ctlaw_same : Value} {odlaw_same anlaw_same : Option Addr} {sllaw_same : Array (Option Value)}
    (l_law_same : K.lookup f_law_same = some ⟨oclaw_same, odlaw_same, .func (PySem.W.fnOf "_law_same" "_law_same" (defArgs sSame) (defBody sSame) (defScope sSame) .none kVlaw_same dclaw_same pmlaw_same anlaw_same cdlaw_same ctlaw_same), sllaw_same⟩)
    (x_law_same : PySem.W.codeIn K cdlaw_same "_law_same" = true)
    (k_law_same : PySem.W.keepIn K (.ref f_law_same) = true)
    (a_law_some : PySem.W.nsIn K mainGlobals "_law_some" = some (some (.ref f_law_some)))
    {oclaw_some kVlaw_some dclaw_some pmlaw_some cdlaw_some ctlaw_some : Value} {odlaw_some anlaw_some : Option Addr} {sllaw_some : Array (Option Value)}
    (l_law_some : K.lookup f_law_some = some ⟨oclaw_some, odlaw_some, .func (PySem.W.fnOf "_law_some" "_law_some" (defArgs sSome) (defBody sSome) (defScope sSome) .none kVlaw_some dclaw_some pmlaw_some anlaw_some cdlaw_some ctlaw_some), sllaw_some⟩)
    (x_law_some : PySem.W.codeIn K cdlaw_some "_law_some" = true)
    (k_law_some : PySem.W.keepIn K (.ref f_law_some) = true)
    (a_law_four : PySem.W.nsIn K mainGlobals "_law_four" = some (some (.ref f_law_four)))
    {oclaw_four kVlaw_four dclaw_four pmlaw_four cdlaw_four ctlaw_four : Value} {odlaw_four anlaw_four : Option Addr} {sllaw_four : Array (Option Value)}
    (l_law_four : K.lookup f_law_four = some ⟨oclaw_four, odlaw_four, .func (PySem.W.fnOf "_law_four" "_law_four" (defArgs sFour) (defBody sFour) (defScope sFour) .none kVlaw_four dclaw_four pmlaw_four anlaw_four cdlaw_four ctlaw_four), sllaw_four⟩)
    (x_law_four : PySem.W.codeIn K cdlaw_four "_law_four" = true)
    (k_law_four : PySem.W.keepIn K (.ref f_law_four) = true)
    (a_law_made : PySem.W.nsIn K mainGlobals "_law_made" = some (some (.ref f_law_made)))
    {oclaw_made kVlaw_made dclaw_made pmlaw_made cdlaw_made ctlaw_made : Value} {odlaw_made anlaw_made : Option Addr} {sllaw_made : Array (Option Value)}
    (l_law_made : K.lookup f_law_made = some ⟨oclaw_made, odlaw_made, .func (PySem.W.fnOf "_law_made" "_law_made" (defArgs sMade) (defBody sMade) (defScope sMade) .none kVlaw_made dclaw_made pmlaw_made anlaw_made cdlaw_made ctlaw_made), sllaw_made⟩)
    (x_law_made : PySem.W.codeIn K cdlaw_made "_law_made" = true)
    (k_law_made : PySem.W.keepIn K (.ref f_law_made) = true)
    (a_law_above : PySem.W.nsIn K mainGlobals "_law_above" = some (some (.ref f_law_above)))
    {oclaw_above kVlaw_above dclaw_above pmlaw_above cdlaw_above ctlaw_above : Value} {odlaw_above anlaw_above : Option Addr} {sllaw_above : Array (Option Value)}
    (l_law_above : K.lookup f_law_above = some ⟨oclaw_above, odlaw_above, .func (PySem.W.fnOf "_law_above" "_law_above" (defArgs sAbo) (defBody sAbo) (defScope sAbo) .none kVlaw_above dclaw_above pmlaw_above anlaw_above cdlaw_above ctlaw_above), sllaw_above⟩)
    (x_law_above : PySem.W.codeIn K cdlaw_above "_law_above" = true)
    (k_law_above : PySem.W.keepIn K (.ref f_law_above) = true)
    (a_law_lot : PySem.W.nsIn K mainGlobals "_law_lot" = some (some (.ref f_law_lot)))
    {oclaw_lot kVlaw_lot dclaw_lot pmlaw_lot cdlaw_lot ctlaw_lot : Value} {odlaw_lot anlaw_lot : Option Addr} {sllaw_lot : Array (Option Value)}
    (l_law_lot : K.lookup f_law_lot = some ⟨oclaw_lot, odlaw_lot, .func (PySem.W.fnOf "_law_lot" "_law_lot" (defArgs sLot) (defBody sLot) (defScope sLot) .none kVlaw_lot dclaw_lot pmlaw_lot anlaw_lot cdlaw_lot ctlaw_lot), sllaw_lot⟩)
    (x_law_lot : PySem.W.codeIn K cdlaw_lot "_law_lot" = true)
    (k_law_lot : PySem.W.keepIn K (.ref f_law_lot) = true)
    (a_law_lots : PySem.W.nsIn K mainGlobals "_law_lots" = some (some (.ref f_law_lots)))
    {oclaw_lots kVlaw_lots dclaw_lots pmlaw_lots cdlaw_lots ctlaw_lots : Value} {odlaw_lots anlaw_lots : Option Addr} {sllaw_lots : Array (Option Value)}
    (l_law_lots : K.lookup f_law_lots = some ⟨oclaw_lots, odlaw_lots, .func (PySem.W.fnOf "_law_lots" "_law_lots" (defArgs sLots) (defBody sLots) (defScope sLots) .none kVlaw_lots dclaw_lots pmlaw_lots anlaw_lots cdlaw_lots ctlaw_lots), sllaw_lots⟩)
    (x_law_lots : PySem.W.codeIn K cdlaw_lots "_law_lots" = true)
    (k_law_lots : PySem.W.keepIn K (.ref f_law_lots) = true)
    (a_law_tree : PySem.W.nsIn K mainGlobals "_law_tree" = some (some (.ref f_law_tree)))
    {oclaw_tree kVlaw_tree dclaw_tree pmlaw_tree cdlaw_tree ctlaw_tree : Value} {odlaw_tree anlaw_tree : Option Addr} {sllaw_tree : Array (Option Value)}
    (l_law_tree : K.lookup f_law_tree = some ⟨oclaw_tree, odlaw_tree, .func (PySem.W.fnOf "_law_tree" "_law_tree" (defArgs sTree) (defBody sTree) (defScope sTree) .none kVlaw_tree dclaw_tree pmlaw_tree anlaw_tree cdlaw_tree ctlaw_tree), sllaw_tree⟩)
    (x_law_tree : PySem.W.codeIn K cdlaw_tree "_law_tree" = true)
    (k_law_tree : PySem.W.keepIn K (.ref f_law_tree) = true)
    (a_law_long : PySem.W.nsIn K mainGlobals "_law_long" = some (some (.ref f_law_long)))
    {oclaw_long kVlaw_long dclaw_long pmlaw_long cdlaw_long ctlaw_long : Value} {odlaw_long anlaw_long : Option Addr} {sllaw_long : Array (Option Value)}
    (l_law_long : K.lookup f_law_long = some ⟨oclaw_long, odlaw_long, .func (PySem.W.fnOf "_law_long" "_law_long" (defArgs sLong) (defBody sLong) (defScope sLong) .none kVlaw_long dclaw_long pmlaw_long anlaw_long cdlaw_long ctlaw_long), sllaw_long⟩)
    (x_law_long : PySem.W.codeIn K cdlaw_long "_law_long" = true)
    (k_law_long : PySem.W.keepIn K (.ref f_law_long) = true)
    (a_law_ways : PySem.W.nsIn K mainGlobals "_law_ways" = some (some (.ref f_law_ways)))
    {oclaw_ways kVlaw_ways dclaw_ways pmlaw_ways cdlaw_ways ctlaw_ways : Value} {odlaw_ways anlaw_ways : Option Addr} {sllaw_ways : Array (Option Value)}
    (l_law_ways : K.lookup f_law_ways = some ⟨oclaw_ways, odlaw_ways, .func (PySem.W.fnOf "_law_ways" "_law_ways" (defArgs sWys) (defBody sWys) (defScope sWys) .none kVlaw_ways dclaw_ways pmlaw_ways anlaw_ways cdlaw_ways ctlaw_ways), sllaw_ways⟩)
    (x_law_ways : PySem.W.codeIn K cdlaw_ways "_law_ways" = true)
    (k_law_ways : PySem.W.keepIn K (.ref f_law_ways) = true)
    (a_joined : PySem.W.nsIn K mainGlobals "joined" = some (some (.ref f_joined)))
    {ocjoined kVjoined dcjoined pmjoined cdjoined ctjoined : Value} {odjoined anjoined : Option Addr} {sljoined : Array (Option Value)}
    (l_joined : K.lookup f_joined = some ⟨ocjoined, odjoined, .func (PySem.W.fnOf "joined" "joined" (defArgs sJoin) (defBody sJoin) (defScope sJoin) .none kVjoined dcjoined pmjoined anjoined cdjoined ctjoined), sljoined⟩)
    (x_joined : PySem.W.codeIn K cdjoined "joined" = true)
    (k_joined : PySem.W.keepIn K (.ref f_joined) = true)
    (a_lot_of : PySem.W.nsIn K mainGlobals "lot_of" = some (some (.ref f_lot_of)))
    {oclot_of kVlot_of dclot_of pmlot_of cdlot_of ctlot_of : Value} {odlot_of anlot_of : Option Addr} {sllot_of : Array (Option Value)}
    (l_lot_of : K.lookup f_lot_of = some ⟨oclot_of, odlot_of, .func (PySem.W.fnOf "lot_of" "lot_of" (defArgs sLotOf) (defBody sLotOf) (defScope sLotOf) .none kVlot_of dclot_of pmlot_of anlot_of cdlot_of ctlot_of), sllot_of⟩)
    (x_lot_of : PySem.W.codeIn K cdlot_of "lot_of" = true)
    (k_lot_of : PySem.W.keepIn K (.ref f_lot_of) = true)
    (a_members : PySem.W.nsIn K mainGlobals "members" = some (some (.ref f_members)))
    {ocmembers kVmembers dcmembers pmmembers cdmembers ctmembers : Value} {odmembers anmembers : Option Addr} {slmembers : Array (Option Value)}
    (l_members : K.lookup f_members = some ⟨ocmembers, odmembers, .func (PySem.W.fnOf "members" "members" (defArgs sMem) (defBody sMem) (defScope sMem) .none kVmembers dcmembers pmmembers anmembers cdmembers ctmembers), slmembers⟩)
    (x_members : PySem.W.codeIn K cdmembers "members" = true)
    (k_members : PySem.W.keepIn K (.ref f_members) = true)
    (a_parts_of : PySem.W.nsIn K mainGlobals "parts_of" = some (some (.ref f_parts_of)))
    {ocparts_of kVparts_of dcparts_of pmparts_of ctparts_of oeparts_of : Value} {odparts_of anparts_of ozparts_of : Option Addr} {slparts_of szparts_of : Array (Option Value)} {c_parts_of P_parts_of : Addr} {vsparts_of : Array Value}
    (l_parts_of : K.lookup f_parts_of = some ⟨ocparts_of, odparts_of, .func (PySem.W.fnOf "parts_of" "parts_of" (defArgs sParts) (defBody sParts) (defScope sParts) .none kVparts_of dcparts_of pmparts_of anparts_of (.ref c_parts_of) ctparts_of), slparts_of⟩)
    (x_parts_of : PySem.W.codeIn K (.ref c_parts_of) "parts_of" = true)
    (lc_parts_of : K.lookup c_parts_of = some ⟨oeparts_of, ozparts_of, .fields vsparts_of, szparts_of⟩)
    (vp_parts_of : vsparts_of[11]? = some (.ref P_parts_of))
    (vn_parts_of : K.lookup P_parts_of = none)
    (k_parts_of : PySem.W.keepIn K (.ref f_parts_of) = true)
    (a_single_elders : PySem.W.nsIn K mainGlobals "single_elders" = some (some (.ref f_single_elders)))
    {ocsingle_elders kVsingle_elders dcsingle_elders pmsingle_elders cdsingle_elders ctsingle_elders : Value} {odsingle_elders ansingle_elders : Option Addr} {slsingle_elders : Array (Option Value)}
    (l_single_elders : K.lookup f_single_elders = some ⟨ocsingle_elders, odsingle_elders, .func (PySem.W.fnOf "single_elders" "single_elders" (defArgs sSing) (defBody sSing) (defScope sSing) .none kVsingle_elders dcsingle_elders pmsingle_elders ansingle_elders cdsingle_elders ctsingle_elders), slsingle_elders⟩)
    (x_single_elders : PySem.W.codeIn K cdsingle_elders "single_elders" = true)
    (k_single_elders : PySem.W.keepIn K (.ref f_single_elders) = true)
    (a_lots : PySem.W.nsIn K mainGlobals "lots" = some (some (.ref f_lots)))
    {oclots kVlots dclots pmlots ctlots oelots : Value} {odlots anlots ozlots : Option Addr} {sllots szlots : Array (Option Value)} {c_lots P_lots : Addr} {vslots : Array Value}
    (l_lots : K.lookup f_lots = some ⟨oclots, odlots, .func (PySem.W.fnOf "lots" "lots" (defArgs sLotsP) (defBody sLotsP) (defScope sLotsP) .none kVlots dclots pmlots anlots (.ref c_lots) ctlots), sllots⟩)
    (x_lots : PySem.W.codeIn K (.ref c_lots) "lots" = true)
    (lc_lots : K.lookup c_lots = some ⟨oelots, ozlots, .fields vslots, szlots⟩)
    (vp_lots : vslots[11]? = some (.ref P_lots))
    (vn_lots : K.lookup P_lots = none)
    (k_lots : PySem.W.keepIn K (.ref f_lots) = true)
    (a_with_kind : PySem.W.nsIn K mainGlobals "with_kind" = some (some (.ref f_with_kind)))
    {ocwith_kind kVwith_kind dcwith_kind pmwith_kind cdwith_kind ctwith_kind : Value} {odwith_kind anwith_kind : Option Addr} {slwith_kind : Array (Option Value)}
    (l_with_kind : K.lookup f_with_kind = some ⟨ocwith_kind, odwith_kind, .func (PySem.W.fnOf "with_kind" "with_kind" (defArgs sWk) (defBody sWk) (defScope sWk) .none kVwith_kind dcwith_kind pmwith_kind anwith_kind cdwith_kind ctwith_kind), slwith_kind⟩)
    (x_with_kind : PySem.W.codeIn K cdwith_kind "with_kind" = true)
    (k_with_kind : PySem.W.keepIn K (.ref f_with_kind) = true)
    (a_without_kind : PySem.W.nsIn K mainGlobals "without_kind" = some (some (.ref f_without_kind)))
    {ocwithout_kind kVwithout_kind dcwithout_kind pmwithout_kind cdwithout_kind ctwithout_kind : Value} {odwithout_kind anwithout_kind : Option Addr} {slwithout_kind : Array (Option Value)}
    (l_without_kind : K.lookup f_without_kind = some ⟨ocwithout_kind, odwithout_kind, .func (PySem.W.fnOf "without_kind" "without_kind" (defArgs sWo) (defBody sWo) (defScope sWo) .none kVwithout_kind dcwithout_kind pmwithout_kind anwithout_kind cdwithout_kind ctwithout_kind), slwithout_kind⟩)
    (x_without_kind : PySem.W.codeIn K cdwithout_kind "without_kind" = true)
    (k_without_kind : PySem.W.keepIn K (.ref f_without_kind) = true)
    (a_ways_on : PySem.W.nsIn K mainGlobals "ways_on" = some (some (.ref f_ways_on)))
    {ocways_on kVways_on dcways_on pmways_on cdways_on ctways_on : Value} {odways_on anways_on : Option Addr} {slways_on : Array (Option Value)}
    (l_ways_on : K.lookup f_ways_on = some ⟨ocways_on, odways_on, .func (PySem.W.fnOf "ways_on" "ways_on" (defArgs sWyo) (defBody sWyo) (defScope sWyo) .none kVways_on dcways_on pmways_on anways_on cdways_on ctways_on), slways_on⟩)
    (x_ways_on : PySem.W.codeIn K cdways_on "ways_on" = true)
    (k_ways_on : PySem.W.keepIn K (.ref f_ways_on) = true)
    (a_reached_places : PySem.W.nsIn K mainGlobals "reached_places" = some (some (.ref f_reached_places)))
    {ocreached_places kVreached_places dcreached_places pmreached_places cdreached_places ctreached_places : Value} {odreached_places anreached_places : Option Addr} {slreached_places : Array (Option Value)}
    (l_reached_places : K.lookup f_reached_places = some ⟨ocreached_places, odreached_places, .func (PySem.W.fnOf "reached_places" "reached_places" (defArgs sRpl) (defBody sRpl) (defScope sRpl) .none kVreached_places dcreached_places pmreached_places anreached_places cdreached_places ctreached_places), slreached_places⟩)
    (x_reached_places : PySem.W.codeIn K cdreached_places "reached_places" = true)
    (k_reached_places : PySem.W.keepIn K (.ref f_reached_places) = true)
    (a_law : PySem.W.nsIn K mainGlobals "law" = some (some (.ref f_law)))
    {oclaw kVlaw dclaw pmlaw cdlaw ctlaw : Value} {odlaw anlaw : Option Addr} {sllaw : Array (Option Value)}
    (l_law : K.lookup f_law = some ⟨oclaw, odlaw, .func (PySem.W.fnOf "law" "law" (defArgs sLaw) (defBody sLaw) (defScope sLaw) .none kVlaw dclaw pmlaw anlaw cdlaw ctlaw), sllaw⟩)
    (x_law : PySem.W.codeIn K cdlaw "law" = true)
    (k_law : PySem.W.keepIn K (.ref f_law) = true)
    (nC : PySem.W.nsIn K mainGlobals "Kinds" = some (some (.ref cC)))
    (y_m_init : PySem.W.findIn K (.ref cC) "__init__" = some (some (.ref f_m_init)))
    {ocm_init kVm_init dcm_init pmm_init cdm_init ctm_init : Value} {odm_init anm_init : Option Addr} {slm_init : Array (Option Value)}
    (l_m_init : K.lookup f_m_init = some ⟨ocm_init, odm_init, .func (PySem.W.fnOf "__init__" "Kinds.__init__" (defArgs sIni) (defBody sIni) (defScope sIni) .none kVm_init dcm_init pmm_init anm_init cdm_init ctm_init), slm_init⟩)
    (x_m_init : PySem.W.codeIn K cdm_init "Kinds.__init__" = true)
    (k_m_init : PySem.W.keepIn K (.ref f_m_init) = true)
    (i_m_init : PySem.W.isFn K (.ref f_m_init) = true)
    (y_m_above : PySem.W.findIn K (.ref cC) "above" = some (some (.ref f_m_above)))
    {ocm_above kVm_above dcm_above pmm_above cdm_above ctm_above : Value} {odm_above anm_above : Option Addr} {slm_above : Array (Option Value)}
    (l_m_above : K.lookup f_m_above = some ⟨ocm_above, odm_above, .func (PySem.W.fnOf "above" "Kinds.above" (defArgs sAbv) (defBody sAbv) (defScope sAbv) .none kVm_above dcm_above pmm_above anm_above cdm_above ctm_above), slm_above⟩)
    (x_m_above : PySem.W.codeIn K cdm_above "Kinds.above" = true)
    (k_m_above : PySem.W.keepIn K (.ref f_m_above) = true)
    (i_m_above : PySem.W.isFn K (.ref f_m_above) = true)
    (y_m_len : PySem.W.findIn K (.ref cC) "__len__" = some (some (.ref f_m_len)))
    {ocm_len kVm_len dcm_len pmm_len cdm_len ctm_len : Value} {odm_len anm_len : Option Addr} {slm_len : Array (Option Value)}
    (l_m_len : K.lookup f_m_len = some ⟨ocm_len, odm_len, .func (PySem.W.fnOf "__len__" "Kinds.__len__" (defArgs sLen) (defBody sLen) (defScope sLen) .none kVm_len dcm_len pmm_len anm_len cdm_len ctm_len), slm_len⟩)
    (x_m_len : PySem.W.codeIn K cdm_len "Kinds.__len__" = true)
    (k_m_len : PySem.W.keepIn K (.ref f_m_len) = true)
    (i_m_len : PySem.W.isFn K (.ref f_m_len) = true)
    (y_m_opened : PySem.W.findIn K (.ref cC) "opened" = some (some (.ref f_m_opened)))
    {ocm_opened kVm_opened dcm_opened pmm_opened cdm_opened ctm_opened : Value} {odm_opened anm_opened : Option Addr} {slm_opened : Array (Option Value)}
    (l_m_opened : K.lookup f_m_opened = some ⟨ocm_opened, odm_opened, .func (PySem.W.fnOf "opened" "Kinds.opened" (defArgs sOpn) (defBody sOpn) (defScope sOpn) .none kVm_opened dcm_opened pmm_opened anm_opened cdm_opened ctm_opened), slm_opened⟩)
    (x_m_opened : PySem.W.codeIn K cdm_opened "Kinds.opened" = true)
    (k_m_opened : PySem.W.keepIn K (.ref f_m_opened) = true)
    (i_m_opened : PySem.W.isFn K (.ref f_m_opened) = true)
    (y_p_hollow : PySem.W.findIn K (.ref cC) "hollow" = some (some (.ref p_hollow)))
    {rsp_hollow : List Value}
    (r_p_hollow : PySem.W.recIn K p_hollow "property" = some (.ref f_p_hollow :: rsp_hollow))
    (o_p_hollow : prB K p_hollow = true)
    {ocp_hollow kVp_hollow dcp_hollow pmp_hollow cdp_hollow ctp_hollow : Value} {odp_hollow anp_hollow : Option Addr} {slp_hollow : Array (Option Value)}
    (l_p_hollow : K.lookup f_p_hollow = some ⟨ocp_hollow, odp_hollow, .func (PySem.W.fnOf "hollow" "Kinds.hollow" (defArgs sGH) (defBody sGH) (defScope sGH) .none kVp_hollow dcp_hollow pmp_hollow anp_hollow cdp_hollow ctp_hollow), slp_hollow⟩)
    (x_p_hollow : PySem.W.codeIn K cdp_hollow "Kinds.hollow" = true)
    (k_p_hollow : PySem.W.keepIn K (.ref f_p_hollow) = true)
    (y_p_several : PySem.W.findIn K (.ref cC) "several" = some (some (.ref p_several)))
    {rsp_several : List Value}
    (r_p_several : PySem.W.recIn K p_several "property" = some (.ref f_p_several :: rsp_several))
    (o_p_several : prB K p_several = true)
    {ocp_several kVp_several dcp_several pmp_several cdp_several ctp_several : Value} {odp_several anp_several : Option Addr} {slp_several : Array (Option Value)}
    (l_p_several : K.lookup f_p_several = some ⟨ocp_several, odp_several, .func (PySem.W.fnOf "several" "Kinds.several" (defArgs sGS) (defBody sGS) (defScope sGS) .none kVp_several dcp_several pmp_several anp_several cdp_several ctp_several), slp_several⟩)
    (x_p_several : PySem.W.codeIn K cdp_several "Kinds.several" = true)
    (k_p_several : PySem.W.keepIn K (.ref f_p_several) = true)
    (tC : kcB K cC f_m_init = true)
    (tI : kiB K cC = true)
    (z_abs : PySem.W.nsIn K mainGlobals "abs" = some none)
    (z_len : PySem.W.nsIn K mainGlobals "len" = some none)
    (z_int : PySem.W.nsIn K mainGlobals "int" = some none)
    (z_isinstance : PySem.W.nsIn K mainGlobals "isinstance" = some none)
    (z_tuple : PySem.W.nsIn K mainGlobals "tuple" = some none)
    (z_list : PySem.W.nsIn K mainGlobals "list" = some none)
    (z_str : PySem.W.nsIn K mainGlobals "str" = some none)
    (z_bool : PySem.W.nsIn K mainGlobals "bool" = some none)
    (z_dict : PySem.W.nsIn K mainGlobals "dict" = some none)
    (z_zip : PySem.W.nsIn K mainGlobals "zip" = some none)
    (z_all : PySem.W.nsIn K mainGlobals "all" = some none)
    (z_repr : PySem.W.nsIn K mainGlobals "repr" = some none)
    (z_range : PySem.W.nsIn K mainGlobals "range" = some none)
    (z_set : PySem.W.nsIn K mainGlobals "set" = some none)
    (z_sorted : PySem.W.nsIn K mainGlobals "sorted" = some none)
    (z_enumerate : PySem.W.nsIn K mainGlobals "enumerate" = some none)
    (z_min : PySem.W.nsIn K mainGlobals "min" = some none)
    {t_MAX_KINDS : Tok}
    (u_MAX_KINDS : PySem.W.nsIn K mainGlobals "MAX_KINDS" = some (some (.int 6 t_MAX_KINDS)))
    (nePP : P_parts_of ≠ P_lots)
    : ∃ (fd : FuncData) (cs : List (Addr × Addr)) (T : List (Addr × Str)), (∀ (s : Shared) (v : Value), BindsTo s fd ⟨[v], []⟩ [("_law_script", v)]) ∧ (∀ t ∈ cs, K.lookup t.2 = none ∧ ∃ y ∈ (["parts_of", "lots"] : List Str), PySem.W.tabIn K y = some t) ∧ (∀ t ∈ T, ∃ c ∈ cs, c.2 = t.1) ∧ ∀ base : Heap, K.In base → base.Ns mainGlobals mg → (∃ o, base.get? sysModules = some o) → (∀ t ∈ cs, TabB base mg t.1 t.2) → FnG l.prog w K mg base 41 fa fd ["_law_script"] (spLaw K T) := by
  have e := hfa.symm.trans (PySem.W.mg_of X G a_law)
  cases e
  have F_is_number := fun_mk (st := sNum) l_is_number x_is_number k_is_number
  have F_is_index := fun_mk (st := sIdx) l_is_index x_is_index k_is_index
  have F_is_bool := fun_mk (st := sIsB) l_is_bool x_is_bool k_is_bool
  have F_is_ascending := fun_mk (st := sAsc) l_is_ascending x_is_ascending k_is_ascending
  have F_are_elders := fun_mk (st := sEld) l_are_elders x_are_elders k_are_elders
  have F_wrong_elders := fun_mk (st := sWrE) l_wrong_elders x_wrong_elders k_wrong_elders
  have F_wrong_place := fun_mk (st := sWrP) l_wrong_place x_wrong_place k_wrong_place
  have F_table_above := fun_mk (st := sTab) l_table_above x_table_above k_table_above
  have F_law_deck := fun_mk (st := sDeck) l_law_deck x_law_deck k_law_deck
  have F_law_next := fun_mk (st := sNext) l_law_next x_law_next k_law_next
  have F_law_same := fun_mk (st := sSame) l_law_same x_law_same k_law_same
  have F_law_some := fun_mk (st := sSome) l_law_some x_law_some k_law_some
  have F_law_four := fun_mk (st := sFour) l_law_four x_law_four k_law_four
  have F_law_made := fun_mk (st := sMade) l_law_made x_law_made k_law_made
  have F_law_above := fun_mk (st := sAbo) l_law_above x_law_above k_law_above
  have F_law_lot := fun_mk (st := sLot) l_law_lot x_law_lot k_law_lot
  have F_law_lots := fun_mk (st := sLots) l_law_lots x_law_lots k_law_lots
  have F_law_tree := fun_mk (st := sTree) l_law_tree x_law_tree k_law_tree
  have F_law_long := fun_mk (st := sLong) l_law_long x_law_long k_law_long
  have F_law_ways := fun_mk (st := sWys) l_law_ways x_law_ways k_law_ways
  have F_joined := fun_mk (st := sJoin) l_joined x_joined k_joined
  have F_lot_of := fun_mk (st := sLotOf) l_lot_of x_lot_of k_lot_of
  have F_members := fun_mk (st := sMem) l_members x_members k_members
  have F_parts_of := fun_mk (st := sParts) l_parts_of x_parts_of k_parts_of
  have F_single_elders := fun_mk (st := sSing) l_single_elders x_single_elders k_single_elders
  have F_lots := fun_mk (st := sLotsP) l_lots x_lots k_lots
  have F_with_kind := fun_mk (st := sWk) l_with_kind x_with_kind k_with_kind
  have F_without_kind := fun_mk (st := sWo) l_without_kind x_without_kind k_without_kind
  have F_ways_on := fun_mk (st := sWyo) l_ways_on x_ways_on k_ways_on
  have F_reached_places := fun_mk (st := sRpl) l_reached_places x_reached_places k_reached_places
  have F_law := fun_mk (st := sLaw) l_law x_law k_law
  have F_m_init := fun_mk (st := sIni) l_m_init x_m_init k_m_init
  have F_m_above := fun_mk (st := sAbv) l_m_above x_m_above k_m_above
  have F_m_len := fun_mk (st := sLen) l_m_len x_m_len k_m_len
  have F_m_opened := fun_mk (st := sOpn) l_m_opened x_m_opened k_m_opened
  have F_p_hollow := fun_mk (st := sGH) l_p_hollow x_p_hollow k_p_hollow
  have F_p_several := fun_mk (st := sGS) l_p_several x_p_several k_p_several
  have b_is_number := F_is_number.binds (ps := ["value"]) fun _ _ _ _ _ _ us hl => match us, hl with | [_], _ => rfl
  have b_is_index := F_is_index.binds (ps := ["value", "limit"]) fun _ _ _ _ _ _ us hl => match us, hl with | [_, _], _ => rfl
  have b_is_bool := F_is_bool.binds (ps := ["value"]) fun _ _ _ _ _ _ us hl => match us, hl with | [_], _ => rfl
  have b_is_ascending := F_is_ascending.binds (ps := ["value", "limit"]) fun _ _ _ _ _ _ us hl => match us, hl with | [_, _], _ => rfl
  have b_are_elders := F_are_elders.binds (ps := ["value", "kind", "several"]) fun _ _ _ _ _ _ us hl => match us, hl with | [_, _, _], _ => rfl
  have b_wrong_elders := F_wrong_elders.binds (ps := ["elders", "several"]) fun _ _ _ _ _ _ us hl => match us, hl with | [_, _], _ => rfl
  have b_wrong_place := F_wrong_place.binds (ps := ["elders", "closed", "hollow", "several"]) fun _ _ _ _ _ _ us hl => match us, hl with | [_, _, _, _], _ => rfl
  have b_table_above := F_table_above.binds (ps := ["elders"]) fun _ _ _ _ _ _ us hl => match us, hl with | [_], _ => rfl
  have b_law_deck := F_law_deck.binds (ps := ["_law_script"]) fun _ _ _ _ _ _ us hl => match us, hl with | [_], _ => rfl
  have b_law_next := F_law_next.binds (ps := ["_law_deck_here", "_law_many"]) fun _ _ _ _ _ _ us hl => match us, hl with | [_, _], _ => rfl
  have b_law_same := F_law_same.binds (ps := ["_law_found", "_law_due"]) fun _ _ _ _ _ _ us hl => match us, hl with | [_, _], _ => rfl
  have b_law_some := F_law_some.binds (ps := ["_law_deck_here", "_law_many", "_law_most"]) fun _ _ _ _ _ _ us hl => match us, hl with | [_, _, _], _ => rfl
  have b_law_four := F_law_four.binds (ps := ["_law_deck_here", "_law_most"]) fun _ _ _ _ _ _ us hl => match us, hl with | [_, _], _ => rfl
  have b_law_made := F_law_made.binds (ps := ["_law_four_here"]) fun _ _ _ _ _ _ us hl => match us, hl with | [_], _ => rfl
  have b_law_above := F_law_above.binds (ps := ["_law_elders"]) fun _ _ _ _ _ _ us hl => match us, hl with | [_], _ => rfl
  have b_law_lot := F_law_lot.binds (ps := ["_law_rows_here", "_law_many"]) fun _ _ _ _ _ _ us hl => match us, hl with | [_, _], _ => rfl
  have b_law_lots := F_law_lots.binds (ps := ["_law_four_here"]) fun _ _ _ _ _ _ us hl => match us, hl with | [_], _ => rfl
  have b_law_tree := F_law_tree.binds (ps := ["_law_deck_here", "_law_many", "_law_deep"]) fun _ _ _ _ _ _ us hl => match us, hl with | [_, _, _], _ => rfl
  have b_law_long := F_law_long.binds (ps := ["_law_deck_here", "_law_many", "_law_size"]) fun _ _ _ _ _ _ us hl => match us, hl with | [_, _, _], _ => rfl
  have b_law_ways := F_law_ways.binds (ps := ["_law_tree_here", "_law_lot_here"]) fun _ _ _ _ _ _ us hl => match us, hl with | [_, _], _ => rfl
  have b_joined := F_joined.binds (ps := ["some"]) fun _ _ _ _ _ _ us hl => match us, hl with | [_], _ => rfl
  have b_lot_of := F_lot_of.binds (ps := ["kinds", "extension", "number"]) fun _ _ _ _ _ _ us hl => match us, hl with | [_, _, _], _ => rfl
  have b_members := F_members.binds (ps := ["kinds", "extension"]) fun _ _ _ _ _ _ us hl => match us, hl with | [_, _], _ => rfl
  have b_parts_of := F_parts_of.binds (ps := ["items"]) fun _ _ _ _ _ _ us hl => match us, hl with | [_], _ => rfl
  have b_single_elders := F_single_elders.binds (ps := ["kinds"]) fun _ _ _ _ _ _ us hl => match us, hl with | [_], _ => rfl
  have b_lots := F_lots.binds (ps := ["kinds"]) fun _ _ _ _ _ _ us hl => match us, hl with | [_], _ => rfl
  have b_with_kind := F_with_kind.binds (ps := ["some", "kind"]) fun _ _ _ _ _ _ us hl => match us, hl with | [_, _], _ => rfl
  have b_without_kind := F_without_kind.binds (ps := ["some", "kind"]) fun _ _ _ _ _ _ us hl => match us, hl with | [_, _], _ => rfl
  have b_ways_on := F_ways_on.binds (ps := ["place", "tree", "some"]) fun _ _ _ _ _ _ us hl => match us, hl with | [_, _, _], _ => rfl
  have b_reached_places := F_reached_places.binds (ps := ["kinds", "tree"]) fun _ _ _ _ _ _ us hl => match us, hl with | [_, _], _ => rfl
  have b_m_init := F_m_init.binds (ps := ["self", "elders", "closed", "hollow", "several"]) fun _ _ _ _ _ _ us hl => match us, hl with | [_, _, _, _, _], _ => rfl
  have b_m_above := F_m_above.binds (ps := ["self", "kind"]) fun _ _ _ _ _ _ us hl => match us, hl with | [_, _], _ => rfl
  have b_m_len := F_m_len.binds (ps := ["self"]) fun _ _ _ _ _ _ us hl => match us, hl with | [_], _ => rfl
  have b_m_opened := F_m_opened.binds (ps := ["self"]) fun _ _ _ _ _ _ us hl => match us, hl with | [_], _ => rfl
  have b_p_hollow := F_p_hollow.binds (ps := ["self"]) fun _ _ _ _ _ _ us hl => match us, hl with | [_], _ => rfl
  have b_p_several := F_p_several.binds (ps := ["self"]) fun _ _ _ _ _ _ us hl => match us, hl with | [_], _ => rfl
  have g_is_number := PySem.W.mg_of X G a_is_number
  have g_is_index := PySem.W.mg_of X G a_is_index
  have g_is_bool := PySem.W.mg_of X G a_is_bool
  have g_is_ascending := PySem.W.mg_of X G a_is_ascending
  have g_are_elders := PySem.W.mg_of X G a_are_elders
  have g_wrong_elders := PySem.W.mg_of X G a_wrong_elders
  have g_wrong_place := PySem.W.mg_of X G a_wrong_place
  have g_table_above := PySem.W.mg_of X G a_table_above
  have g_law_deck := PySem.W.mg_of X G a_law_deck
  have g_law_next := PySem.W.mg_of X G a_law_next
  have g_law_same := PySem.W.mg_of X G a_law_same
  have g_law_some := PySem.W.mg_of X G a_law_some
  have g_law_four := PySem.W.mg_of X G a_law_four
  have g_law_made := PySem.W.mg_of X G a_law_made
  have g_law_above := PySem.W.mg_of X G a_law_above
  have g_law_lot := PySem.W.mg_of X G a_law_lot
  have g_law_lots := PySem.W.mg_of X G a_law_lots
  have g_law_tree := PySem.W.mg_of X G a_law_tree
  have g_law_long := PySem.W.mg_of X G a_law_long
  have g_law_ways := PySem.W.mg_of X G a_law_ways
  have g_joined := PySem.W.mg_of X G a_joined
  have g_lot_of := PySem.W.mg_of X G a_lot_of
  have g_members := PySem.W.mg_of X G a_members
  have g_parts_of := PySem.W.mg_of X G a_parts_of
  have g_single_elders := PySem.W.mg_of X G a_single_elders
  have g_lots := PySem.W.mg_of X G a_lots
  have g_with_kind := PySem.W.mg_of X G a_with_kind
  have g_without_kind := PySem.W.mg_of X G a_without_kind
  have g_ways_on := PySem.W.mg_of X G a_ways_on
  have g_reached_places := PySem.W.mg_of X G a_reached_places
  have g_law := PySem.W.mg_of X G a_law
  have B : Bl mg := ⟨(PySem.W.mg_none_of X G z_abs), (PySem.W.mg_none_of X G z_len), (PySem.W.mg_none_of X G z_int), (PySem.W.mg_none_of X G z_isinstance), (PySem.W.mg_none_of X G z_tuple), (PySem.W.mg_none_of X G z_list), (PySem.W.mg_none_of X G z_str), (PySem.W.mg_none_of X G z_bool), (PySem.W.mg_none_of X G z_dict), (PySem.W.mg_none_of X G z_zip), (PySem.W.mg_none_of X G z_all), (PySem.W.mg_none_of X G z_repr), (PySem.W.mg_none_of X G z_range)⟩
  have M : Bm mg := ⟨(PySem.W.mg_none_of X G z_set), (PySem.W.mg_none_of X G z_sorted), (PySem.W.mg_none_of X G z_enumerate)⟩
  have mxk : ∃ t, mg "MAX_KINDS" = some (.int 6 t) := ⟨t_MAX_KINDS, PySem.W.mg_of X G u_MAX_KINDS⟩
  have n_min := PySem.W.mg_none_of X G z_min
  obtain ⟨TC, MC⟩ := kcB_ok y_m_init tC
  obtain ⟨JC, hne, hob⟩ := kiB_ok tI
  have gC := PySem.W.mg_of X G nC
  refine ⟨PySem.W.fnOf "law" "law" (defArgs sLaw) (defBody sLaw) (defScope sLaw) .none kVlaw dclaw pmlaw anlaw cdlaw ctlaw, [(c_parts_of, P_parts_of), (c_lots, P_lots)], [(P_parts_of, "parts_of.<locals>.<lambda>"), (P_lots, "lots.<locals>.<lambda>")], fun s v => .of_eq rfl, fun t ht => ?_, fun t ht => ?_, fun base _ _ hsys tb => ?_⟩
  · rcases List.mem_cons.mp ht with z | z
    · rw [z]; exact ⟨vn_parts_of, _, List.mem_cons_self .., tabIn_of a_parts_of l_parts_of rfl lc_parts_of vp_parts_of⟩
    · rw [List.mem_singleton.mp z]; exact ⟨vn_lots, _, List.mem_cons_of_mem _ (List.mem_singleton.mpr rfl), tabIn_of a_lots l_lots rfl lc_lots vp_lots⟩
  · rcases List.mem_cons.mp ht with z | z
    · rw [z]; exact ⟨_, List.mem_cons_self .., rfl⟩
    · rw [List.mem_singleton.mp z]; exact ⟨_, List.mem_cons_of_mem _ (List.mem_singleton.mpr rfl), rfl⟩
  have Lm_parts_of : ∀ {fd : FuncData}, fd.code = .ref c_parts_of → Lm mg base [(P_parts_of, "parts_of.<locals>.<lambda>"), (P_lots, "lots.<locals>.<lambda>")] fd "parts_of.<locals>.<lambda>" := fun hfd => ⟨c_parts_of, P_parts_of, hfd, tb (c_parts_of, P_parts_of) (List.mem_cons_self ..), List.mem_cons_self .., (two_tabs nePP).1⟩
  have Lm_lots : ∀ {fd : FuncData}, fd.code = .ref c_lots → Lm mg base [(P_parts_of, "parts_of.<locals>.<lambda>"), (P_lots, "lots.<locals>.<lambda>")] fd "lots.<locals>.<lambda>" := fun hfd => ⟨c_lots, P_lots, hfd, tb (c_lots, P_lots) (List.mem_cons_of_mem _ (List.mem_singleton.mpr rfl)), List.mem_cons_of_mem _ (List.mem_singleton.mpr rfl), (two_tabs nePP).2⟩
  have G_is_number : FnOk l.prog w K mg base CX0 1 f_is_number _ ["value"] spNum := ok_num (k := 0) F_is_number B
  have C_is_number : Cal l.prog w K mg base "is_number" 1 ["value"] spNum := ⟨_, _, g_is_number, k_is_number, b_is_number, G_is_number⟩
  have G_is_index : FnOk l.prog w K mg base CX0 2 f_is_index _ ["value", "limit"] spIdx := ok_idx (k := 0) F_is_index B F_is_number b_is_number g_is_number
  have C_is_index : Cal l.prog w K mg base "is_index" 2 ["value", "limit"] spIdx := ⟨_, _, g_is_index, k_is_index, b_is_index, G_is_index⟩
  have G_is_bool : FnOk l.prog w K mg base CX0 1 f_is_bool _ ["value"] spIsB := ok_isB (k := 0) F_is_bool
  have C_is_bool : Cal l.prog w K mg base "is_bool" 1 ["value"] spIsB := ⟨_, _, g_is_bool, k_is_bool, b_is_bool, G_is_bool⟩
  have G_is_ascending : FnOk l.prog w K mg base CX0 3 f_is_ascending _ ["value", "limit"] spAsc := ok_asc (k := 0) F_is_ascending B G_is_index k_is_index b_is_index g_is_index
  have C_is_ascending : Cal l.prog w K mg base "is_ascending" 3 ["value", "limit"] spAsc := ⟨_, _, g_is_ascending, k_is_ascending, b_is_ascending, G_is_ascending⟩
  have G_are_elders : FnOk l.prog w K mg base CX0 4 f_are_elders _ ["value", "kind", "several"] spEld := ok_eld F_are_elders B G_is_ascending k_is_ascending b_is_ascending g_is_ascending
  have C_are_elders : Cal l.prog w K mg base "are_elders" 4 ["value", "kind", "several"] spEld := ⟨_, _, g_are_elders, k_are_elders, b_are_elders, G_are_elders⟩
  have G_wrong_elders : FnOk l.prog w K mg base CX0 5 f_wrong_elders _ ["elders", "several"] spWrE := ok_wrE F_wrong_elders M.enum G_are_elders k_are_elders b_are_elders g_are_elders
  have C_wrong_elders : Cal l.prog w K mg base "wrong_elders" 5 ["elders", "several"] spWrE := ⟨_, _, g_wrong_elders, k_wrong_elders, b_wrong_elders, G_wrong_elders⟩
  have G_wrong_place : FnOk l.prog w K mg base CX0 6 f_wrong_place _ ["elders", "closed", "hollow", "several"] spWrP := ok_wrP F_wrong_place B mxk G_is_ascending k_is_ascending b_is_ascending g_is_ascending G_wrong_elders k_wrong_elders b_wrong_elders g_wrong_elders C_is_bool
  have C_wrong_place : Cal l.prog w K mg base "wrong_place" 6 ["elders", "closed", "hollow", "several"] spWrP := ⟨_, _, g_wrong_place, k_wrong_place, b_wrong_place, G_wrong_place⟩
  have G_table_above : FnOk l.prog w K mg base CX0 1 f_table_above _ ["elders"] spTab := ok_tab (k := 0) F_table_above B M
  have C_table_above : Cal l.prog w K mg base "table_above" 1 ["elders"] spTab := ⟨_, _, g_table_above, k_table_above, b_table_above, G_table_above⟩
  have G_m_init : FnOk l.prog w K mg base CX0 7 f_m_init _ ["self", "elders", "closed", "hollow", "several"] (spIni cC) := ok_ini F_m_init TC G_wrong_place k_wrong_place b_wrong_place g_wrong_place G_table_above k_table_above b_table_above g_table_above
  have G_law_deck : FnOk l.prog w K mg base CX0 1 f_law_deck _ ["_law_script"] (spDeck K) := ok_deck (k := 0) F_law_deck B.abs B.len
  have C_law_deck : Cal l.prog w K mg base "_law_deck" 1 ["_law_script"] (spDeck K) := ⟨_, _, g_law_deck, k_law_deck, b_law_deck, G_law_deck⟩
  have G_law_next : FnOk l.prog w K mg base CX0 1 f_law_next _ ["_law_deck_here", "_law_many"] spNext := ok_next (k := 0) F_law_next B.int B.len
  have C_law_next : Cal l.prog w K mg base "_law_next" 1 ["_law_deck_here", "_law_many"] spNext := ⟨_, _, g_law_next, k_law_next, b_law_next, G_law_next⟩
  have C_law_same : CalG l.prog w K mg base "_law_same" 7 ["_law_found", "_law_due"] (spSame 7) := ⟨_, _, g_law_same, k_law_same, b_law_same, ok_same F_law_same B b_law_same g_law_same 7⟩
  have G_law_some : FnOk l.prog w K mg base CX0 2 f_law_some _ ["_law_deck_here", "_law_many", "_law_most"] spSome := ok_some F_law_some B G_law_next k_law_next b_law_next g_law_next
  have C_law_some : Cal l.prog w K mg base "_law_some" 2 ["_law_deck_here", "_law_many", "_law_most"] spSome := ⟨_, _, g_law_some, k_law_some, b_law_some, G_law_some⟩
  have G_law_four : FnOk l.prog w K mg base CX0 3 f_law_four _ ["_law_deck_here", "_law_most"] spFour := ok_four F_law_four B G_law_next k_law_next b_law_next g_law_next G_law_some k_law_some b_law_some g_law_some
  have C_law_four : Cal l.prog w K mg base "_law_four" 3 ["_law_deck_here", "_law_most"] spFour := ⟨_, _, g_law_four, k_law_four, b_law_four, G_law_four⟩
  have G_law_made : FnOk l.prog w K mg base CX0 9 f_law_made _ ["_law_four_here"] (spMade cC) := ok_made F_law_made MC G_m_init b_m_init gC
  have C_law_made : Cal l.prog w K mg base "_law_made" 9 ["_law_four_here"] (spMade cC) := ⟨_, _, g_law_made, k_law_made, b_law_made, G_law_made⟩
  have G_law_above : FnOk l.prog w K mg base CX0 1 f_law_above _ ["_law_elders"] spAbo := ok_abo (k := 0) F_law_above B
  have C_law_above : Cal l.prog w K mg base "_law_above" 1 ["_law_elders"] spAbo := ⟨_, _, g_law_above, k_law_above, b_law_above, G_law_above⟩
  have G_law_lot : FnOk l.prog w K mg base CX0 1 f_law_lot _ ["_law_rows_here", "_law_many"] spLot := ok_lot (k := 0) F_law_lot B
  have C_law_lot : Cal l.prog w K mg base "_law_lot" 1 ["_law_rows_here", "_law_many"] spLot := ⟨_, _, g_law_lot, k_law_lot, b_law_lot, G_law_lot⟩
  have G_law_lots : FnOk l.prog w K mg base CX0 2 f_law_lots _ ["_law_four_here"] spLots := ok_lots F_law_lots B M n_min C_law_above C_law_lot
  have C_law_lots : Cal l.prog w K mg base "_law_lots" 2 ["_law_four_here"] spLots := ⟨_, _, g_law_lots, k_law_lots, b_law_lots, G_law_lots⟩
  have G_law_tree : FnOk l.prog w K mg base CX0 5 f_law_tree _ ["_law_deck_here", "_law_many", "_law_deep"] (spTree 4) := ok_tree F_law_tree C_law_next g_law_tree b_law_tree 4
  have C_law_tree : Cal l.prog w K mg base "_law_tree" 5 ["_law_deck_here", "_law_many", "_law_deep"] (spTree 4) := ⟨_, _, g_law_tree, k_law_tree, b_law_tree, G_law_tree⟩
  have G_law_long : FnOk l.prog w K mg base CX0 2 f_law_long _ ["_law_deck_here", "_law_many", "_law_size"] spLong := ok_long F_law_long B C_law_next
  have C_law_long : Cal l.prog w K mg base "_law_long" 2 ["_law_deck_here", "_law_many", "_law_size"] spLong := ⟨_, _, g_law_long, k_law_long, b_law_long, G_law_long⟩
  have G_law_ways : FnOk l.prog w K mg base CX0 1 f_law_ways _ ["_law_tree_here", "_law_lot_here"] spWys := ok_wys F_law_ways B
  have C_law_ways : Cal l.prog w K mg base "_law_ways" 1 ["_law_tree_here", "_law_lot_here"] spWys := ⟨_, _, g_law_ways, k_law_ways, b_law_ways, G_law_ways⟩
  have C_m_above : MCal l.prog w K mg base cC "above" 1 ["self", "kind"] (spAbv cC) := ⟨_, _, ⟨y_m_above, i_m_above, k_m_above⟩, b_m_above, ok_abv (k := 0) F_m_above TC⟩
  have C_m_len : SCal l.prog w K mg base cC "__len__" 1 ["self"] (spLen cC) := ⟨_, _, y_m_len, i_m_len, b_m_len, ok_len (k := 0) F_m_len B TC⟩
  have C_p_hollow : PCal l.prog w K mg base cC "hollow" 1 (getSp cC "kept_hollow") := ⟨_, _, _, ⟨y_p_hollow, of_decide_eq_true (ba2 o_p_hollow).1, of_decide_eq_true (ba2 o_p_hollow).2, ⟨_, r_p_hollow⟩⟩, b_p_hollow, ok_gh (k := 0) F_p_hollow TC⟩
  have C_p_several : PCal l.prog w K mg base cC "several" 1 (getSp cC "kept_several") := ⟨_, _, _, ⟨y_p_several, of_decide_eq_true (ba2 o_p_several).1, of_decide_eq_true (ba2 o_p_several).2, ⟨_, r_p_several⟩⟩, b_p_several, ok_gs (k := 0) F_p_several TC⟩
  have C_m_opened : MCal l.prog w K mg base cC "opened" 1 ["self"] (spOpn cC) := ⟨_, _, ⟨y_m_opened, i_m_opened, k_m_opened⟩, b_m_opened, ok_opn (k := 0) F_m_opened B TC⟩
  have G_joined : FnOk l.prog w K mg base CX0 1 f_joined _ ["some"] spJoin := ok_join (k := 0) F_joined B M
  have C_joined : Cal l.prog w K mg base "joined" 1 ["some"] spJoin := ⟨_, _, g_joined, k_joined, b_joined, G_joined⟩
  have G_lot_of : FnOk l.prog w K mg base CX0 3 f_lot_of _ ["kinds", "extension", "number"] (spLotOf cC) := ok_lotOf F_lot_of B TC C_m_above C_m_len C_joined
  have C_lot_of : Cal l.prog w K mg base "lot_of" 3 ["kinds", "extension", "number"] (spLotOf cC) := ⟨_, _, g_lot_of, k_lot_of, b_lot_of, G_lot_of⟩
  have G_members : FnOk l.prog w K mg base CX0 3 f_members _ ["kinds", "extension"] (spMem cC) := ok_mem F_members B TC C_m_len C_p_hollow
  have C_members : Cal l.prog w K mg base "members" 3 ["kinds", "extension"] (spMem cC) := ⟨_, _, g_members, k_members, b_members, G_members⟩
  have G_parts_of : FnOk l.prog w K mg base CX0 4 f_parts_of _ ["items"] (spParts _) := ok_parts F_parts_of B M (Lm_parts_of rfl)
  have C_parts_of : Cal l.prog w K mg base "parts_of" 4 ["items"] (spParts _) := ⟨_, _, g_parts_of, k_parts_of, b_parts_of, G_parts_of⟩
  have G_single_elders : FnOk l.prog w K mg base CX0 5 f_single_elders _ ["kinds"] (spSing _ cC) := ok_sing F_single_elders B TC C_p_several C_m_opened C_parts_of
  have C_single_elders : Cal l.prog w K mg base "single_elders" 5 ["kinds"] (spSing _ cC) := ⟨_, _, g_single_elders, k_single_elders, b_single_elders, G_single_elders⟩
  have G_lots : FnOk l.prog w K mg base CX0 6 f_lots _ ["kinds"] (spLotsP _ cC) := ok_lotsP F_lots B M TC (Lm_lots rfl) C_m_above C_m_len C_members C_lot_of C_single_elders
  have C_lots : Cal l.prog w K mg base "lots" 6 ["kinds"] (spLotsP _ cC) := ⟨_, _, g_lots, k_lots, b_lots, G_lots⟩
  have G_with_kind : FnOk l.prog w K mg base CX0 1 f_with_kind _ ["some", "kind"] (spWk wk) := ok_wk (k := 0) F_with_kind
  have C_with_kind : Cal l.prog w K mg base "with_kind" 1 ["some", "kind"] (spWk wk) := ⟨_, _, g_with_kind, k_with_kind, b_with_kind, G_with_kind⟩
  have G_without_kind : FnOk l.prog w K mg base CX0 1 f_without_kind _ ["some", "kind"] (spWk wo) := ok_wo (k := 0) F_without_kind
  have C_without_kind : Cal l.prog w K mg base "without_kind" 1 ["some", "kind"] (spWk wo) := ⟨_, _, g_without_kind, k_without_kind, b_without_kind, G_without_kind⟩
  have G_ways_on : FnOk l.prog w K mg base CX0 2 f_ways_on _ ["place", "tree", "some"] spWyo := ok_wyo F_ways_on C_is_number C_with_kind C_without_kind
  have C_ways_on : Cal l.prog w K mg base "ways_on" 2 ["place", "tree", "some"] spWyo := ⟨_, _, g_ways_on, k_ways_on, b_ways_on, G_ways_on⟩
  have G_reached_places : FnOk l.prog w K mg base CX0 7 f_reached_places _ ["kinds", "tree"] (spRpl _ cC) := ok_rpl F_reached_places B C_lots C_ways_on
  have C_reached_places : Cal l.prog w K mg base "reached_places" 7 ["kinds", "tree"] (spRpl _ cC) := ⟨_, _, g_reached_places, k_reached_places, b_reached_places, G_reached_places⟩
  exact ok_law (C := cC) F_law ⟨B, M, C_law_deck, C_law_next, C_law_same, C_law_four, C_law_made, C_law_lots, C_law_tree, C_law_long, C_law_ways, C_reached_places⟩
end Kc

set_option Elab.async false
set_option linter.all false
open PySem PySem.W PyProof.Rows
set_option maxRecDepth 100000 in
set_option maxHeartbeats 0 in
theorem PySem.Challenge.cw_kindstocome_k16_places_reached_holds : PySem.Challenge.rw_kindstocome_k16_places_reached.Holds := by
  w_on; o_law; k_head; (case hw => w_witness2)
  k_fill
  refine Kg.walkT ["parts_of", "lots"] ?HNM (l := PySem.Challenge.rw_kindstocome_k16_places_reached) (n := 63) (k := 41) (x := "_law_script") (sp := Kc.spLaw) ?I rfl (by decide) rfl ⟨rfl, by decide, by decide⟩ (fun w h Y => PySem.W.km_in_of Y) ?F (fun K T H a ns hl _ t hS => ⟨a, ns, rfl, hS, hl, t, fun _ => rfl⟩)
  case HNM => first | rfl | decide +kernel | kernel_rfl
  case I => first | rfl | decide +kernel | kernel_rfl
  case F =>
    intro w mg fa h KX G hmg
    refine' Kc.all_mk KX G hmg ?a_is_number ?l_is_number ?x_is_number ?k_is_number ?a_is_index ?l_is_index ?x_is_index ?k_is_index ?a_is_bool ?l_is_bool ?x_is_bool ?k_is_bool ?a_is_ascending ?l_is_ascending ?x_is_ascending ?k_is_ascending ?a_are_elders ?l_are_elders ?x_are_elders ?k_are_elders ?a_wrong_elders ?l_wrong_elders ?x_wrong_elders ?k_wrong_elders ?a_wrong_place ?l_wrong_place ?x_wrong_place ?k_wrong_place ?a_table_above ?l_table_above ?x_table_above ?k_table_above ?a_law_deck ?l_law_deck ?x_law_deck ?k_law_deck ?a_law_next ?l_law_next ?x_law_next ?k_law_next ?a_law_same ?l_law_same ?x_law_same ?k_law_same ?a_law_some ?l_law_some ?x_law_some ?k_law_some ?a_law_four ?l_law_four ?x_law_four ?k_law_four ?a_law_made ?l_law_made ?x_law_made ?k_law_made ?a_law_above ?l_law_above ?x_law_above ?k_law_above ?a_law_lot ?l_law_lot ?x_law_lot ?k_law_lot ?a_law_lots ?l_law_lots ?x_law_lots ?k_law_lots ?a_law_tree ?l_law_tree ?x_law_tree ?k_law_tree ?a_law_long ?l_law_long ?x_law_long ?k_law_long ?a_law_ways ?l_law_ways ?x_law_ways ?k_law_ways ?a_joined ?l_joined ?x_joined ?k_joined ?a_lot_of ?l_lot_of ?x_lot_of ?k_lot_of ?a_members ?l_members ?x_members ?k_members ?a_parts_of ?l_parts_of ?x_parts_of ?lc_parts_of ?vp_parts_of ?vn_parts_of ?k_parts_of ?a_single_elders ?l_single_elders ?x_single_elders ?k_single_elders ?a_lots ?l_lots ?x_lots ?lc_lots ?vp_lots ?vn_lots ?k_lots ?a_with_kind ?l_with_kind ?x_with_kind ?k_with_kind ?a_without_kind ?l_without_kind ?x_without_kind ?k_without_kind ?a_ways_on ?l_ways_on ?x_ways_on ?k_ways_on ?a_reached_places ?l_reached_places ?x_reached_places ?k_reached_places ?a_law ?l_law ?x_law ?k_law ?nC ?y_m_init ?l_m_init ?x_m_init ?k_m_init ?i_m_init ?y_m_above ?l_m_above ?x_m_above ?k_m_above ?i_m_above ?y_m_len ?l_m_len ?x_m_len ?k_m_len ?i_m_len ?y_m_opened ?l_m_opened ?x_m_opened ?k_m_opened ?i_m_opened ?y_p_hollow ?r_p_hollow ?o_p_hollow ?l_p_hollow ?x_p_hollow ?k_p_hollow ?y_p_several ?r_p_several ?o_p_several ?l_p_several ?x_p_several ?k_p_several ?tC ?tI ?z_abs ?z_len ?z_int ?z_isinstance ?z_tuple ?z_list ?z_str ?z_bool ?z_dict ?z_zip ?z_all ?z_repr ?z_range ?z_set ?z_sorted ?z_enumerate ?z_min ?u_MAX_KINDS ?nePP
    (case a_is_number => k_is)
    (case l_is_number => k_is)
    (case x_is_number => k_is)
    (case k_is_number => k_is)
    (case a_is_index => k_is)
    (case l_is_index => k_is)
    (case x_is_index => k_is)
    (case k_is_index => k_is)
    (case a_is_bool => k_is)
    (case l_is_bool => k_is)
    (case x_is_bool => k_is)
    (case k_is_bool => k_is)
    (case a_is_ascending => k_is)
    (case l_is_ascending => k_is)
    (case x_is_ascending => k_is)
    (case k_is_ascending => k_is)
    (case a_are_elders => k_is)
    (case l_are_elders => k_is)
    (case x_are_elders => k_is)
    (case k_are_elders => k_is)
    (case a_wrong_elders => k_is)
    (case l_wrong_elders => k_is)
    (case x_wrong_elders => k_is)
    (case k_wrong_elders => k_is)
    (case a_wrong_place => k_is)
    (case l_wrong_place => k_is)
    (case x_wrong_place => k_is)
    (case k_wrong_place => k_is)
    (case a_table_above => k_is)
    (case l_table_above => k_is)
    (case x_table_above => k_is)
    (case k_table_above => k_is)
    (case a_law_deck => k_is)
    (case l_law_deck => k_is)
    (case x_law_deck => k_is)
    (case k_law_deck => k_is)
    (case a_law_next => k_is)
    (case l_law_next => k_is)
    (case x_law_next => k_is)
    (case k_law_next => k_is)
    (case a_law_same => k_is)
    (case l_law_same => k_is)
    (case x_law_same => k_is)
    (case k_law_same => k_is)
    (case a_law_some => k_is)
    (case l_law_some => k_is)
    (case x_law_some => k_is)
    (case k_law_some => k_is)
    (case a_law_four => k_is)
    (case l_law_four => k_is)
    (case x_law_four => k_is)
    (case k_law_four => k_is)
    (case a_law_made => k_is)
    (case l_law_made => k_is)
    (case x_law_made => k_is)
    (case k_law_made => k_is)
    (case a_law_above => k_is)
    (case l_law_above => k_is)
    (case x_law_above => k_is)
    (case k_law_above => k_is)
    (case a_law_lot => k_is)
    (case l_law_lot => k_is)
    (case x_law_lot => k_is)
    (case k_law_lot => k_is)
    (case a_law_lots => k_is)
    (case l_law_lots => k_is)
    (case x_law_lots => k_is)
    (case k_law_lots => k_is)
    (case a_law_tree => k_is)
    (case l_law_tree => k_is)
    (case x_law_tree => k_is)
    (case k_law_tree => k_is)
    (case a_law_long => k_is)
    (case l_law_long => k_is)
    (case x_law_long => k_is)
    (case k_law_long => k_is)
    (case a_law_ways => k_is)
    (case l_law_ways => k_is)
    (case x_law_ways => k_is)
    (case k_law_ways => k_is)
    (case a_joined => k_is)
    (case l_joined => k_is)
    (case x_joined => k_is)
    (case k_joined => k_is)
    (case a_lot_of => k_is)
    (case l_lot_of => k_is)
    (case x_lot_of => k_is)
    (case k_lot_of => k_is)
    (case a_members => k_is)
    (case l_members => k_is)
    (case x_members => k_is)
    (case k_members => k_is)
    (case a_parts_of => k_is)
    (case l_parts_of => k_is)
    (case x_parts_of => k_is)
    (case lc_parts_of => k_is)
    (case vp_parts_of => rfl)
    (case vn_parts_of => first | kernel_rfl | rfl)
    (case k_parts_of => k_is)
    (case a_single_elders => k_is)
    (case l_single_elders => k_is)
    (case x_single_elders => k_is)
    (case k_single_elders => k_is)
    (case a_lots => k_is)
    (case l_lots => k_is)
    (case x_lots => k_is)
    (case lc_lots => k_is)
    (case vp_lots => rfl)
    (case vn_lots => first | kernel_rfl | rfl)
    (case k_lots => k_is)
    (case a_with_kind => k_is)
    (case l_with_kind => k_is)
    (case x_with_kind => k_is)
    (case k_with_kind => k_is)
    (case a_without_kind => k_is)
    (case l_without_kind => k_is)
    (case x_without_kind => k_is)
    (case k_without_kind => k_is)
    (case a_ways_on => k_is)
    (case l_ways_on => k_is)
    (case x_ways_on => k_is)
    (case k_ways_on => k_is)
    (case a_reached_places => k_is)
    (case l_reached_places => k_is)
    (case x_reached_places => k_is)
    (case k_reached_places => k_is)
    (case a_law => k_is)
    (case l_law => k_is)
    (case x_law => k_is)
    (case k_law => k_is)
    (case nC => k_is)
    (case y_m_init => k_is)
    (case l_m_init => k_is)
    (case x_m_init => k_is)
    (case k_m_init => k_is)
    (case i_m_init => first | k_is | kernel_rfl)
    (case y_m_above => k_is)
    (case l_m_above => k_is)
    (case x_m_above => k_is)
    (case k_m_above => k_is)
    (case i_m_above => first | k_is | kernel_rfl)
    (case y_m_len => k_is)
    (case l_m_len => k_is)
    (case x_m_len => k_is)
    (case k_m_len => k_is)
    (case i_m_len => first | k_is | kernel_rfl)
    (case y_m_opened => k_is)
    (case l_m_opened => k_is)
    (case x_m_opened => k_is)
    (case k_m_opened => k_is)
    (case i_m_opened => first | k_is | kernel_rfl)
    (case y_p_hollow => k_is)
    (case r_p_hollow => k_is)
    (case o_p_hollow => kernel_rfl)
    (case l_p_hollow => k_is)
    (case x_p_hollow => k_is)
    (case k_p_hollow => k_is)
    (case y_p_several => k_is)
    (case r_p_several => k_is)
    (case o_p_several => kernel_rfl)
    (case l_p_several => k_is)
    (case x_p_several => k_is)
    (case k_p_several => k_is)
    (case tC => kernel_rfl)
    (case tI => kernel_rfl)
    (case z_abs => k_is)
    (case z_len => k_is)
    (case z_int => k_is)
    (case z_isinstance => k_is)
    (case z_tuple => k_is)
    (case z_list => k_is)
    (case z_str => k_is)
    (case z_bool => k_is)
    (case z_dict => k_is)
    (case z_zip => k_is)
    (case z_all => k_is)
    (case z_repr => k_is)
    (case z_range => k_is)
    (case z_set => k_is)
    (case z_sorted => k_is)
    (case z_enumerate => k_is)
    (case z_min => k_is)
    (case u_MAX_KINDS => k_is)
    (case nePP => decide)
#print axioms PySem.Challenge.cw_kindstocome_k16_places_reached_holds

