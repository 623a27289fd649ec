import PyProof.Rows.All
import Wide.All
import OpenK.AllK
import Wide.FinOn
import PySem.Challenge.RW_kindstocome_k48_wrong_texts_of_trees
import HandS.ForMost
import HandS.EndBits
import PyProof.ReprRoads
import HandS.IsInst
import HandS.Zip
import HandS.Walk
import HandS.Strs
import HandS.SetFor
import HandS.Style
import HandS.Conv
import KE.GoesEnum
import PyProof.AutoSeq1
import HandS.SortRule
import HandS.TupSets
import HandS.SlotsOwn
import HandS.NamedTupGet
import PyProof.InstNe
import PyProof.CallStr
import HandS.Property
import HandS.TupAny
import HandS.FStr
import HandS.Text
import HandS.Lambda
import HandS.SortKw
import KE.KSortKey
import HandS.ForExc
import HandS.ExcInit
import HandS.ExcField
import HandS.ExcIs
import HandS.WordsExc
import KE.KExcInit
import KE.KExcIs
import HandS.Codes
import PyProof.StrOps2
set_option Elab.async false
set_option linter.all false
set_option maxRecDepth 100000
set_option maxHeartbeats 4000000
/-! Defs that are promised where no repr is under way (so that repr of lists, tuples, dicts tells the whole text). -/
namespace Kg
open PySem PySem.Spec PyProof.Rows L2
/-- a def keeps sp wherever no repr runs around it -/
structure FnG (P : Program) (w : World) (K : PySem.W.Frag) (mg : Str → Option Value) (base : Heap) (k : Nat) (f : Addr) (fd : FuncData) (ps : List Str) (sp : Sp) : Prop where
  len : ∀ vs H Q E, sp vs H Q E → vs.length = ps.length
  go : ∀ (A : Around) (out : List Env) (s : Shared) (H : Hp) (ar : Args) (us : List Value) (vs : List V) (Q : VK), A.guards = some [] → Room k A → Env0 P w K mg base A out s H →
    BindsTo s fd ar (ps.zip us) → Vals vs us → sp vs H Q E0 → codeAny (model P w) A (.call (.ref f) ar) (CR CX0 out P w H s Q E0) s
section
variable {P : Program} {w : World} {K : PySem.W.Frag} {mg : Str → Option Value} {base : Heap} {k : Nat} {f : Addr} {fd : FuncData} {ps : List Str} {sp : Sp}
theorem FnG.mono {j : Nat} (F : FnG P w K mg base j f fd ps sp) (h : j ≤ k) : FnG P w K mg base k f fd ps sp :=
  ⟨F.len, fun A out s H ar us vs Q g r => F.go A out s H ar us vs Q g (r.mono h)⟩
/-- the rule for such a def: as Fun.ok, the body may lean on the guards -/
theorem okG {x qual : Str} {st : Stmt} {N : List Str} (F : Fun K x qual st f fd) (S : FnScope N ps (defScope st)) (len : ∀ vs H Q E, sp vs H Q E → vs.length = ps.length)
    (bd : ∀ (cdv : Value) (A : Around) (out : List Env) (s : Shared) (H : Hp) (vs : List V) (Q : VK), (A.deeper (envOfC qual (defScope st) s.heap.objs.size f cdv)).guards = some [] → Room k (A.deeper (envOfC qual (defScope st) s.heap.objs.size f cdv)) → sp vs H Q E0 →
      ∃ t, PSs (cxOf CX0 P w K mg base N qual (defScope st) f cdv A out s H E0).nox (defBody st) t ∧ t { nx := fun _ H' => Q .non H', rt := Q } (start N vs) H) : FnG P w K mg base (k + 1) f fd ps sp := by
  obtain ⟨oc, od, kV, dc, pm, an, cdv, ct, osl, rfl, lk, hcd⟩ := F.ex
  refine ⟨len, fun A out s H ar us vs Q hgu hro e0 hbi rv hs => ?_⟩
  have old : ∀ b o, base.get? b = some o → s.heap.get? b = some o := fun b o e => (e0.bs b o e).1
  have kin := e0.mod.kin.keeps old
  obtain ⟨t, ht, hq⟩ := bd cdv A out s H vs Q hgu (hro.deeper _) hs
  have par : ∀ y ∈ ps.zip us, (defScope st).names.lookup y.1 = some .local ∨ ((defScope st).names.lookup y.1 = some .cell ∧ ((cellsFrom (s.heap.objs.size + 1) (defScope st).names []).lookup y.1).isSome = true) := by
    intro y hy
    cases S.par y.1 (List.of_mem_zip (a := y.1) (b := y.2) hy).1 with
    | inl z => exact .inl z
    | inr z => exact .inr ⟨z, PySem.W.cellsFrom_some _ _ _ (.inl z)⟩
  refine codeAny_call_function hro.depth (kin f _ lk) rfl S.co S.gen rfl (PySem.W.codeRec_of kin hcd) (hbi _ _ _ _ (wpAny_newFunctionEnv_cells S.kind par fun env he s1 x => ?_))
  subst he
  refine ⟨(e0.mod.nolimit.keeps old).keeps x.toInCall.keep, codeAny_func (wpAny_mono (ht.nox.run [] s1 (start N vs) H _ (inv_start S hro.hd e0 (len _ _ _ _ hs) rv x) hq) (fun fl s' z => ?_) fun _ _ z => z)⟩
  match fl, z with
  | .ret _, ⟨v, _, H', J, r, q⟩ => exact ⟨v, H', J.os, J.bare, J.base, J.hok, r, q⟩
  | .next, ⟨_, H', J, q⟩ => exact ⟨V.non, H', J.os, J.bare, J.base, J.hok, rfl, q⟩
  | .brk, ⟨_, _, _, q⟩ => exact q.elim
  | .cont, ⟨_, _, _, q⟩ => exact q.elim
end
section
variable {X : Cx} {k : Nat} {f : Addr} {fd : FuncData} {ps : List Str} {sp : Sp} {x : Str} {p pos : Pos} {e : Expr} {es : List Expr} {t : TA}
/-- f(e, ..) of such a def, where no repr runs -/
theorem pe_callG (F : FnG X.prog X.w X.K X.mg X.base k f fd ps sp) (hgu : X.A.guards = some []) (hr : Room k X.A) (hg : Gl X x) (hm : X.mg x = some (.ref f)) (hk : PySem.W.keepIn X.K (.ref f) = true) (hb : Binds X.K fd ps [])
    (ha : PA X (e :: es) t) (hdb : (x == ("__debug__" : Str)) = false := by decide) (he : starEach (e :: es) X.env = (false, eval e X.env) :: starEach es X.env := by rfl) (hpl : (backTo pos (starEach es X.env)).any (·.1) = false := by rfl) :
    PE X (.Call (.Name x p) (e :: es) [] pos) (tCall sp [] E0 t) := by
  refine ⟨fun pins s σ H Q I h => wpAny_Call_Name_kw (ld_glob I hg hm (PySem.W.callWith_K (h₀ := X.base) I.ok.mod.kin hk (thn (ha.run pos pins s σ H _ I h) fun us s1 ⟨vs, H1, I1, r, q⟩ => ⟨I1.kIn, ?_⟩) he hpl) hdb)⟩
  have q' : sp vs H1 Q E0 := by rw [← List.append_nil vs]; exact q
  have hl : us.length = ps.length := (Vals.length r).symm.trans (F.len _ _ _ _ q')
  have bi := hb s1 us I1.kIn (by rw [List.append_nil]; exact hl)
  rw [List.append_nil] at bi
  refine wpAny_call (codeAny_mono (F.go X.A X.stack s1 H1 ⟨us, []⟩ us vs Q hgu hr I1.env0 bi r q') fun rs s' z => ?_)
  match rs, z with
  | .ok (.ret _), z => exact I1.after z
  | .ok .next, z => exact z.elim
  | .ok .brk, z => exact z.elim
  | .ok .cont, z => exact z.elim
  | .error _, z => exact z.elim
end
/-! ### the law's end -/
theorem endG {P : Program} {w : World} {K : PySem.W.Frag} {mg mb : Str → Option Value} {k : Nat} {fa a : Addr} {fd : FuncData} {x : Str} {sp : Sp} {s₁ : Shared} {vs : List Value} {ns : List Int}
    (KX : K.In s₁.heap) (hns : s₁.heap.Ns mainGlobals mg) (hb : s₁.heap.Ns builtinsNs mb) (hbb : ∀ x : Str, x ≠ "__name__" → mb x = bootBuiltins x) (hlim : s₁.heap.NoLimit) (hg : s₁.gens = #[])
    (ha : s₁.heap.get? a = some { cls := .type "list", data := .seq vs.toArray }) (hi : IntsAre vs ns) (hl : ns.length ≤ sizeLine) (hr : Room k callerA)
    (F : ∀ base : Heap, K.In base → base.Ns mainGlobals mg → FnG P w K mg base k fa fd [x] sp) (hbind : ∀ (s : Shared) (u : Value), BindsTo s fd ⟨[u], []⟩ [(x, u)])
    (hsp : ∀ H : Hp, Only H → SqL K H a (ns.map V.int) → sp [.ref a] H (fun v _ => v = .bl true) E0) :
    codeAny (model P w) callerA (.call (.ref fa) ⟨[.ref a], []⟩) (fun r s' => r = .ok (.ret (.bool true)) ∧ OldK s₁.heap s'.heap ∧ s'.os = s₁.os ∧ AllBare s'.gens) s₁ := by
  have main : ∀ H : Hp, Only H → SqL K H a (ns.map V.int) → HOk P w H s₁.heap → (∀ b o, H b = some o → b = a ∧ K.lookup a = none) →
      codeAny (model P w) callerA (.call (.ref fa) ⟨[.ref a], []⟩) (fun r s' => r = .ok (.ret (.bool true)) ∧ OldK s₁.heap s'.heap ∧ s'.os = s₁.os ∧ AllBare s'.gens) s₁ := by
    intro H only sq ok one
    have notD : ∀ {b : Addr} {o : Obj} {es : Array DictEntry} {n : Nat}, s₁.heap.get? b = some o → o.data = .dict es n → H b = none := by
      intro b o es n e d
      cases q : H b with
      | none => rfl
      | some u =>
        rw [(one b u q).1, ha] at e
        rw [← Option.some.inj e] at d
        exact nomatch d
    have hid : ∀ {b : Addr} {m : Str → Option Value}, s₁.heap.Ns b m → (hidT s₁.heap H).Ns b m := by
      intro b m z
      obtain ⟨o, es, n, e, d, r⟩ := z
      exact ⟨o, es, n, hidT_get e (notD e d), d, r⟩
    have kb : K.In (hidT s₁.heap H) := by
      intro b o e
      refine hidT_get (KX b o e) ?_
      cases q : H b with
      | none => rfl
      | some u =>
        obtain ⟨z1, z2⟩ := one b u q
        rw [z1, z2] at e
        exact nomatch e
    obtain ⟨mc, l1, l2⟩ := hlim
    have env : Env0 P w K mg (hidT s₁.heap H) callerA [] s₁ H :=
      { frames := rfl, mod := ⟨kb, hid hns, ⟨mb, hid hb, hbb⟩, ⟨mc, hid l1, l2⟩⟩, bs := fun b o e => of_hidT e, bsz := Nat.le_of_eq (hidT_size _ _), funs := trivial, frf := fun b z => (nomatch (show b ∈ ([] : List Addr) from z)), hok := ok, bare := .of_eq hg }
    refine codeAny_mono ((F _ kb (hid hns)).go callerA [] s₁ H ⟨[.ref a], []⟩ [.ref a] [.ref a] _ rfl hr env (hbind s₁ (.ref a)) (.cons rfl .nil) (hsp H only sq)) fun r s' z => ?_
    match r, z with
    | .error _, z => exact z.elim
    | .ok .next, z => exact z.elim
    | .ok .brk, z => exact z.elim
    | .ok .cont, z => exact z.elim
    | .ok (.ret u), ⟨v, H', zo, zb, un, ok', rv, ev⟩ =>
      have ev' : v = .bl true := ev
      rw [ev'] at rv
      have eu : u = Value.bool true := rv
      refine ⟨by rw [eu], OldK.of_keep fun b o e => ?_, zo, zb⟩
      cases q : H b with
      | none => exact un.keep b o e q (fun y => nomatch (show b ∈ ([] : List Addr) from y)) (fun y => nomatch y)
      | some u2 =>
        cases only b with
        | inl y => rw [q] at y; exact nomatch y
        | inr y =>
          obtain ⟨ob, xs, y⟩ := y
          have y1 : ObjOk P w H s₁.heap b (.frz ob (.lst xs)) := ok b _ y
          have y2 : ObjOk P w H' s'.heap b (.frz ob (.lst xs)) := ok' b _ (un.frzs b ob _ y)
          have y3 : some o = some ob := e.symm.trans y1.1
          rw [Option.some.inj y3]
          exact y2.1
  have rv := vals_ints hi
  cases hk : K.lookup a with
  | none =>
    let H0 : Hp := fun b => if b = a then some (.frz { cls := .type "list", data := .seq vs.toArray } (.lst (ns.map V.int))) else none
    have at0 : ∀ b o, H0 b = some o → b = a ∧ o = .frz { cls := .type "list", data := .seq vs.toArray } (.lst (ns.map V.int)) := by
      intro b o e
      by_cases z : b = a
      · exact ⟨z, (Option.some.inj ((if_pos z).symm.trans e)).symm⟩
      · exact nomatch ((if_neg z).symm.trans e)
    refine main H0 (fun b => ?_) (.inl (.inr ⟨_, if_pos rfl⟩)) (fun b o e => ?_) (fun b o e => ⟨(at0 b o e).1, hk⟩)
    · cases q : H0 b with
      | none => exact .inl rfl
      | some o => exact .inr ⟨_, _, by rw [(at0 b o q).2]⟩
    · obtain ⟨z1, z2⟩ := at0 b o e
      rw [z1, z2]
      exact ⟨ha, by rw [List.length_map]; exact hl, vs, _, rv, ha⟩
  | some o =>
    have eo : ({ cls := .type "list", data := .seq vs.toArray } : Obj) = o := Option.some.inj (ha.symm.trans (KX a o hk))
    rw [← eo] at hk
    refine main (fun _ => none) (fun _ => .inl rfl) (.inr ⟨_, vs.toArray, _, hk, rfl, rfl, rfl, ?_, by simpa using rv⟩) (fun b o e => nomatch (show (none : Option HO) = some o from e)) (fun b o e => nomatch (show (none : Option HO) = some o from e))
    rw [List.size_toArray, hi.length]; exact hl
/-- what k_head leaves, from the law's promise; the script's bits are told -/
theorem walkG {l : PySem.W.OpenLaw} {n k : Nat} {q : Program} {loose : List Str} {XP : (Str → Option Value) → Heap → Prop} {YP : World → Heap → Prop} {d : DefRec} {K : Params → PySem.W.Frag} {sp : PySem.W.Frag → Sp} {x : Str}
    (hn : l.most = some n) (hn2 : n ≤ sizeLine) (hdf : d.params.defaults = []) (hr : Room k callerA) (hY : ∀ (w : World) (h : Heap), YP w h → (K w.params).In h)
    (F : ∀ (w : World) (mg : Str → Option Value) (fa : Addr) (h : Heap), (K w.params).In h → h.Ns mainGlobals mg → mg d.name = some (.ref fa) →
      ∃ fd : FuncData, (∀ (s : Shared) (u : Value), BindsTo s fd ⟨[u], []⟩ [(x, u)]) ∧ ∀ base : Heap, (K w.params).In base → base.Ns mainGlobals mg → FnG l.prog w (K w.params) mg base k fa fd [x] (sp (K w.params)))
    (hsp : ∀ (K : PySem.W.Frag) (H : Hp) (a : Addr) (ns : List Int), ns.length ≤ n → (∀ z ∈ ns, Builtin.Int.intBits z ≤ 1048576) → Only H → SqL K H a (ns.map V.int) → sp K [.ref a] H (fun v _ => v = .bl true) E0) :
    PySem.W.WalkO q loose XP YP l.row.toRowW d [] (fun f vs => PySem.call f vs) := by
  refine Att.attach_callB hn hdf fun w s₀ s₁ mg mb fa o pm cd dc a vs ns G Y ho hd hcd hmg hobj hints hlen hbits hgen => ?_
  obtain ⟨fd, hbi, hF⟩ := F w mg fa _ (hY w _ Y) G.T.g hmg
  exact endG (hY w _ Y) G.T.g G.T.b G.T.builtins G.T.nolimit hgen hobj hints (Nat.le_trans hlen hn2) hr hF hbi fun H hO hS => hsp (K w.params) H a ns hlen hbits hO hS
end Kg

set_option Elab.async false
set_option linter.all false
set_option maxRecDepth 100000
set_option maxHeartbeats 4000000
/-! Data: what the laws draw and compare. -/
namespace Kd
open PySem PySem.Spec PyProof.Rows L2 Kg
/-- all that was tracked stands as it was, but for the places of ds -/
def Keep (ds : Addr → Prop) (H H' : Hp) : Prop := ∀ c o, H c = some o → ¬ ds c → H' c = some o
theorem Keep.refl (ds : Addr → Prop) (H : Hp) : Keep ds H H := fun _ _ h _ => h
theorem Keep.trans {ds : Addr → Prop} {H H1 H2 : Hp} (a : Keep ds H H1) (b : Keep ds H1 H2) : Keep ds H H2 := fun c o h n => b c o (a c o h n) n
theorem Keep.of_same {ds : Addr → Prop} {H H' : Hp} (a : Same H H') : Keep ds H H' := fun c o h _ => a c o h
theorem same_new {H : Hp} {p : Addr} {o : HO} (h : H p = none) : Same H (upd H p o) := fun b x e => by
  rw [upd_ne (ne_of_none e h)]; exact e
theorem Keep.put {ds : Addr → Prop} {H : Hp} {p : Addr} {o : HO} (h : ds p) : Keep ds H (upd H p o) := fun c x e n => by
  rw [upd_ne (fun z => n (by rw [z]; exact h))]; exact e
/-! a value and the datum that it is; none of its objects stands at a place of av -/
mutual
inductive Da (av : Addr → Prop) (H : Hp) : V → PyData → Prop
  | non : Da av H .non .none
  | bl (b : Bool) : Da av H (.bl b) (.bool b)
  | int (i : Int) : Da av H (.int i) (.int i)
  | str (x : Str) : Da av H (.str x) (.str x)
  | lst {a : Addr} {xs : List V} {ds : List PyData} : ¬ av a → H a = some (.lst xs) → xs.length ≤ 1000 → DaAll av H xs ds → Da av H (.ref a) (.list ds)
  | tup {a : Addr} {xs : List V} {ds : List PyData} : ¬ av a → H a = some (.tup xs) → xs.length ≤ 1000 → DaAll av H xs ds → Da av H (.ref a) (.tuple ds)
  | dc0 {a : Addr} : ¬ av a → H a = some (.dK []) → Da av H (.ref a) (.dict [])
  | dc1 {a : Addr} : ¬ av a → H a = some (.dK [(Sum.inl 0, V.int 1)]) → Da av H (.ref a) (.dict [(.int 0, .int 1)])
inductive DaAll (av : Addr → Prop) (H : Hp) : List V → List PyData → Prop
  | nil : DaAll av H [] []
  | cons {v : V} {vs : List V} {d : PyData} {ds : List PyData} : Da av H v d → DaAll av H vs ds → DaAll av H (v :: vs) (d :: ds)
end
mutual
theorem Da.keep {av : Addr → Prop} {H H' : Hp} (k : Keep av H H') : ∀ {v : V} {d : PyData}, Da av H v d → Da av H' v d
  | _, _, .non => .non
  | _, _, .bl b => .bl b
  | _, _, .int i => .int i
  | _, _, .str x => .str x
  | _, _, .lst n h z r => .lst n (k _ _ h n) z (DaAll.keep k r)
  | _, _, .tup n h z r => .tup n (k _ _ h n) z (DaAll.keep k r)
  | _, _, .dc0 n h => .dc0 n (k _ _ h n)
  | _, _, .dc1 n h => .dc1 n (k _ _ h n)
theorem DaAll.keep {av : Addr → Prop} {H H' : Hp} (k : Keep av H H') : ∀ {vs : List V} {ds : List PyData}, DaAll av H vs ds → DaAll av H' vs ds
  | _, _, .nil => .nil
  | _, _, .cons h r => .cons (Da.keep k h) (DaAll.keep k r)
end
theorem Da.same {av : Addr → Prop} {H H' : Hp} {v : V} {d : PyData} (h : Da av H v d) (k : Same H H') : Da av H' v d := h.keep (.of_same k)
mutual
theorem Da.sub {av bv : Addr → Prop} {H : Hp} (k : ∀ a, bv a → av a) : ∀ {v : V} {d : PyData}, Da av H v d → Da bv H v d
  | _, _, .non => .non
  | _, _, .bl b => .bl b
  | _, _, .int i => .int i
  | _, _, .str x => .str x
  | _, _, .lst n h l r => .lst (fun z => n (k _ z)) h l (DaAll.sub k r)
  | _, _, .tup n h l r => .tup (fun z => n (k _ z)) h l (DaAll.sub k r)
  | _, _, .dc0 n h => .dc0 (fun z => n (k _ z)) h
  | _, _, .dc1 n h => .dc1 (fun z => n (k _ z)) h
theorem DaAll.sub {av bv : Addr → Prop} {H : Hp} (k : ∀ a, bv a → av a) : ∀ {vs : List V} {ds : List PyData}, DaAll av H vs ds → DaAll bv H vs ds
  | _, _, .nil => .nil
  | _, _, .cons h r => .cons (Da.sub k h) (DaAll.sub k r)
end
theorem DaAll.length {av : Addr → Prop} {H : Hp} : ∀ {vs : List V} {ds : List PyData}, DaAll av H vs ds → vs.length = ds.length
  | _, _, .nil => rfl
  | _, _, .cons _ r => congrArg (· + 1) (DaAll.length r)
theorem DaAll.get {av : Addr → Prop} {H : Hp} : ∀ {vs : List V} {ds : List PyData} {i : Nat} {v : V}, DaAll av H vs ds → vs[i]? = some v → ∃ d, ds[i]? = some d ∧ Da av H v d
  | _, _, _, _, .nil, e => by simp at e
  | _, _, 0, _, .cons h _, e => ⟨_, rfl, by simp at e; rw [← e]; exact h⟩
  | _, _, i + 1, v, .cons _ r, e => by
    obtain ⟨d, h1, h2⟩ := DaAll.get (i := i) (v := v) r (by simpa using e)
    exact ⟨d, by simpa using h1, h2⟩
/-- no place at all -/
def nil : Addr → Prop := fun _ => False
theorem Da.nil {av : Addr → Prop} {H : Hp} {v : V} {d : PyData} (h : Da av H v d) : Da Kd.nil H v d := h.sub fun _ z => z.elim
/-! ### kinds of data -/
def tyN : PyData → String
  | .none => "NoneType"
  | .bool _ => "bool"
  | .int _ => "int"
  | .str _ => "str"
  | .list _ => "list"
  | .tuple _ => "tuple"
  | .dict _ => "dict"
def isTup : PyData → Bool | .tuple _ => true | _ => false
def isLst : PyData → Bool | .list _ => true | _ => false
def isSeq : PyData → Bool | .tuple _ => true | .list _ => true | _ => false
def isStr : PyData → Bool | .str _ => true | _ => false
def isBool : PyData → Bool | .bool _ => true | _ => false
def isInt : PyData → Bool | .int _ => true | .bool _ => true | _ => false
def isDct : PyData → Bool | .dict _ => true | _ => false
theorem kt_tup (d : PyData) : kitB (tyN d) "tuple" = some (isTup d) := by cases d <;> kernel_rfl
theorem kt_lst (d : PyData) : kitB (tyN d) "list" = some (isLst d) := by cases d <;> kernel_rfl
theorem kt_str (d : PyData) : kitB (tyN d) "str" = some (isStr d) := by cases d <;> kernel_rfl
theorem kt_bool (d : PyData) : kitB (tyN d) "bool" = some (isBool d) := by cases d <;> kernel_rfl
theorem kt_int (d : PyData) : kitB (tyN d) "int" = some (isInt d) := by cases d <;> kernel_rfl
theorem kt_dct (d : PyData) : kitB (tyN d) "dict" = some (isDct d) := by cases d <;> kernel_rfl
theorem kt_seq {K : PySem.W.Frag} (d : PyData) : PySem.W.kitAny K (.type (tyN d)) [.type "tuple", .type "list"] = some (isSeq d) := by
  cases d with
  | tuple xs => exact kitAny_cons (b := true) (kit_ty (kt_tup (.tuple xs))) (fun z => nomatch z) (fun _ => rfl)
  | list xs => exact kitAny_cons (b := false) (kit_ty (kt_tup (.list xs))) (fun _ => kitAny_cons (b := true) (kit_ty (kt_lst (.list xs))) (fun z => nomatch z) (fun _ => rfl)) (fun z => nomatch z)
  | none => exact kitAny_cons (b := false) (kit_ty (kt_tup .none)) (fun _ => kitAny_cons (b := false) (kit_ty (kt_lst .none)) (fun _ => kitAny_nil) (fun z => nomatch z)) (fun z => nomatch z)
  | bool x => exact kitAny_cons (b := false) (kit_ty (kt_tup (.bool x))) (fun _ => kitAny_cons (b := false) (kit_ty (kt_lst (.bool x))) (fun _ => kitAny_nil) (fun z => nomatch z)) (fun z => nomatch z)
  | int x => exact kitAny_cons (b := false) (kit_ty (kt_tup (.int x))) (fun _ => kitAny_cons (b := false) (kit_ty (kt_lst (.int x))) (fun _ => kitAny_nil) (fun z => nomatch z)) (fun z => nomatch z)
  | str x => exact kitAny_cons (b := false) (kit_ty (kt_tup (.str x))) (fun _ => kitAny_cons (b := false) (kit_ty (kt_lst (.str x))) (fun _ => kitAny_nil) (fun z => nomatch z)) (fun z => nomatch z)
  | dict x => exact kitAny_cons (b := false) (kit_ty (kt_tup (.dict x))) (fun _ => kitAny_cons (b := false) (kit_ty (kt_lst (.dict x))) (fun _ => kitAny_nil) (fun z => nomatch z)) (fun z => nomatch z)
theorem Da.ty {K : PySem.W.Frag} {av : Addr → Prop} {H : Hp} {v : V} {d : PyData} (h : Da av H v d) : TyX K H v (.type (tyN d)) := by
  cases h with
  | non => exact .base .non
  | bl b => exact .base (.bl b)
  | int i => exact .base (.int i)
  | str x => exact .base (.str x)
  | lst _ e _ _ => exact .base (.lst e)
  | tup _ e _ _ => exact .base (.tup e)
  | dc0 _ e => exact .base (.dK e)
  | dc1 _ e => exact .base (.dK e)
theorem Da.non_iff {av : Addr → Prop} {H : Hp} {v : V} {d : PyData} (h : Da av H v d) : decide (v = .non) = (match d with | .none => true | _ => false) := by
  cases h with
  | non => rfl
  | _ => exact decide_eq_false (fun z => nomatch z)
/-! ### repr of the dicts that the laws draw -/
theorem shows0 : (PyData.dict []).shown.length ≤ sizeLine := by decide +kernel
theorem shows1 : (PyData.dict [(.int 0, .int 1)]).shown.length ≤ sizeLine := by decide +kernel
section
variable {X : Cx}
def rRepr : List V → Hp → VK → Prop := fun xs H Q => ∃ (av : Addr → Prop) (v : V) (kvs : List (PyData × PyData)), xs = [v] ∧ Da av H v (.dict kvs) ∧ Q (.str (PyData.dict kvs).shown) H
theorem call_reprD (hg : X.A.guards = some []) (hu : X.A.units + 64 < cLine) : CallR X (.builtin "repr") rRepr := by
  intro pins s σ H xs us Q I r h
  obtain ⟨av, v, kvs, rfl, hd, q⟩ := h
  obtain ⟨u, rfl, rx⟩ := vals1 r
  cases hd with
  | @dc0 a _ e =>
    cases rx
    obtain ⟨_, hsys, vs, kv, o, es, ep, ho, hex, hdt, _, prs, _⟩ := (show ObjOk X.prog X.w H s.heap a (.dK []) from I.hok a _ e)
    cases kv
    have rd : Reads s.heap (.ref a) (.dict []) [a] := by
      have el : es.toList = [] := by cases hh : es.toList with
        | nil => rfl
        | cons _ _ => rw [hh] at prs; cases prs
      exact Reads.dict (as := []) (bs := []) ho hex.1 hdt (by rw [el]; exact .nil) (by rw [el]; exact .nil)
    exact repr_of_reads' rd (by decide +kernel) (fun _ z => by rw [List.mem_singleton.mp z] at hsys; simp at hsys) hg (by show X.A.units + (PyData.depthKv [] + 1 + 1) < cLine; show X.A.units + (0 + 1 + 1) < cLine; omega) (fun _ _ z => z) (fun h' u tk k => ⟨.str (PyData.dict []).shown, H, I.kept (t' := tk) k, ⟨u, rfl⟩, q⟩) shows0
  | @dc1 a _ e =>
    cases rx
    obtain ⟨_, hsys, vs, kv, o, es, ep, ho, hex, hdt, _, prs, _⟩ := (show ObjOk X.prog X.w H s.heap a (.dK [(Sum.inl 0, V.int 1)]) from I.hok a _ e)
    cases kv with
    | @cons p qv l1 l2 hh tt =>
      cases tt
      obtain ⟨e1, t1, e2⟩ := hh
      obtain ⟨qk, qw⟩ := qv
      have e1' : qk = Sum.inl 0 := e1.symm
      have e2' : qw = Value.int 1 t1 := e2
      subst e1' e2'
      have rd : Reads s.heap (.ref a) (.dict [(.int 0, .int 1)]) [a] := by
        cases hl : es.toList with
        | nil => rw [hl] at prs; cases prs
        | cons en er =>
          rw [hl] at prs
          cases prs with
          | cons z1 z2 z3 =>
            cases z3
            obtain ⟨tk, z1'⟩ := Value.isInt_shape (k := 0) (v := en.key) z1
            refine Reads.dict (as := []) (bs := []) ho hex.1 hdt ?_ ?_
            · rw [hl]
              show ReadsAll s.heap [en.key] [.int 0] ([] ++ [])
              rw [z1']
              exact .cons (.int 0 tk) .nil
            · rw [hl]
              show ReadsAll s.heap [en.val] [.int 1] ([] ++ [])
              rw [z2]
              exact .cons (.int 1 t1) .nil
      exact repr_of_reads' rd (by decide +kernel) (fun _ z => by rw [List.mem_singleton.mp z] at hsys; simp at hsys) hg (by show X.A.units + (PyData.depthKv [(.int 0, .int 1)] + 1 + 1) < cLine; show X.A.units + (0 + 1 + 1) < cLine; omega) (fun _ _ z => z) (fun h' u tk k => ⟨.str (PyData.dict [(.int 0, .int 1)]).shown, H, I.kept (t' := tk) k, ⟨u, rfl⟩, q⟩) shows1
end
/-! ### zip of two tuples, as a walk -/
theorem walk_zipT {K : PySem.W.Frag} {a b : Addr} {xs ys : List V} {n : Nat} (hn : n = min xs.length ys.length) : Walk (RZ.ItzT K a b) n (fun H => SqT K H a xs ∧ SqT K H b ys) (YPair (fun i => xs[i]?) (fun i => ys[i]?)) := by
  subst hn
  refine ⟨fun i _ hi z => ⟨xs, ys, xs[i]'(by omega), ys[i]'(by omega), z.1, z.2, by simp [show i < xs.length by omega], by simp [show i < ys.length by omega]⟩, fun _ z => ⟨xs, ys, z.1, z.2, by omega⟩, fun i H v H' _ z y => ?_⟩
  obtain ⟨T, x1, x2, g1, g2, g3, g4, g5⟩ := y
  exact ⟨T, x1, x2, g1, g2, g3, g4 xs z.1, g5 ys z.2⟩
/-! ### sameness, as the laws ask it -/
mutual
def sameD : PyData → PyData → Bool
  | .tuple ds, .tuple es => sameA ds es
  | .list ds, .list es => sameA ds es
  | .none, .none => true
  | .str x, .str y => decide (x = y)
  | .bool a, .bool b => decide (a = b)
  | .int i, .int j => decide (i = j)
  | .dict a, .dict b => decide ((PyData.dict a).shown = (PyData.dict b).shown)
  | _, _ => false
def sameA : List PyData → List PyData → Bool
  | [], [] => true
  | d :: ds, e :: es => sameD d e && sameA ds es
  | _, _ => false
end
mutual
theorem sameD_refl : ∀ d : PyData, sameD d d = true
  | .none => by simp [sameD]
  | .bool b => by simp [sameD]
  | .int i => by simp [sameD]
  | .str x => by simp [sameD]
  | .list ds => by simp [sameD, sameA_refl ds]
  | .tuple ds => by simp [sameD, sameA_refl ds]
  | .dict a => by simp [sameD]
theorem sameA_refl : ∀ ds : List PyData, sameA ds ds = true
  | [] => by simp [sameA]
  | d :: ds => by simp [sameA, sameD_refl d, sameA_refl ds]
end
/-- the answers at each place -/
def sameL : List PyData → List PyData → List Bool
  | d :: ds, e :: es => sameD d e :: sameL ds es
  | _, _ => []
theorem sameL_len : ∀ (ds es : List PyData), (sameL ds es).length = min ds.length es.length
  | [], _ => by simp [sameL]
  | _ :: _, [] => by simp [sameL]
  | _ :: ds, _ :: es => by simp [sameL, sameL_len ds es]
theorem sameL_get : ∀ (ds es : List PyData) (i : Nat) (d e : PyData), ds[i]? = some d → es[i]? = some e → (sameL ds es)[i]? = some (sameD d e)
  | [], _, _, _, _, h, _ => by simp at h
  | _ :: _, [], _, _, _, _, h => by simp at h
  | a :: ds, b :: es, 0, d, e, h, h2 => by simp at h h2; simp [sameL, h, h2]
  | a :: ds, b :: es, i + 1, d, e, h, h2 => by simp at h h2; simp [sameL, sameL_get ds es i d e h h2]
theorem sameA_eq : ∀ (ds es : List PyData), sameA ds es = (decide (ds.length = es.length) && (sameL ds es).all id)
  | [], [] => by simp [sameA, sameL]
  | [], _ :: _ => by simp [sameA]
  | _ :: _, [] => by simp [sameA]
  | d :: ds, e :: es => by
    simp only [sameA, sameL, sameA_eq ds es, List.length_cons, List.all_cons, id]
    by_cases h : ds.length = es.length
    · simp [h]
    · simp [h]
end Kd

set_option Elab.async false
set_option linter.all false
set_option maxRecDepth 100000
set_option maxHeartbeats 4000000
namespace Kc
open PySem PySem.Spec PyProof.Rows L2 Kg Kd
/-! ### the text -/
def topS (i : Nat) : Stmt := PySem.Challenge.pw_kindstocome_k48_wrong_texts_of_trees.main.body.getD i (.Pass ⟨0, 0, 0, 0⟩)
abbrev sDeck : Stmt := topS 12
abbrev sNext : Stmt := topS 13
abbrev nDeck : List Str := ["_law_script", "_law_cells", "_law_number"]
theorem scDeck : FnScope nDeck ["_law_script"] (defScope sDeck) := ⟨rfl, rfl, rfl, by decide +kernel, rfl, by decide +kernel, by decide +kernel⟩
theorem scNext : FnScope ["_law_deck_here", "_law_many", "_law_rest", "_law_turn", "_law_number", "_law_mixed"] ["_law_deck_here", "_law_many"] (defScope sNext) := ⟨rfl, rfl, rfl, by decide +kernel, rfl, by decide +kernel, by decide +kernel⟩
/-! ### heaps -/
/-- what a draw changes -/
def dk (d la : Addr) : Addr → Prop := fun a => a = d ∨ a = la
/-- a deck at d: its two lists at la and lb, its turn; b more draws may be made -/
structure DeckAt (H : Hp) (d la lb : Addr) (b : Nat) : Prop where
  ex : ∃ (xs ys : List Int) (t : Int), H d = some (.lst [.ref la, .ref lb, .int t]) ∧ H la = some (.lst (xs.map V.int)) ∧ H lb = some (.lst (ys.map V.int)) ∧ ys ≠ [] ∧ ys.length ≤ 100 ∧ 0 ≤ t ∧ t + b ≤ 1152921504606846976
  n1 : d ≠ la
  n2 : d ≠ lb
  n3 : la ≠ lb
theorem DeckAt.less {H : Hp} {d la lb : Addr} {b c : Nat} (D : DeckAt H d la lb b) (h : c ≤ b) : DeckAt H d la lb c := by
  obtain ⟨⟨xs, ys, t, h1, h2, h3, h4, h5, h6, h7⟩, n1, n2, n3⟩ := D
  exact ⟨⟨xs, ys, t, h1, h2, h3, h4, h5, h6, by omega⟩, n1, n2, n3⟩
theorem DeckAt.same {H H' : Hp} {d la lb : Addr} {b : Nat} (D : DeckAt H d la lb b) (h : Same H H') : DeckAt H' d la lb b := by
  obtain ⟨⟨xs, ys, t, h1, h2, h3, h4⟩, n1, n2, n3⟩ := D
  exact ⟨⟨xs, ys, t, h _ _ h1, h _ _ h2, h _ _ h3, h4⟩, n1, n2, n3⟩
theorem DeckAt.tracked {H : Hp} {d la lb : Addr} {b : Nat} (D : DeckAt H d la lb b) : H d ≠ none ∧ H la ≠ none ∧ H lb ≠ none := by
  obtain ⟨⟨xs, ys, t, h1, h2, h3, h4⟩, n1, n2, n3⟩ := D
  exact ⟨by rw [h1]; simp, by rw [h2]; simp, by rw [h3]; simp⟩
/-! ### promises -/
def spDeck (K : PySem.W.Frag) : Sp := fun vs H Q _ => ∃ (a : Addr) (ns : List Int), vs = [.ref a] ∧ SqL K H a (ns.map V.int) ∧ ns.length ≤ 63 ∧
  ∀ H' d la lb, Same H H' → H d = none → H la = none → H lb = none → DeckAt H' d la lb 1152921504606846976 → Q (.ref d) H'
def spNext : Sp := fun vs H Q _ => ∃ (d la lb : Addr) (m : Int) (b : Nat), vs = [.ref d, .int m] ∧ 0 < m ∧ m < 1073741824 ∧ DeckAt H d la lb (b + 1) ∧
  ∀ (v : Int) H', 0 ≤ v → v < m → DeckAt H' d la lb b → Keep (dk d la) H H' → Q (.int v) H'
theorem tk_map {α β : Type} {f : α → β} {l : List α} {i : Nat} {x : α} (h : l[i]? = some x) : (l.take (i + 1)).map f = (l.take i).map f ++ [f x] := by
  rw [List.take_add_one, h, List.map_append]; rfl
theorem map_get {α β : Type} {f : α → β} {l : List α} {i : Nat} {y : β} (h : (l.map f)[i]? = some y) : ∃ x, l[i]? = some x ∧ y = f x := by
  rw [List.getElem?_map] at h
  cases e : l[i]? with
  | none => rw [e] at h; cases h
  | some x => rw [e] at h; exact ⟨x, rfl, (Option.some.inj h).symm⟩
theorem ab_of (n : Int) : 0 ≤ (if n < 0 then -n else n) := by split <;> omega
section
variable {P : Program} {w : World} {K : PySem.W.Frag} {mg : Str → Option Value} {base : Heap}
theorem ok_deck {f : Addr} {fd : FuncData} {k : Nat} (F : Fun K "_law_deck" "_law_deck" sDeck f fd) (ma : mg "abs" = none) (ml : mg "len" = none) : FnOk P w K mg base CX0 (k + 1) f fd ["_law_script"] (spDeck K) := by
  refine F.ok scDeck (fun vs H Q E h => ?_) (fun cdv A outer s H vs Q E hr h => ?_)
  · obtain ⟨a, ns, rfl, _⟩ := h
    rfl
  · obtain ⟨a, ns, rfl, hS, hlen, q⟩ := h
    refine ⟨_, pss_cons (ps_setLc (i := 1) (own := [("_law_number", 2)]) (g := gName 2) rfl scDeck.nd rfl rfl (sw_true rfl rfl rfl (by decide +kernel)) (pi_list (pv 0))
        (blkOk_by (N := nDeck) (sc := defScope sDeck) (by decide +kernel)) (fun _ _ _ _ _ => pg_name (i := 2) scDeck.nd rfl (Or.inl rfl)) (fun _ _ _ _ _ => pts_nil)
        (fun _ _ _ _ _ => pe_callB call_abs (by rfl) ma boot_abs (pa_cons (pv 2) pa_nil)))
      (pss_one (ps_ret (pe_lst (pa_cons (pe_lc (own := [("_law_number", 2)]) (g := gName 2) rfl scDeck.nd (pi_list (pv 1)) (blkOk_by (N := nDeck) (sc := defScope sDeck) (by decide +kernel))
          (fun _ _ _ _ _ => pg_name (i := 2) scDeck.nd rfl (Or.inl rfl)) (fun _ _ _ _ _ => pts_one (pt_cmpR op_ge (pv 2) (pe_op op_pow pe_int pe_int) (nomark _))) (fun _ _ _ _ _ => pv 2))
        (pa_cons (pe_op op_cat (pv 1) (pe_lst (pa_cons (pe_op op_add (pe_callB call_len_seq (by rfl) ml PySem.boot_len (pa_cons (pv 1) pa_nil)) pe_int) pa_nil)))
        (pa_cons pe_int pa_nil)))))), ?_⟩
    -- the cells
    refine ⟨.ref a, rfl, a, rfl, ⟨_, hS⟩, fun D nD => ?_⟩
    refine lc_list (K := K) (a := a) (xs := ns.map V.int) (fun i H1 => Same H H1 ∧ H1 D = some (.lst ((ns.take i).map fun n => V.int (if n < 0 then -n else n)))) ⟨same_new nD, upd_same⟩ (fun i H1 _ p => p.1.seq hS) (fun i x H1 hx p => ?_) (fun H1 p => ?_)
    · obtain ⟨n, hn, rfl⟩ := map_get hx
      refine ⟨rfl, _, rfl, n, rfl, _, p.2, ?_, ?_, ?_⟩
      · rw [List.length_map, List.length_take]
        exact Nat.lt_of_le_of_lt (Nat.min_le_right _ _) (small1000 (by omega))
      · exact fun b o e => by rw [upd_ne (ne_of_none e nD)]; exact p.1 b o e
      · rw [upd_same, tk_map hn]
    · obtain ⟨s1, hD⟩ := p
      rw [List.length_map, List.take_length] at hD
      have hD' : H1 D = some (.lst ((ns.map fun n => if n < 0 then -n else n).map V.int)) := by rw [hD, List.map_map]; rfl
      generalize hc : (ns.map fun n : Int => if n < 0 then -n else n) = cs at hD'
      have hcl : cs.length = ns.length := by rw [← hc, List.length_map]
      -- the great ones
      refine ⟨.ref D, rfl, D, rfl, ⟨_, SqL.of hD'⟩, fun G nG => ?_⟩
      refine lc_list (K := K) (a := D) (xs := cs.map V.int) (fun i H2 => ∃ gs : List Int, gs.length ≤ i ∧ Same H1 H2 ∧ H2 G = some (.lst (gs.map V.int))) ⟨[], Nat.le_refl _, same_new nG, upd_same⟩ (fun i H2 _ p => by obtain ⟨_, _, p, _⟩ := p; exact p.seq (SqL.of hD')) (fun i x H2 hx p => ?_) (fun H2 p => ?_)
      · obtain ⟨gs, hg, s2, hG⟩ := p
        obtain ⟨n, hn, rfl⟩ := map_get hx
        have hi : i < cs.length := (List.getElem?_eq_some_iff.mp hn).1
        refine ⟨rfl, _, rfl, 10, 18, rfl, rfl, ⟨by decide, by decide, by decide⟩, n, _, rfl, rfl, _, rfl, ite2 (fun _ => ?_) (fun _ => ?_)⟩
        · refine ⟨_, rfl, _, hG, ?_, gs ++ [n], ?_, ?_, ?_⟩
          · rw [List.length_map]
            exact small1000 (by omega)
          · rw [List.length_append, List.length_singleton]; omega
          · exact fun b o e => by rw [upd_ne (ne_of_none e nG)]; exact s2 b o e
          · rw [upd_same, List.map_append]; rfl
        · exact ⟨gs, by omega, s2, hG⟩
      · obtain ⟨gs, hg, s2, hG⟩ := p
        rw [List.length_map] at hg
        have hD2 := s2 _ _ hD'
        -- the cells and one more
        refine ⟨.ref D, rfl, .ref D, rfl, D, _, rfl, .inl (SqL.of hD2), _, 5, rfl, rfl, ?_, fun l nl => ?_⟩
        · exact (show 1 ≤ sizeLine by decide)
        · have s3 : Same H2 (upd H2 l (.lst [.int (((cs.map V.int).length : Nat) + 5)])) := same_new nl
          refine ⟨D, l, _, _, rfl, rfl, s3 _ _ hD2, upd_same, ?_, fun c nc => ?_⟩
          · rw [List.length_map, List.length_singleton]
            exact Nat.le_of_lt (small1000 (by omega))
          · have s4 := same_new (o := HO.lst (cs.map V.int ++ [V.int (((cs.map V.int).length : Nat) + 5)])) nc
            refine ⟨(show 3 ≤ sizeLine by decide), fun d nd => ?_⟩
            have s5 := same_new (o := HO.lst [V.ref G, V.ref c, V.int 0]) nd
            have hG4 := s4 _ _ (s3 _ _ hG)
            refine q _ d G c (s1.trans (s2.trans (s3.trans (s4.trans s5)))) ?_ ?_ ?_ ⟨⟨gs, cs ++ [(cs.length : Int) + 5], 0, upd_same, ?_, ?_, ?_, ?_, ?_, ?_⟩, ?_, ?_, ?_⟩
            · exact (s1.trans (s2.trans (s3.trans s4))).free nd
            · exact s1.free nG
            · exact (s1.trans (s2.trans s3)).free nc
            · exact s5 _ _ hG4
            · rw [s5 _ _ upd_same, List.map_append, List.length_map]; rfl
            · intro z
              have := congrArg List.length z
              rw [List.length_append] at this
              simp at this
            · rw [List.length_append, List.length_singleton]; omega
            · exact Int.le_refl 0
            · show (0 : Int) + ((1152921504606846976 : Nat) : Int) ≤ 1152921504606846976
              decide
            · exact fun z => by rw [z, hG4] at nd; cases nd
            · exact fun z => by rw [z, upd_same] at nd; cases nd
            · exact fun z => by rw [← z, s3 _ _ hG] at nc; cases nc
end
end Kc

set_option Elab.async false
set_option linter.all false
set_option maxRecDepth 100000
set_option maxHeartbeats 4000000
namespace Kc
open PySem PySem.Spec PyProof.Rows L2 Kg Kd
section
variable {P : Program} {w : World} {K : PySem.W.Frag} {mg : Str → Option Value} {base : Heap}
theorem dp_ints {K : PySem.W.Frag} {H : Hp} : ∀ xs : List Int, DpAll K H (xs.map V.int) (xs.map PyData.int)
  | [] => .nil
  | x :: r => .cons (.int x) (dp_ints r)
theorem lay_ints : ∀ xs : List Int, PyData.canLayAll0 (xs.map PyData.int) = true
  | [] => rfl
  | x :: r => by
    show (PyData.canLay0 (.int x) && PyData.canLayAll0 (r.map PyData.int)) = true
    rw [lay_ints r]; rfl
theorem dep_ints : ∀ xs : List Int, PyData.depthAll (xs.map PyData.int) = 0
  | [] => rfl
  | x :: r => by
    show max (PyData.depth (.int x)) (PyData.depthAll (r.map PyData.int)) = 0
    rw [dep_ints r]; rfl
theorem shaped_ints (xs : List Int) : SeqAt.shaped (.list (xs.map PyData.int)) = true := by
  unfold SeqAt.shaped
  rw [Bool.and_eq_true]
  refine ⟨?_, decide_eq_true ?_⟩
  · show PyData.canLayAll0 (xs.map PyData.int) = true
    exact lay_ints xs
  · show PyData.depthAll (xs.map PyData.int) + 1 ≤ 64
    rw [dep_ints]; decide
theorem eqv_nil (xs : List Int) : PyData.eqv (.list (xs.map PyData.int)) (.list []) = xs.isEmpty := by
  cases xs with
  | nil => simp [PyData.eqv, PyData.eqvAll]
  | cons x r => simp [PyData.eqv, PyData.eqvAll]
theorem ok_next {f : Addr} {fd : FuncData} {k : Nat} (F : Fun K "_law_next" "_law_next" sNext f fd) (mi : mg "int" = none) (ml : mg "len" = none) : FnOk P w K mg base CX0 (k + 1) f fd ["_law_deck_here", "_law_many"] spNext := by
  refine F.ok scNext (fun vs H Q E h => ?_) (fun cdv A outer s H vs Q E hr h => ?_)
  · obtain ⟨d, la, lb, m, b, rfl, _⟩ := h
    rfl
  · obtain ⟨d, la, lb, m, b, rfl, hm0, hm1, D, q⟩ := h
    refine ⟨_, pss_cons (ps_while PassesOwn.never (pt_cmpR (op_neD hr.units) (pe_ix ix_list (pv 0) pe_int (fun _ _ => rfl)) (pe_lst pa_nil) (nomark _))
        (pss_cons (ps_set (i := 2) scNext.nd rfl (.inl rfl) (pe_ix ix_list (pe_ix ix_list (pv 0) pe_int (fun _ _ => rfl)) pe_int (fun _ _ => rfl)))
        (pss_cons (ps_if (pt_cmpR op_gt (pv 2) pe_int (nomark _))
            (pss_cons (ps_asg (pe_op op_fdivN (pv 2) (pv 1)) (pg_sub (pe_ix ix_list (pv 0) pe_int (fun _ _ => rfl)) pe_int set_list))
            (pss_one (ps_ret (pe_op op_mod (pe_callTy call_int1 (by rfl) mi PyProof.Rows.boot_int (pa_cons (pv 2) pa_nil)) (pv 1))))) pss_nil)
        (pss_one (ps_expr (pe_bm PySem.F.plainAttrs_list PySem.F.slot_list_pop PySem.F.type_list_pop mt_popAt (pe_ix ix_list (pv 0) pe_int (fun _ _ => rfl)) (pa_cons pe_int pa_nil)))))))
      (pss_cons (ps_asg (pe_op op_add (pe_ix ix_list (pv 0) pe_int (fun _ _ => rfl)) pe_int) (pg_sub (pv 0) pe_int set_list))
      (pss_cons (ps_set (i := 3) scNext.nd rfl (.inl rfl) (pe_ix ix_list (pv 0) pe_int (fun _ _ => rfl)))
      (pss_cons (ps_set (i := 4) scNext.nd rfl (.inl rfl) (pe_op op_mod (pe_callTy call_int1 (by rfl) mi PyProof.Rows.boot_int
          (pa_cons (pe_ix ix_list (pe_ix ix_list (pv 0) pe_int (fun _ _ => rfl)) (pe_op op_mod (pe_callTy call_int1 (by rfl) mi PyProof.Rows.boot_int (pa_cons (pv 3) pa_nil))
            (pe_callB call_len_seq (by rfl) ml PySem.boot_len (pa_cons (pe_ix ix_list (pv 0) pe_int (fun _ _ => rfl)) pa_nil))) (fun _ _ => rfl)) pa_nil)) pe_int))
      (pss_cons (ps_set (i := 5) scNext.nd rfl (.inl rfl) (pe_op op_mod (pe_callTy call_int1 (by rfl) mi PyProof.Rows.boot_int
          (pa_cons (pe_op op_add (pe_op op_add (pe_op op_mul (pv 4) (pe_op op_add pe_int (pe_op op_mul pe_int (pv 3)))) (pe_op op_mul (pe_op op_mul pe_int (pv 3)) (pv 3))) pe_int) pa_nil)) pe_int))
      (pss_one (ps_ret (pe_op op_mod (pe_op op_fdiv (pe_op op_mod (pe_callTy call_int1 (by rfl) mi PyProof.Rows.boot_int (pa_cons (pe_op op_mul (pv 5) (pv 5)) pa_nil)) pe_int) pe_int) (pv 1)))))))), ?_⟩
    obtain ⟨⟨xs, ys, t, h1, h2, h3, hy, hyl, ht0, ht⟩, n1, n2, n3⟩ := D
    refine ⟨fun n σ H1 => ∃ (xs : List Int) (y2 : Option V), n = xs.length ∧ σ = [some (.ref d), some (.int m), y2, none, none, none] ∧ H1 d = some (.lst [.ref la, .ref lb, .int t]) ∧ H1 la = some (.lst (xs.map V.int)) ∧ H1 lb = some (.lst (ys.map V.int)) ∧ Keep (dk d la) H H1,
      ⟨_, xs, none, rfl, rfl, h1, h2, h3, Keep.refl _ _⟩, ?_⟩
    rintro n σ H1 ⟨xs, y2, rfl, rfl, g1, g2, g3, kp⟩
    -- the test
    refine ⟨_, rfl, d, _, 0, .ref la, rfl, rfl, SqL.of g1, atI_nat (j := 0) rfl, (show 0 ≤ sizeLine by decide), fun e ne => ?_⟩
    have s1 : Same H1 (upd H1 e (.lst [])) := same_new ne
    have g1' := s1 _ _ g1
    have g2' := s1 _ _ g2
    have g3' := s1 _ _ g3
    refine ⟨.list (xs.map PyData.int), .list [], .lst (SqL.of g2') (dp_ints xs), .lst (SqL.of upd_same) .nil, shaped_ints xs, by decide +kernel, _, rfl, ?_⟩
    rw [eqv_nil]
    have kp' : Keep (dk d la) H (upd H1 e (.lst [])) := kp.trans (Keep.of_same s1)
    generalize (upd H1 e (.lst [])) = H2 at g1' g2' g3' kp'
    cases xs with
    | cons x r =>
      refine iteT ⟨fun σ' H' => ∃ (y2 : Option V), σ' = [some (.ref d), some (.int m), y2, none, none, none] ∧ H' d = some (.lst [.ref la, .ref lb, .int t]) ∧ H' la = some (.lst (r.map V.int)) ∧ H' lb = some (.lst (ys.map V.int)) ∧ Keep (dk d la) H H',
        fun σ' H' ⟨y2, e1, e2, e3, e4, e5⟩ => ⟨r.length, Nat.lt_succ_self _, r, y2, rfl, e1, e2, e3, e4, e5⟩, ?_⟩
      -- rest
      refine ⟨_, rfl, d, _, 0, .ref la, rfl, rfl, SqL.of g1', atI_nat (j := 0) rfl, la, _, 0, .int x, rfl, rfl, SqL.of g2', atI_nat (j := 0) rfl, ?_⟩
      refine ⟨_, rfl, x, 0, rfl, rfl, _, rfl, ite2 (fun hx => ?_) (fun hx => ?_)⟩
      · have hx' : 0 < x := of_decide_eq_true hx
        refine ⟨_, rfl, _, rfl, x, m, rfl, rfl, ⟨by omega, by omega⟩, _, rfl, d, _, 0, .ref la, rfl, rfl, SqL.of g1', atI_nat (j := 0) rfl, la, _, 0, 0, rfl, rfl, g2', by simp [ixN], ?_⟩
        refine ⟨_, rfl, .inl ⟨x, rfl, _, rfl, x, m, rfl, rfl, hm0, ?_⟩⟩
        refine q _ _ (Int.emod_nonneg _ (by omega)) (Int.emod_lt_of_pos _ hm0) ⟨⟨x.fdiv m :: r, ys, t, ?_, ?_, ?_, hy, hyl, ht0, by omega⟩, n1, n2, n3⟩ (kp'.trans (Keep.put (by simp [dk])))
        · rw [upd_ne n1]; exact g1'
        · rw [upd_same]; rfl
        · rw [upd_ne n3.symm]; exact g3'
      · refine ⟨_, rfl, d, _, 0, .ref la, rfl, rfl, SqL.of g1', atI_nat (j := 0) rfl, .inl ⟨rfl, _, SqL.of g2'⟩, la, _, 0, 0, .int x, rfl, rfl, g2', by decide, by decide, by simp [seqIndex?], rfl, ?_⟩
        refine ⟨_, rfl, ?_, ?_, ?_, kp'.trans (Keep.put (by simp [dk]))⟩
        · rw [upd_ne n1]; exact g1'
        · rw [upd_same]; rfl
        · rw [upd_ne n3.symm]; exact g3'
    | nil =>
      refine iteF ?_
      -- the turn goes on
      refine ⟨_, rfl, d, _, 2, .int t, rfl, rfl, SqL.of g1', atI_nat (j := 2) rfl, t, 1, rfl, rfl, _, rfl, d, _, 2, 2, rfl, rfl, g1', by simp [ixN], ?_⟩
      have kp3 : Keep (dk d la) H (upd H2 d (.lst [.ref la, .ref lb, .int (t + 1)])) := kp'.trans (Keep.put (by simp [dk]))
      have e1 : (upd H2 d (.lst [.ref la, .ref lb, .int (t + 1)])) d = some (.lst [.ref la, .ref lb, .int (t + 1)]) := upd_same
      have e2 : (upd H2 d (.lst [.ref la, .ref lb, .int (t + 1)])) la = some (.lst (([] : List Int).map V.int)) := by rw [upd_ne n1.symm]; exact g2'
      have e3 : (upd H2 d (.lst [.ref la, .ref lb, .int (t + 1)])) lb = some (.lst (ys.map V.int)) := by rw [upd_ne n2.symm]; exact g3'
      generalize hH : (upd H2 d (.lst [.ref la, .ref lb, .int (t + 1)])) = H3 at kp3 e1 e2 e3
      have hH' : (upd H2 d (.lst (([.ref la, .ref lb, .int t] : List V).set 2 (.int (t + 1))))) = H3 := hH
      rw [hH']
      refine ⟨_, rfl, d, _, 2, .int (t + 1), rfl, rfl, SqL.of e1, atI_nat (j := 2) rfl, ?_⟩
      have hpos : 0 < ys.length := by
        cases ys with
        | nil => exact absurd rfl hy
        | cons y r => simp
      have hj : ((t + 1) % (ys.length : Int)).toNat < ys.length := by
        have z1 := Int.emod_lt_of_pos (t + 1) (show (0 : Int) < ys.length by omega)
        have z2 := Int.emod_nonneg (t + 1) (show (ys.length : Int) ≠ 0 by omega)
        omega
      refine ⟨_, rfl, d, _, 1, .ref lb, rfl, rfl, SqL.of e1, atI_nat (j := 1) rfl, _, rfl, .inl ⟨t + 1, rfl, _, rfl, d, _, 1, .ref lb, rfl, rfl, SqL.of e1, atI_nat (j := 1) rfl, lb, _, rfl, .inl (SqL.of e3), t + 1, _, rfl, rfl, ?_,
        lb, _, _, .int ys[((t + 1) % (ys.length : Int)).toNat], rfl, rfl, SqL.of e3, ?_, .inl ⟨_, rfl, _, 2147483629, rfl, rfl, (by show (0 : Int) < 2147483629; decide), ?_⟩⟩⟩
      · rw [List.length_map]; omega
      · have z2 := Int.emod_nonneg (t + 1) (show (ys.length : Int) ≠ 0 by omega)
        rw [List.length_map]
        exact at_of (j := ((t + 1) % (ys.length : Int)).toNat) (by omega) (by rw [List.getElem?_map, List.getElem?_eq_getElem hj]; rfl)
      generalize ys[((t + 1) % (ys.length : Int)).toNat] = y0
      have b1 := Int.emod_nonneg y0 (show (2147483629 : Int) ≠ 0 by decide)
      have b2 := Int.emod_lt_of_pos y0 (show (0 : Int) < 2147483629 by decide)
      obtain ⟨nu, enu, b1, b2⟩ : ∃ nu : Int, (fun i j : Int => V.int (i % j)) y0 2147483629 = V.int nu ∧ 0 ≤ nu ∧ nu < 2147483629 := ⟨_, rfl, b1, b2⟩
      rw [enu]
      refine ⟨_, rfl, _, rfl, 68111, t + 1, rfl, rfl, .inl ⟨by decide, by decide⟩, 50331, _, rfl, rfl, nu, _, rfl, rfl, .inl ⟨by omega, by omega⟩, _, rfl, 41287, t + 1, rfl, rfl, .inl ⟨by decide, by decide⟩, _, rfl, _, t + 1, rfl, rfl, .inr ⟨by omega, by omega⟩, _, _, rfl, rfl, _, 19, rfl, rfl, .inl ⟨_, rfl, _, 2147483587, rfl, rfl, (by show (0 : Int) < 2147483587; decide), ?_⟩⟩
      generalize nu * (50331 + 68111 * (t + 1)) + 41287 * (t + 1) * (t + 1) + 19 = big
      have c1 := Int.emod_nonneg big (show (2147483587 : Int) ≠ 0 by decide)
      have c2 := Int.emod_lt_of_pos big (show (0 : Int) < 2147483587 by decide)
      obtain ⟨mi', emi, c1, c2⟩ : ∃ nu : Int, (fun i j : Int => V.int (i % j)) big 2147483587 = V.int nu ∧ 0 ≤ nu ∧ nu < 2147483587 := ⟨_, rfl, c1, c2⟩
      rw [emi]
      refine ⟨_, rfl, _, rfl, mi', mi', rfl, rfl, .inl ⟨by omega, by omega⟩, .inl ⟨_, rfl, _, 2147483579, rfl, rfl, (by show (0 : Int) < 2147483579; decide), _, 16, rfl, rfl, ⟨by decide, by decide⟩, _, rfl, _, m, rfl, rfl, hm0, ?_⟩⟩
      exact q _ _ (Int.emod_nonneg _ (by omega)) (Int.emod_lt_of_pos _ hm0) ⟨⟨[], ys, t + 1, e1, e2, e3, hy, hyl, by omega, by omega⟩, n1, n2, n3⟩ kp3
end
end Kc

set_option Elab.async false
set_option linter.all false
set_option maxRecDepth 100000
set_option maxHeartbeats 4000000
namespace Kc
open PySem PySem.Spec PyProof.Rows L2 Kg Kd
abbrev sSame : Stmt := topS 14
abbrev nSame : List Str := ["_law_found", "_law_due_here", "_law_one", "_law_other"]
theorem scSame : FnScope nSame ["_law_found", "_law_due_here"] (defScope sSame) := ⟨rfl, rfl, rfl, by decide +kernel, rfl, by decide +kernel, by decide +kernel⟩
/-- the built-in names that the laws use are the built-ins -/
structure Bl (mg : Str → Option Value) : Prop where
  abs : mg "abs" = none
  len : mg "len" = none
  int : mg "int" = none
  isi : mg "isinstance" = none
  tuple : mg "tuple" = none
  list : mg "list" = none
  str : mg "str" = none
  bool : mg "bool" = none
  dict : mg "dict" = none
  zip : mg "zip" = none
  all : mg "all" = none
  repr : mg "repr" = none
  range : mg "range" = none
def spSame (n : Nat) : Sp := fun vs H Q _ => ∃ (x y : V) (d e : PyData), vs = [x, y] ∧ Da Kd.nil H x d ∧ Da Kd.nil H y e ∧ e.depth < n ∧ ∀ H', Same H H' → Q (.bl (sameD d e)) H'
theorem dep_mem : ∀ {es : List PyData} {i : Nat} {e : PyData}, es[i]? = some e → e.depth ≤ PyData.depthAll es
  | [], i, e, h => by simp at h
  | a :: es, 0, e, h => by
    simp at h
    rw [← h]
    show a.depth ≤ max a.depth (PyData.depthAll es)
    omega
  | a :: es, i + 1, e, h => by
    have z := dep_mem (es := es) (i := i) (e := e) (by simpa using h)
    show e.depth ≤ max a.depth (PyData.depthAll es)
    omega
section
variable {P : Program} {w : World} {K : PySem.W.Frag} {mg : Str → Option Value} {base : Heap}
theorem ok_same1 {f : Addr} {fd : FuncData} {n : Nat} (F : Fun K "_law_same" "_law_same" sSame f fd) (B : Bl mg) (bS : Binds K fd ["_law_found", "_law_due_here"] []) (gS : mg "_law_same" = some (.ref f))
    (G : FnG P w K mg base n f fd ["_law_found", "_law_due_here"] (spSame n)) : FnG P w K mg base (n + 1) f fd ["_law_found", "_law_due_here"] (spSame (n + 1)) := by
  refine okG F scSame (fun vs H Q E h => ?_) (fun cdv A out s H vs Q hgu hr h => ?_)
  · obtain ⟨x, y, d, e, rfl, _⟩ := h
    rfl
  · obtain ⟨x, y, d, e, rfl, hx, hy, hn, q⟩ := h
    refine ⟨_, pss_cons (ps_if (pt_val (pe_callB call_isiT (by rfl) B.isi boot_isinstance (pa_cons (pv 1) (pa_cons (pe_tup (pa_cons (pe_bltn (v := .ty "tuple") (by rfl) B.tuple PyProof.Rows.boot_tuple rfl) (pa_cons (pe_bltn (v := .ty "list") (by rfl) B.list PyProof.Rows.boot_list rfl) pa_nil))) pa_nil))))
        (pss_cons (ps_if (PW.pt (pw_or (pt_cmpR op_ne (pe_callB call_isi (by rfl) B.isi boot_isinstance (pa_cons (pv 1) (pa_cons (pe_bltn (v := .ty "tuple") (by rfl) B.tuple PyProof.Rows.boot_tuple rfl) pa_nil))) (pe_callB call_isi (by rfl) B.isi boot_isinstance (pa_cons (pv 0) (pa_cons (pe_bltn (v := .ty "tuple") (by rfl) B.tuple PyProof.Rows.boot_tuple rfl) pa_nil))) (nomark _))
            (pw_or1 (pt_cmpR op_ne (pe_callB call_isi (by rfl) B.isi boot_isinstance (pa_cons (pv 1) (pa_cons (pe_bltn (v := .ty "list") (by rfl) B.list PyProof.Rows.boot_list rfl) pa_nil))) (pe_callB call_isi (by rfl) B.isi boot_isinstance (pa_cons (pv 0) (pa_cons (pe_bltn (v := .ty "list") (by rfl) B.list PyProof.Rows.boot_list rfl) pa_nil))) (nomark _)))))
          (pss_one (ps_ret pe_bl)) pss_nil)
        (pss_one (ps_ret (pe_and (pe_cmpR op_eq (pe_callB call_len_seq (by rfl) B.len PySem.boot_len (pa_cons (pv 0) pa_nil)) (pe_callB call_len_seq (by rfl) B.len PySem.boot_len (pa_cons (pv 1) pa_nil)) (nomark _))
          (pe_one (pe_callB (cr_all rfl) (by rfl) B.all boot_all (pa_cons (pe_lc (own := [("_law_one", 2), ("_law_other", 3)]) (g := gTup K 2 (gCons (gName 2) (gCons (gName 3) gNil))) rfl scSame.nd (RZ.pi_zipA (by rfl) B.zip (pa_cons (pv 0) (pa_cons (pv 1) pa_nil))) (blkOk_by (N := nSame) (sc := defScope sSame) (by decide +kernel))
            (fun _ _ _ _ _ => pg_tup rfl (pgs_cons (pg_name (i := 2) scSame.nd rfl (.inl rfl)) (pgs_cons (pg_name (i := 3) scSame.nd rfl (.inl rfl)) pgs_nil))) (fun _ _ _ _ _ => pts_nil)
            (fun _ _ _ _ _ => pe_callG G hgu hr (by rfl) gS F.kp bS (pa_cons (pv 2) (pa_cons (pv 3) pa_nil)))) pa_nil)))))))
        pss_nil)
      (pss_cons (ps_if (pt_cmpR op_isN (pv 1) pe_non (nomark _)) (pss_one (ps_ret (pe_cmpR op_isN (pv 0) pe_non (nomark _)))) pss_nil)
      (pss_cons (ps_if (pt_val (pe_callB call_isi (by rfl) B.isi boot_isinstance (pa_cons (pv 1) (pa_cons (pe_bltn (v := .ty "str") (by rfl) B.str PyProof.Rows.boot_str rfl) pa_nil))))
        (pss_one (ps_ret (pe_and (pe_callB call_isi (by rfl) B.isi boot_isinstance (pa_cons (pv 0) (pa_cons (pe_bltn (v := .ty "str") (by rfl) B.str PyProof.Rows.boot_str rfl) pa_nil))) (pe_one (pe_cmpR op_eq (pv 0) (pv 1) (nomark _)))))) pss_nil)
      (pss_cons (ps_if (PW.pt (pw_or (pt_val (pe_callB call_isi (by rfl) B.isi boot_isinstance (pa_cons (pv 1) (pa_cons (pe_bltn (v := .ty "bool") (by rfl) B.bool PyProof.Rows.boot_bool rfl) pa_nil)))) (pw_or1 (pt_val (pe_callB call_isi (by rfl) B.isi boot_isinstance (pa_cons (pv 0) (pa_cons (pe_bltn (v := .ty "bool") (by rfl) B.bool PyProof.Rows.boot_bool rfl) pa_nil)))))))
        (pss_one (ps_ret (pe_and (pe_callB call_isi (by rfl) B.isi boot_isinstance (pa_cons (pv 0) (pa_cons (pe_bltn (v := .ty "bool") (by rfl) B.bool PyProof.Rows.boot_bool rfl) pa_nil))) (pe_and (pe_callB call_isi (by rfl) B.isi boot_isinstance (pa_cons (pv 1) (pa_cons (pe_bltn (v := .ty "bool") (by rfl) B.bool PyProof.Rows.boot_bool rfl) pa_nil))) (pe_one (pe_cmpR op_eq (pv 0) (pv 1) (nomark _))))))) pss_nil)
      (pss_cons (ps_if (pt_val (pe_callB call_isi (by rfl) B.isi boot_isinstance (pa_cons (pv 1) (pa_cons (pe_bltn (v := .ty "int") (by rfl) B.int PyProof.Rows.boot_int rfl) pa_nil))))
        (pss_one (ps_ret (pe_and (pe_callB call_isi (by rfl) B.isi boot_isinstance (pa_cons (pv 0) (pa_cons (pe_bltn (v := .ty "int") (by rfl) B.int PyProof.Rows.boot_int rfl) pa_nil))) (pe_one (pe_cmpR op_eq (pv 0) (pv 1) (nomark _)))))) pss_nil)
      (pss_one (ps_ret (pe_and (pe_callB call_isi (by rfl) B.isi boot_isinstance (pa_cons (pv 1) (pa_cons (pe_bltn (v := .ty "dict") (by rfl) B.dict PyProof.Rows.boot_dict rfl) pa_nil))) (pe_and (pe_callB call_isi (by rfl) B.isi boot_isinstance (pa_cons (pv 0) (pa_cons (pe_bltn (v := .ty "dict") (by rfl) B.dict PyProof.Rows.boot_dict rfl) pa_nil)))
        (pe_one (pe_cmpR op_eq (pe_callB (call_reprD hgu hr.units) (by rfl) B.repr PyProof.Rows.boot_repr (pa_cons (pv 0) pa_nil)) (pe_callB (call_reprD hgu hr.units) (by rfl) B.repr PyProof.Rows.boot_repr (pa_cons (pv 1) pa_nil)) (nomark _))))))))))), ?_⟩
    refine ⟨y, rfl, (show 2 ≤ sizeLine by decide), fun tp ntp => ?_⟩
    have s1 : Same H (upd H tp (.tup [.ty "tuple", .ty "list"])) := same_new ntp
    have hx1 := hx.same s1
    have hy1 := hy.same s1
    refine ⟨y, tp, _, _, _, isSeq e, rfl, upd_same, .cons (.ty _) (.cons (.ty _) .nil), hy1.ty, kt_seq e, _, rfl, ?_⟩
    generalize upd H tp (.tup [.ty "tuple", .ty "list"]) = H1 at s1 hx1 hy1 ⊢
    have q1 : ∀ H', Same H1 H' → Q (.bl (sameD d e)) H' := fun H' z => q H' (s1.trans z)
    clear q hx hy s1
    have r1 := Same.refl H1
    cases e with
    | none =>
      refine iteF ⟨_, rfl, rfl, _, rfl, ?_⟩
      rw [hy1.non_iff]
      refine iteT ⟨_, rfl, rfl, ?_⟩
      rw [hx1.non_iff]
      cases d <;> exact q1 _ r1
    | str z =>
      refine iteF ⟨_, rfl, rfl, _, rfl, ?_⟩
      rw [hy1.non_iff]
      refine iteF ⟨_, rfl, _, _, _, _, true, rfl, .ty _, hy1.ty, kit_ty (kt_str _), _, rfl, iteT ?_⟩
      refine ⟨_, rfl, _, _, _, _, isStr d, rfl, .ty _, hx1.ty, kit_ty (kt_str _), _, rfl, ?_⟩
      cases hx1 with
      | str z2 =>
        cases hy1
        refine iteT ⟨_, rfl, _, rfl, rfl, ?_⟩
        have e1 : decide (V.str z2 = V.str z) = decide (z2 = z) := by
          by_cases h : z2 = z
          · rw [h]; simp
          · rw [decide_eq_false h, decide_eq_false (fun c => h (V.str.inj c))]
        rw [e1]
        exact q1 _ r1
      | _ => exact iteF (q1 _ r1)
    | bool z =>
      refine iteF ⟨_, rfl, rfl, _, rfl, ?_⟩
      rw [hy1.non_iff]
      refine iteF ⟨_, rfl, _, _, _, _, false, rfl, .ty _, hy1.ty, kit_ty (kt_str _), _, rfl, iteF ?_⟩
      refine ⟨_, rfl, _, _, _, _, true, rfl, .ty _, hy1.ty, kit_ty (kt_bool _), _, rfl, iteT (iteT ?_)⟩
      refine ⟨_, rfl, _, _, _, _, isBool d, rfl, .ty _, hx1.ty, kit_ty (kt_bool _), _, rfl, ?_⟩
      cases hx1 with
      | bl z2 =>
        refine iteT ⟨_, rfl, _, _, _, _, true, rfl, .ty _, hy1.ty, kit_ty (kt_bool _), _, rfl, iteT ?_⟩
        cases hy1
        refine ⟨_, rfl, _, rfl, rfl, ?_⟩
        have e1 : decide (V.bl z2 = V.bl z) = decide (z2 = z) := by
          by_cases h : z2 = z
          · rw [h]; simp
          · rw [decide_eq_false h, decide_eq_false (fun c => h (V.bl.inj c))]
        rw [e1]
        exact q1 _ r1
      | _ => exact iteF (q1 _ r1)
    | int z =>
      refine iteF ⟨_, rfl, rfl, _, rfl, ?_⟩
      rw [hy1.non_iff]
      refine iteF ⟨_, rfl, _, _, _, _, false, rfl, .ty _, hy1.ty, kit_ty (kt_str _), _, rfl, iteF ?_⟩
      refine ⟨_, rfl, _, _, _, _, false, rfl, .ty _, hy1.ty, kit_ty (kt_bool _), _, rfl, iteF ?_⟩
      refine ⟨_, rfl, _, _, _, _, isBool d, rfl, .ty _, hx1.ty, kit_ty (kt_bool _), _, rfl, ?_⟩
      cases hx1 with
      | bl z2 =>
        refine iteT ⟨_, rfl, _, _, _, _, true, rfl, .ty _, Da.ty (Da.bl (av := Kd.nil) z2), kit_ty (kt_bool (.bool z2)), _, rfl, iteT ?_⟩
        exact ⟨_, rfl, _, _, _, _, false, rfl, .ty _, hy1.ty, kit_ty (kt_bool _), _, rfl, iteF (q1 _ r1)⟩
      | int z2 =>
        refine iteF ⟨_, rfl, _, _, _, _, true, rfl, .ty _, hy1.ty, kit_ty (kt_int _), _, rfl, iteT ?_⟩
        refine ⟨_, rfl, _, _, _, _, true, rfl, .ty _, Da.ty (Da.int (av := Kd.nil) z2), kit_ty (kt_int (.int z2)), _, rfl, iteT ?_⟩
        cases hy1
        refine ⟨_, rfl, _, rfl, rfl, ?_⟩
        have e1 : decide (V.int z2 = V.int z) = decide (z2 = z) := by
          by_cases h : z2 = z
          · rw [h]; simp
          · rw [decide_eq_false h, decide_eq_false (fun c => h (V.int.inj c))]
        rw [e1]
        exact q1 _ r1
      | non => exact iteF ⟨_, rfl, _, _, _, _, true, rfl, .ty _, hy1.ty, kit_ty (kt_int _), _, rfl, iteT ⟨_, rfl, _, _, _, _, false, rfl, .ty _, Da.ty (Da.non (av := Kd.nil)), kit_ty (kt_int .none), _, rfl, iteF (q1 _ r1)⟩⟩
      | str z2 => exact iteF ⟨_, rfl, _, _, _, _, true, rfl, .ty _, hy1.ty, kit_ty (kt_int _), _, rfl, iteT ⟨_, rfl, _, _, _, _, false, rfl, .ty _, Da.ty (Da.str (av := Kd.nil) z2), kit_ty (kt_int (.str z2)), _, rfl, iteF (q1 _ r1)⟩⟩
      | lst a1 a2 a3 a4 => exact iteF ⟨_, rfl, _, _, _, _, true, rfl, .ty _, hy1.ty, kit_ty (kt_int _), _, rfl, iteT ⟨_, rfl, _, _, _, _, false, rfl, .ty _, Da.ty (Da.lst a1 a2 a3 a4), kit_ty (kt_int (.list _)), _, rfl, iteF (q1 _ r1)⟩⟩
      | tup a1 a2 a3 a4 => exact iteF ⟨_, rfl, _, _, _, _, true, rfl, .ty _, hy1.ty, kit_ty (kt_int _), _, rfl, iteT ⟨_, rfl, _, _, _, _, false, rfl, .ty _, Da.ty (Da.tup a1 a2 a3 a4), kit_ty (kt_int (.tuple _)), _, rfl, iteF (q1 _ r1)⟩⟩
      | dc0 a1 a2 => exact iteF ⟨_, rfl, _, _, _, _, true, rfl, .ty _, hy1.ty, kit_ty (kt_int _), _, rfl, iteT ⟨_, rfl, _, _, _, _, false, rfl, .ty _, Da.ty (Da.dc0 a1 a2), kit_ty (kt_int (.dict _)), _, rfl, iteF (q1 _ r1)⟩⟩
      | dc1 a1 a2 => exact iteF ⟨_, rfl, _, _, _, _, true, rfl, .ty _, hy1.ty, kit_ty (kt_int _), _, rfl, iteT ⟨_, rfl, _, _, _, _, false, rfl, .ty _, Da.ty (Da.dc1 a1 a2), kit_ty (kt_int (.dict _)), _, rfl, iteF (q1 _ r1)⟩⟩
    | dict z =>
      refine iteF ⟨_, rfl, rfl, _, rfl, ?_⟩
      rw [hy1.non_iff]
      refine iteF ⟨_, rfl, _, _, _, _, false, rfl, .ty _, hy1.ty, kit_ty (kt_str _), _, rfl, iteF ?_⟩
      refine ⟨_, rfl, _, _, _, _, false, rfl, .ty _, hy1.ty, kit_ty (kt_bool _), _, rfl, iteF ?_⟩
      refine ⟨_, rfl, _, _, _, _, isBool d, rfl, .ty _, hx1.ty, kit_ty (kt_bool _), _, rfl, ?_⟩
      by_cases hb : isBool d = true
      · cases d with
        | bool z2 => exact iteT ⟨_, rfl, _, _, _, _, true, rfl, .ty _, hx1.ty, kit_ty (kt_bool (.bool z2)), _, rfl, iteT ⟨_, rfl, _, _, _, _, false, rfl, .ty _, hy1.ty, kit_ty (kt_bool _), _, rfl, iteF (q1 _ r1)⟩⟩
        | _ => exact nomatch hb
      · rw [Bool.not_eq_true] at hb
        rw [hb]
        refine iteF ⟨_, rfl, _, _, _, _, false, rfl, .ty _, hy1.ty, kit_ty (kt_int _), _, rfl, iteF ?_⟩
        refine ⟨_, rfl, _, _, _, _, true, rfl, .ty _, hy1.ty, kit_ty (kt_dct _), _, rfl, iteT ?_⟩
        refine ⟨_, rfl, _, _, _, _, isDct d, rfl, .ty _, hx1.ty, kit_ty (kt_dct _), _, rfl, ?_⟩
        cases d with
        | dict z2 =>
          refine iteT ⟨_, rfl, Kd.nil, _, _, rfl, hx1, _, rfl, Kd.nil, _, _, rfl, hy1, rfl, ?_⟩
          have e1 : decide (V.str (PyData.dict z2).shown = V.str (PyData.dict z).shown) = sameD (.dict z2) (.dict z) := by
            show _ = decide ((PyData.dict z2).shown = (PyData.dict z).shown)
            by_cases h : (PyData.dict z2).shown = (PyData.dict z).shown
            · rw [h]; simp
            · rw [decide_eq_false h, decide_eq_false (fun c => h (V.str.inj c))]
          rw [e1]
          exact q1 _ r1
        | _ => exact iteF (q1 _ r1)
    | tuple es =>
      refine iteT ⟨_, rfl, _, _, _, _, true, rfl, .ty _, hy1.ty, kit_ty (kt_tup _), _, rfl, _, _, _, _, isTup d, rfl, .ty _, hx1.ty, kit_ty (kt_tup _), rfl, _, rfl, ?_⟩
      by_cases hb : isTup d = true
      · cases d with
        | tuple ds =>
          refine iteF ⟨_, rfl, _, _, _, _, false, rfl, .ty _, hy1.ty, kit_ty (kt_lst (.tuple es)), _, rfl, _, _, _, _, false, rfl, .ty _, hx1.ty, kit_ty (kt_lst (.tuple ds)), rfl, _, rfl, iteF ?_⟩
          cases hx1 with
          | @tup a xs _ na ha hal hA =>
            cases hy1 with
            | @tup b ys _ nb hb2 hbl hB =>
              refine ⟨_, rfl, a, xs, rfl, .inr (SqT.of ha), _, rfl, b, ys, rfl, .inr (SqT.of hb2), rfl, _, rfl, ?_⟩
              have l1 := hA.length
              have l2 := hB.length
              refine ite2 (fun c => ?_) (fun c => ?_)
              · have c' : xs.length = ys.length := by
                  have := V.int.inj (of_decide_eq_true c)
                  omega
                refine ⟨_, rfl, _, rfl, a, b, xs, ys, rfl, .inr ⟨SqT.of ha, SqT.of hb2, fun D nD => ?_⟩⟩
                refine lc_it (walk_zipT (n := xs.length) (by omega)) (fun i H2 => Same H1 H2 ∧ H2 D = some (.lst (((sameL ds es).take i).map V.bl))) ⟨same_new nD, upd_same⟩ (fun i H2 _ p => ⟨SqT.of (p.1 _ _ ha), SqT.of (p.1 _ _ hb2)⟩) (fun i v H2 H3 hi p yy => ?_) (fun H2 p => ?_)
                · obtain ⟨T, v1, v2, rfl, nT, rfl, f1, f2⟩ := yy
                  obtain ⟨d1, g1, k1⟩ := hA.get f1
                  obtain ⟨e1, g2, k2⟩ := hB.get f2
                  have s3 : Same H1 (upd H2 T (.tup [v1, v2])) := p.1.trans (same_new nT)
                  refine ⟨T, _, rfl, SqT.of upd_same, rfl, v1, _, rfl, v2, _, rfl, rfl, rfl, ?_⟩
                  refine ⟨_, rfl, _, rfl, v1, v2, d1, e1, rfl, k1.same s3, k2.same s3, ?_, fun H4 s4 => ⟨((sameL ds es).take i).map V.bl, ?_, ?_, ?_, ?_⟩⟩
                  · have z := dep_mem g2
                    have z2 : PyData.depthAll es + 1 < n + 1 := hn
                    omega
                  · exact s4 _ _ (same_new nT _ _ p.2)
                  · rw [List.length_map, List.length_take]
                    exact Nat.lt_of_le_of_lt (Nat.min_le_left _ _) (small1000 (by omega))
                  · exact fun bb o z => by rw [upd_ne (ne_of_none z nD)]; exact s4 _ _ (s3 _ _ z)
                  · rw [upd_same, tk_map (sameL_get ds es i d1 e1 g1 g2)]
                · have e3 : (sameL ds es).take xs.length = sameL ds es := List.take_of_length_le (by rw [sameL_len]; omega)
                  rw [e3] at p
                  refine ⟨D, _, rfl, SqL.of p.2, ?_⟩
                  have e4 : sameD (.tuple ds) (.tuple es) = (sameL ds es).all id := by
                    show sameA ds es = _
                    rw [sameA_eq, decide_eq_true (show ds.length = es.length by omega)]
                    exact Bool.true_and _
                  rw [← e4]
                  exact q1 _ p.1
              · have c' : ds.length ≠ es.length := fun z => c (decide_eq_true (congrArg V.int (by omega)))
                have e4 : sameD (.tuple ds) (.tuple es) = false := by
                  show sameA ds es = _
                  rw [sameA_eq, decide_eq_false c']
                  exact Bool.false_and _
                rw [← e4]
                exact q1 _ r1
        | _ => exact nomatch hb
      · rw [Bool.not_eq_true] at hb
        rw [hb]
        refine iteT (iteT ?_)
        have e4 : sameD d (.tuple es) = false := by
          cases d with
          | tuple ds => exact nomatch hb
          | _ => rfl
        rw [← e4]
        exact q1 _ r1
    | list es =>
      refine iteT ⟨_, rfl, _, _, _, _, false, rfl, .ty _, hy1.ty, kit_ty (kt_tup _), _, rfl, _, _, _, _, isTup d, rfl, .ty _, hx1.ty, kit_ty (kt_tup _), rfl, _, rfl, ?_⟩
      by_cases hb : isLst d = true
      · cases d with
        | list ds =>
          refine iteF ⟨_, rfl, _, _, _, _, true, rfl, .ty _, hy1.ty, kit_ty (kt_lst (.list es)), _, rfl, _, _, _, _, true, rfl, .ty _, hx1.ty, kit_ty (kt_lst (.list ds)), rfl, _, rfl, iteF ?_⟩
          cases hx1 with
          | @lst a xs _ na ha hal hA =>
            cases hy1 with
            | @lst b ys _ nb hb2 hbl hB =>
              refine ⟨_, rfl, a, xs, rfl, .inl (SqL.of ha), _, rfl, b, ys, rfl, .inl (SqL.of hb2), rfl, _, rfl, ?_⟩
              have l1 := hA.length
              have l2 := hB.length
              refine ite2 (fun c => ?_) (fun c => ?_)
              · have c' : xs.length = ys.length := by
                  have := V.int.inj (of_decide_eq_true c)
                  omega
                refine ⟨_, rfl, _, rfl, a, b, xs, ys, rfl, .inl ⟨SqL.of ha, SqL.of hb2, fun D nD => ?_⟩⟩
                refine lc_it (walk_zip (n := xs.length) (xs := xs) (ys := ys) (by omega)) (fun i H2 => Same H1 H2 ∧ H2 D = some (.lst (((sameL ds es).take i).map V.bl))) ⟨same_new nD, upd_same⟩ (fun i H2 _ p => ⟨SqL.of (p.1 _ _ ha), SqL.of (p.1 _ _ hb2)⟩) (fun i v H2 H3 hi p yy => ?_) (fun H2 p => ?_)
                · obtain ⟨T, v1, v2, rfl, nT, rfl, f1, f2⟩ := yy
                  obtain ⟨d1, g1, k1⟩ := hA.get f1
                  obtain ⟨e1, g2, k2⟩ := hB.get f2
                  have s3 : Same H1 (upd H2 T (.tup [v1, v2])) := p.1.trans (same_new nT)
                  refine ⟨T, _, rfl, SqT.of upd_same, rfl, v1, _, rfl, v2, _, rfl, rfl, rfl, ?_⟩
                  refine ⟨_, rfl, _, rfl, v1, v2, d1, e1, rfl, k1.same s3, k2.same s3, ?_, fun H4 s4 => ⟨((sameL ds es).take i).map V.bl, ?_, ?_, ?_, ?_⟩⟩
                  · have z := dep_mem g2
                    have z2 : PyData.depthAll es + 1 < n + 1 := hn
                    omega
                  · exact s4 _ _ (same_new nT _ _ p.2)
                  · rw [List.length_map, List.length_take]
                    exact Nat.lt_of_le_of_lt (Nat.min_le_left _ _) (small1000 (by omega))
                  · exact fun bb o z => by rw [upd_ne (ne_of_none z nD)]; exact s4 _ _ (s3 _ _ z)
                  · rw [upd_same, tk_map (sameL_get ds es i d1 e1 g1 g2)]
                · have e3 : (sameL ds es).take xs.length = sameL ds es := List.take_of_length_le (by rw [sameL_len]; omega)
                  rw [e3] at p
                  refine ⟨D, _, rfl, SqL.of p.2, ?_⟩
                  have e4 : sameD (.list ds) (.list es) = (sameL ds es).all id := by
                    show sameA ds es = _
                    rw [sameA_eq, decide_eq_true (show ds.length = es.length by omega)]
                    exact Bool.true_and _
                  rw [← e4]
                  exact q1 _ p.1
              · have c' : ds.length ≠ es.length := fun z => c (decide_eq_true (congrArg V.int (by omega)))
                have e4 : sameD (.list ds) (.list es) = false := by
                  show sameA ds es = _
                  rw [sameA_eq, decide_eq_false c']
                  exact Bool.false_and _
                rw [← e4]
                exact q1 _ r1
        | _ => exact nomatch hb
      · rw [Bool.not_eq_true] at hb
        have e4 : sameD d (.list es) = false := by
          cases d with
          | list ds => exact nomatch hb
          | _ => rfl
        rw [e4] at q1
        by_cases ht : isTup d = true
        · rw [ht]
          exact iteT (iteT (q1 _ r1))
        · rw [Bool.not_eq_true] at ht
          rw [ht]
          refine iteF ⟨_, rfl, _, _, _, _, true, rfl, .ty _, hy1.ty, kit_ty (kt_lst (.list es)), _, rfl, _, _, _, _, isLst d, rfl, .ty _, hx1.ty, kit_ty (kt_lst _), rfl, _, rfl, ?_⟩
          rw [hb]
          exact iteT (q1 _ r1)
theorem ok_same {f : Addr} {fd : FuncData} (F : Fun K "_law_same" "_law_same" sSame f fd) (B : Bl mg) (bS : Binds K fd ["_law_found", "_law_due_here"] []) (gS : mg "_law_same" = some (.ref f)) :
    ∀ n : Nat, FnG P w K mg base n f fd ["_law_found", "_law_due_here"] (spSame n)
  | 0 => ⟨fun vs H Q E h => by obtain ⟨x, y, d, e, _, _, _, z, _⟩ := h; exact absurd z (Nat.not_lt_zero _), fun A out s H ar us vs Q _ _ _ _ _ h => by obtain ⟨x, y, d, e, _, _, _, z, _⟩ := h; exact absurd z (Nat.not_lt_zero _)⟩
  | n + 1 => ok_same1 F B bS gS (ok_same F B bS gS n)
end
end Kc

set_option Elab.async false
set_option linter.all false
set_option maxRecDepth 100000
set_option maxHeartbeats 4000000
/-! Displays of data: an expression that makes a datum anew. -/
namespace Kd
open PySem PySem.Spec PyProof.Rows L2 Kg
def trk (H : Hp) : Addr → Prop := fun a => H a ≠ none
theorem trk_mono {H H' : Hp} (s : Same H H') : ∀ a, trk H a → trk H' a := fun a h z => h (s.free z)
theorem Keep.free {ds : Addr → Prop} {H H' : Hp} (k : Keep ds H H') (d : ∀ a, ds a → H' a ≠ none) {a : Addr} (h : H' a = none) : H a = none := by
  cases q : H a with
  | none => rfl
  | some o =>
    by_cases z : ds a
    · exact absurd h (d a z)
    · rw [k a o q z] at h; exact nomatch h
theorem pe_imp {X : Cx} {e : Expr} {t t' : TE} (h : PE X e t) (i : ∀ σ H Q, t' σ H Q → t σ H Q) : PE X e t' := ⟨fun pins s σ H Q I z => h.run pins s σ H Q I (i σ H Q z)⟩
theorem pa_imp {X : Cx} {es : List Expr} {t t' : TA} (h : PA X es t) (i : ∀ σ H Q, t' σ H Q → t σ H Q) : PA X es t' := ⟨fun pos pins s σ H Q I z => h.run pos pins s σ H Q I (i σ H Q z)⟩
/-- a datum, made anew -/
def tDat (d : PyData) : TE := fun _ H Q => ∀ v H', Same H H' → Da (trk H) H' v d → Q v H'
def tDats (ds : List PyData) : TA := fun _ H Q => ∀ vs H', Same H H' → DaAll (trk H) H' vs ds → Q vs H'
section
variable {X : Cx}
theorem pd_non {j pos} : PE X (.Constant .none j pos) (tDat .none) := pe_imp pe_non fun _ H _ z => z _ H (Same.refl H) .non
theorem pd_bl {b : Bool} {j pos} : PE X (.Constant (.bool b) j pos) (tDat (.bool b)) := pe_imp pe_bl fun _ H _ z => z _ H (Same.refl H) (.bl b)
theorem pd_int {i : Int} {j pos} : PE X (.Constant (.int i) j pos) (tDat (.int i)) := pe_imp pe_int fun _ H _ z => z _ H (Same.refl H) (.int i)
theorem pd_str {x : Str} {j pos} : PE X (.Constant (.str x) j pos) (tDat (.str x)) := pe_imp pe_str fun _ H _ z => z _ H (Same.refl H) (.str x)
theorem pd_neg {i : Int} {j p pos} : PE X (.UnaryOp .USub (.Constant (.int i) j p) pos) (tDat (.int (-i))) := pe_imp (pe_un un_neg pe_int) fun _ H _ z => ⟨i, rfl, z _ H (Same.refl H) (.int (-i))⟩
theorem pd_pow {a b : Int} {j p j2 p2 pos} (h : CPow a b) : PE X (.BinOp (.Constant (.int a) j p) .Pow (.Constant (.int b) j2 p2) pos) (tDat (.int (a ^ b.toNat))) := pe_imp (pe_op op_pow pe_int pe_int) fun _ H _ z => ⟨a, b, rfl, rfl, h, z _ H (Same.refl H) (.int (a ^ b.toNat))⟩
theorem pds_nil : PA X [] (tDats []) := pa_imp pa_nil fun _ H _ z => z _ H (Same.refl H) .nil
theorem pds_cons {e : Expr} {es : List Expr} {d : PyData} {ds : List PyData} (h : PE X e (tDat d)) (r : PA X es (tDats ds)) (hs : starEach (e :: es) X.env = (false, eval e X.env) :: starEach es X.env := by rfl) : PA X (e :: es) (tDats (d :: ds)) :=
  pa_imp (pa_cons h r hs) fun _ H _ z v H1 s1 hv vs H2 s2 hvs => z _ H2 (s1.trans s2) (.cons (hv.same s2) (hvs.sub (trk_mono s1)))
theorem pd_tup {es : List Expr} {ds : List PyData} {x1} {pos : Pos} (h : PA X es (tDats ds)) (hl : ds.length ≤ 1000 := by decide) : PE X (.Tuple es x1 pos) (tDat (.tuple ds)) :=
  pe_imp (pe_tup h) fun _ H _ z vs H1 s1 hvs => ⟨by rw [hvs.length]; exact Nat.le_of_lt (small1000 hl), fun p np => z _ _ (s1.trans (same_new np)) (.tup (fun c => c (s1.free np)) upd_same (by rw [hvs.length]; exact hl) (hvs.keep (.of_same (same_new np))))⟩
theorem pd_lst {es : List Expr} {ds : List PyData} {pos : Pos} (h : PA X es (tDats ds)) (hl : ds.length ≤ 1000 := by decide) : PE X (.List es pos) (tDat (.list ds)) :=
  pe_imp (pe_lst h) fun _ H _ z vs H1 s1 hvs => ⟨by rw [hvs.length]; exact Nat.le_of_lt (small1000 hl), fun p np => z _ _ (s1.trans (same_new np)) (.lst (fun c => c (s1.free np)) upd_same (by rw [hvs.length]; exact hl) (hvs.keep (.of_same (same_new np))))⟩
theorem pd_d0 {pos : Pos} : PE X (.Dict [] [] pos) (tDat (.dict [])) := pe_imp pe_dnewK fun _ H _ z p np => z _ _ (same_new np) (.dc0 (fun c => c np) upd_same)
theorem pd_d1 {j p j2 p2 pos} : PE X (.Dict [some (.Constant (.int 0) j p)] [.Constant (.int 1) j2 p2] pos) (tDat (.dict [(.int 0, .int 1)])) := by
  refine pe_imp (pe_disp (pps_cons pe_int pe_int pps_nil) (by rfl) (by rfl) (fun z => by cases z) (show 1 ≤ 15 by decide)) fun σ H Q z p np => ?_
  refine ⟨upd_same, [(Sum.inl 0, V.int 1)], rfl, by decide, ?_⟩
  refine z _ _ (fun b o e => ?_) (.dc1 (fun c => c np) (upd_same.trans ?_))
  · rw [upd_ne (ne_of_none e np), upd_ne (ne_of_none e np)]; exact e
  · rfl
end
/-! ### what is tracked stands apart from what is not -/
mutual
theorem Da.apart {av bv : Addr → Prop} {H : Hp} (k : ∀ a, bv a → H a = none) : ∀ {v : V} {d : PyData}, Da av H v d → Da bv H v d
  | _, _, .non => .non
  | _, _, .bl b => .bl b
  | _, _, .int i => .int i
  | _, _, .str x => .str x
  | _, _, .lst _ h l r => .lst (fun z => nomatch (k _ z).symm.trans h) h l (DaAll.apart k r)
  | _, _, .tup _ h l r => .tup (fun z => nomatch (k _ z).symm.trans h) h l (DaAll.apart k r)
  | _, _, .dc0 _ h => .dc0 (fun z => nomatch (k _ z).symm.trans h) h
  | _, _, .dc1 _ h => .dc1 (fun z => nomatch (k _ z).symm.trans h) h
theorem DaAll.apart {av bv : Addr → Prop} {H : Hp} (k : ∀ a, bv a → H a = none) : ∀ {vs : List V} {ds : List PyData}, DaAll av H vs ds → DaAll bv H vs ds
  | _, _, .nil => .nil
  | _, _, .cons h r => .cons (Da.apart k h) (DaAll.apart k r)
end
/-! ### displays that lean on something that stays -/
def Stays (pre : L2.St → Hp → Prop) : Prop := ∀ σ H H', Same H H' → pre σ H → pre σ H'
def tDatP (pre : L2.St → Hp → Prop) (d : PyData) : TE := fun σ H Q => pre σ H ∧ ∀ v H', Same H H' → Da (trk H) H' v d → Q v H'
def tDatsP (pre : L2.St → Hp → Prop) (ds : List PyData) : TA := fun σ H Q => pre σ H ∧ ∀ vs H', Same H H' → DaAll (trk H) H' vs ds → Q vs H'
section
variable {X : Cx} {pre : L2.St → Hp → Prop}
theorem pdp_of {e : Expr} {d : PyData} (h : PE X e (tDat d)) : PE X e (tDatP pre d) := pe_imp h fun _ _ _ z => z.2
theorem pdps_nil : PA X [] (tDatsP pre []) := pa_imp pds_nil fun _ _ _ z => z.2
theorem pdps_cons {e : Expr} {es : List Expr} {d : PyData} {ds : List PyData} (st : Stays pre) (h : PE X e (tDatP pre d)) (r : PA X es (tDatsP pre ds)) (hs : starEach (e :: es) X.env = (false, eval e X.env) :: starEach es X.env := by rfl) : PA X (e :: es) (tDatsP pre (d :: ds)) :=
  pa_imp (pa_cons h r hs) fun σ H _ z => ⟨z.1, fun v H1 s1 hv => ⟨st σ H H1 s1 z.1, fun vs H2 s2 hvs => z.2 _ H2 (s1.trans s2) (.cons (hv.same s2) (hvs.sub (trk_mono s1)))⟩⟩
theorem pdp_tup {es : List Expr} {ds : List PyData} {x1} {pos : Pos} (h : PA X es (tDatsP pre ds)) (hl : ds.length ≤ 1000 := by first | decide | simp) : PE X (.Tuple es x1 pos) (tDatP pre (.tuple ds)) :=
  pe_imp (pe_tup h) fun _ H _ z => ⟨z.1, fun vs H1 s1 hvs => ⟨by rw [hvs.length]; exact Nat.le_of_lt (small1000 hl), fun p np => z.2 _ _ (s1.trans (same_new np)) (.tup (fun c => c (s1.free np)) upd_same (by rw [hvs.length]; exact hl) (hvs.keep (.of_same (same_new np))))⟩⟩
theorem pdp_lst {es : List Expr} {ds : List PyData} {pos : Pos} (h : PA X es (tDatsP pre ds)) (hl : ds.length ≤ 1000 := by first | decide | simp) : PE X (.List es pos) (tDatP pre (.list ds)) :=
  pe_imp (pe_lst h) fun _ H _ z => ⟨z.1, fun vs H1 s1 hvs => ⟨by rw [hvs.length]; exact Nat.le_of_lt (small1000 hl), fun p np => z.2 _ _ (s1.trans (same_new np)) (.lst (fun c => c (s1.free np)) upd_same (by rw [hvs.length]; exact hl) (hvs.keep (.of_same (same_new np))))⟩⟩
end
end Kd

set_option Elab.async false
set_option linter.all false
set_option maxRecDepth 100000
set_option maxHeartbeats 4000000
/-! Further rules: enumerate of a tuple, extend by a tuple, set of a list of ints. -/
namespace Kr
open PySem PySem.Spec PyProof.Rows L2 Kg Kd
/-! ### xs.extend(t), t a tuple -/
theorem ext_tup (l b : Addr) (xs ys : Array Value) (n m : Nat) (dd : Option Addr) (sl : Array (Option Value)) (c0 : ¬(!xs.isEmpty && Builtin.List.listTooLong (xs.size + ys.size)) = true) (c1 : xs.size ≤ sizeLine) (c2 : xs.size + ys.size ≤ sizeLine + 1) :
    Meets (Builtin.«list.extend» ⟨[.ref l, .ref b], []⟩) (fun _ R s => s.heap.get? l = some { cls := .type "list", dict := none, data := .seq xs n, slots := #[] } ∧ s.heap.get? b = some ⟨.type "tuple", dd, .seq ys m, sl⟩ ∧
      R (.ok (.ret Value.none)) { s with heap := s.heap.update l (Obj.mapSeq fun x => x ++ ys), toks := s.toks }) := by
  refine .of_wp fun prog w A R s z => ?_
  obtain ⟨h0, g, d, tk, os⟩ := s
  obtain ⟨zl, zb, z⟩ := z
  have f1 := AutoSeq1.idx_int
  have f2 := AutoSeq1.sub_tuple_tuple
  have f3 := AutoSeq1.sub_list_list
  have f4 := AutoSeq1.sub_tuple_list
  have f5 := AutoSeq1.sub_list_tuple
  have big : (xs ++ ys).size ≤ sizeLine + 1 := by rw [Array.size_append]; exact c2
  wp_walk using (wpAny_updateSeq zl rfl (hz := c1) (_hz' := big)), wpAny_loadPart' zl, wpAny_loadPart' zb
  exact ⟨_, rfl, z⟩
section
variable {X : Cx}
def rExtT (K : PySem.W.Frag) : V → List V → Hp → VK → Prop := fun x vs H Q => ∃ l b xs zs, x = .ref l ∧ vs = [.ref b] ∧ H l = some (.lst xs) ∧ SqT K H b zs ∧ xs.length + zs.length ≤ sizeLine ∧ Q .non (upd H l (.lst (xs ++ zs)))
theorem mt_extT : MtM X "list.extend" (rExtT X.K) := by
  intro pins s σ H x vs v us Q I rx rv h
  obtain ⟨l, b, xs, zs, rfl, rfl, hH, hB, hz, q⟩ := h
  cases rx
  obtain ⟨u, rfl, ru⟩ := rv.one
  cases ru
  obtain ⟨z, its, n, r, hl, e⟩ := I.lstM hH
  obtain ⟨its2, r2, ⟨ob, e2, c2, m, d2⟩, z2⟩ := I.tuple hB
  obtain ⟨oc, od, dt, sl⟩ := ob
  have c2' : oc = .type "tuple" := c2
  have d2' : dt = .seq its2.toArray m := d2
  subst c2' d2'
  have l2 := r2.length
  have fit : its.toArray.size + its2.toArray.size ≤ sizeLine := by rw [List.size_toArray, List.size_toArray]; omega
  refine call_meets F.slot_list_extend ⟨_, e, rfl⟩ F.entry_list_extend (F.args_list_extend_2 _ _) (ext_tup l b its.toArray its2.toArray n m od sl (by rw [notLongL fit, Bool.and_false]; exact Bool.false_ne_true) (by rw [List.size_toArray]; omega) (by omega)) ⟨e, e2, ?_⟩
  exact ⟨.non, _, I.lset (its' := its ++ its2) hH e (by simp) (r.append r2) (by rw [List.length_append]; exact hz), rfl, q⟩
end
/-! ### enumerate(t), t a tuple -/
theorem enum_new {v : Value} {o : Obj} {H : Heap → Prop} (B : Begins v o H) :
    Meets (Builtin.«enumerate.__new__» ⟨[.type "enumerate", v], []⟩) (fun _ R s => H s.heap ∧
      R (.ok (.ret (.ref (s.heap.push o).objs.size))) { s with heap := (s.heap.push o).push { cls := .type "enumerate", data := .fields #[.none, .bool false, .ref s.heap.objs.size, rawInt 0, .none, .none] } }) := by
  refine .of_wp fun prog w A R s z => ?_
  obtain ⟨h0, g, d, tk, os⟩ := s
  obtain ⟨z1, z⟩ := z
  have hsub := sub_enumerate
  have it : ∀ {A' : Around} {E : Value → Shared → Prop} {Q : Value → Shared → Prop}, Q (.ref h0.objs.size) ⟨h0.push o, g, d, tk, os⟩ → wpAny (model prog w) A' (pyIter v) Q E ⟨h0, g, d, tk, os⟩ := fun q => B.iter prog w _ _ ⟨h0, g, d, tk, os⟩ _ z1 q
  wp_walk using it
  refine wpAny_stack_any fun st => wpAny_pure ?_
  split
  · rename_i c _ _ _ _ _
    cases (c == Value.type "enumerate")
    · (wp_walk using it); exact ⟨_, rfl, z⟩
    · (wp_walk using it); exact ⟨_, rfl, z⟩
  · (wp_walk using it); exact ⟨_, rfl, z⟩
theorem call_enumT {prog : Program} {w : World} {A : Around} {E : Value → Shared → Prop} {s : Shared} {t : Addr} {items : Array Value} {Q : Value → Shared → Prop} (ht : s.heap.IsTuple t items)
    (h : ∀ h', IsEnum h' (s.heap.objs.size + 1) s.heap.objs.size 0 .none → h'.IsTupleIter s.heap.objs.size t 0 → h'.objs.size = s.heap.objs.size + 2 → (∀ b o, s.heap.get? b = some o → h'.get? b = some o) → Q (.ref (s.heap.objs.size + 1)) { s with heap := h' }) :
    wpAny (model prog w) A (call (.type "enumerate") [.ref t]) Q E s := by
  refine callType_new F.called_enumerate (by decide) (F.typeCall_enumerate_1 _) (F.newCall_enumerate_1 _) (fun obj => F.args_object_init_2 obj _) F.entry_enumerate_new (enum_new (begins_tuple t items)) ⟨ht, ?_⟩
  have sz : (s.heap.push { cls := .type "tuple_iterator", data := .fields #[.ref t, .int 0 0] }).objs.size = s.heap.objs.size + 1 := Heap.size_push ..
  show _ ∧ _
  rw [sz]
  have at1 := Heap.get?_push_size (s.heap.push { cls := .type "tuple_iterator", data := .fields #[.ref t, .int 0 0] }) (o := { cls := .type "enumerate", data := .fields #[.none, .bool false, .ref s.heap.objs.size, rawInt 0, .none, .none] }) rfl
  rw [sz] at at1
  exact ⟨⟨_, at1, rfl⟩, h _ at1 ⟨_, Heap.get?_push_of_some _ (Heap.get?_push_size _ rfl), rfl, rfl⟩ (by rw [Heap.size_push, sz]) fun b o z => Heap.get?_push_of_some _ (Heap.get?_push_of_some _ z)⟩
/-- the tuple at a, each item in a new pair -/
def IteT (K : PySem.W.Frag) (a : Addr) : It where
  go := fun i H => ∃ (xs : List V) (x : V), SqT K H a xs ∧ xs[i]? = some x
  yld := fun i H v H' => ∃ T x, v = .ref T ∧ H T = none ∧ H' = upd H T (.tup [.int (i : Nat), x]) ∧ ∀ xs, SqT K H a xs → xs[i]? = some x
  stop := fun i H => ∃ xs : List V, SqT K H a xs ∧ xs.length = i
theorem turn_enumT {P : Program} {w : World} {K : PySem.W.Frag} {elts : List Expr} {kk : Nat} {tp : Pos} (a e it : Addr) (hae : a ≠ e) (hai : a ≠ it) (hei : e ≠ it) :
    Turn P w K (.Tuple elts kk tp) (IteT K a) [e, it] e (fun i h => (∃ old, IsEnum h e it ((i : Nat) : Int) old) ∧ h.IsTupleIter it a i) where
  mem := by simp
  obj := fun i h st b hb => by
    obtain ⟨⟨old, z1⟩, ⟨o, z2, z3, z4⟩⟩ := st
    cases hb with
    | head => exact ⟨_, z1, fun v q => nomatch q⟩
    | tail _ hb =>
      rw [List.mem_singleton.mp hb]
      exact ⟨o, z2, fun v q => by rw [z4] at q; exact nomatch q⟩
  keep := fun i h h' st k => by
    obtain ⟨⟨old, z1⟩, z2⟩ := st
    exact ⟨⟨old, k e (by simp) _ z1⟩, z2.at fun o q => k it (by simp) o q⟩
  item := by
    intro X e1 e2 e3 hc i pins s σ H E I hf st hg
    subst e1 e2 e3
    obtain ⟨⟨old, z1⟩, z2⟩ := st
    obtain ⟨xs, x, hq, hx⟩ := hg
    obtain ⟨its, rv, p, _⟩ := I.tuple hq
    obtain ⟨u, hu, ru⟩ := rv.get hx
    have lt : i < its.toArray.size := by
      rw [List.size_toArray, ← rv.length]
      exact (List.getElem?_eq_some_iff.mp hx).1
    have le : e < s.heap.objs.size := Heap.lt_size z1
    have li : it < s.heap.objs.size := by
      obtain ⟨_, z, _⟩ := z2
      exact Heap.lt_size z
    have D := Draws.tuple (prog := X.prog) (w := X.w) (A := X.A.in1) (I.ok.hd hc) it a hai its.toArray
    refine wpAny_pyNext_enum_itemD D z1 ⟨z2, p⟩ lt hei (by simp [hei, hae.symm]) fun x' h' tk px out st' new sz k => ?_
    have ex : x' = u := by
      have q : its.toArray[i]? = some u := by simpa using hu
      exact Option.some.inj (px.symm.trans q)
    subst ex
    refine ⟨_, rfl, wpAny_letOwnedTupleGo_enum (s := { s with heap := h', toks := tk + 1 }) out fun h'' z3 sb => ?_⟩
    have new2 : h''.get? s.heap.objs.size = some { cls := .type "tuple", data := .seq #[.int i tk, x'] } := (sb.2 _ (Nat.ne_of_gt le)).trans new
    have J : Inv X pins σ (upd H s.heap.objs.size (.tup [.int (i : Nat), x])) { s with heap := h'', toks := tk + 1 } :=
      I.turnedNew (ch := [e, it]) (fun b ob hb q => (sb.2 b (fun z => hb (by simp [z]))).trans (k b ob (fun z => hb (by simp [z])) (fun z => hb (by simp [z])) q)) hf (Nat.le_refl _)
        ⟨(show 2 ≤ sizeLine by decide), [.int i tk, x'], .cons ⟨_, rfl⟩ (.cons ru .nil), ⟨_, new2, rfl, _, rfl⟩⟩
    refine ⟨.ref s.heap.objs.size, _, J, rfl, ⟨_, x, rfl, I.hok.fresh (Nat.le_refl _), rfl, fun ys hy => by rw [I.tuple_inj hy hq]; exact hx⟩, ⟨⟨x', ?_⟩, st'.1.at fun o q => (sb.2 it hei.symm).trans q⟩, fun b hb => ?_⟩
    · rw [show ((i + 1 : Nat) : Int) = (i : Int) + 1 by omega]; exact z3
    · have lb : b < s.heap.objs.size := by
        cases hb with
        | head => exact le
        | tail _ hb => rw [List.mem_singleton.mp hb]; exact li
      rw [upd_ne (Nat.ne_of_lt lb)]
      exact (hf b hb).1
  done := by
    intro X e1 e2 e3 hc i pins s σ H E I hf st hg
    subst e1 e2 e3
    obtain ⟨⟨old, z1⟩, z2⟩ := st
    obtain ⟨xs, hq, hx⟩ := hg
    obtain ⟨its, rv, p, _⟩ := I.tuple hq
    have D := Draws.tuple (prog := X.prog) (w := X.w) (A := X.A.in1) (I.ok.hd hc) it a hai its.toArray
    have ei : i = its.toArray.size := by rw [List.size_toArray, ← rv.length, hx]
    rw [ei] at z2
    obtain ⟨f0, f1, f2, f3, f4, f5⟩ := hf it (by simp)
    exact wpAny_pyNext_enum_endD D z1 ⟨z2, p⟩ fun h' eb => ⟨rfl, I.turned (t' := s.toks) (fun b o hb q => eb b o hb q) f0 f1 f3 f4 f5⟩
  self := fun A i s Q E st h => by
    obtain ⟨⟨_, z⟩, _⟩ := st
    exact wpAny_pyIter_enum z h
def iEnumT (K : PySem.W.Frag) (ta : TA) : TI := fun σ H R => ta σ H fun vs H1 => ∃ a xs, vs = [.ref a] ∧ SqT K H1 a xs ∧ R (IteT K a) H1
theorem pi_enumT {X : Cx} {e : Expr} {ta : TA} {p pos tp : Pos} {elts : List Expr} {kk : Nat} (hg : Gl X "enumerate") (hm : X.mg "enumerate" = none) (ha : PA X [e] ta) (hs : starEach [e] X.env = [(false, eval e X.env)] := by rfl) :
    PI X (.Tuple elts kk tp) (.Call (.Name "enumerate" p) [e] [] pos) (iEnumT X.K ta) := by
  refine ⟨fun pins s σ H R I h => Call_ (ld_blt I hg hm boot_enumerate (PyProof.Rows.callWith_type1 (thn (ha.run pos pins s σ H _ I h) fun us s1 ⟨vs, H1, I1, r1, a, xs, ex, hq, q⟩ => ?_) hs rfl))⟩
  subst ex
  obtain ⟨u, rfl, ru⟩ := vals1 r1
  cases ru
  obtain ⟨its, rv, p', _⟩ := I1.tuple hq
  have la : a < s1.heap.objs.size := by
    obtain ⟨_, z, _⟩ := p'
    exact Heap.lt_size z
  refine call_enumT (show s1.heap.IsTuple a its.toArray from p') fun h' he hi sz k => wpAny_pyIter_enum he ?_
  refine ⟨s1.heap.objs.size + 1, [s1.heap.objs.size + 1, s1.heap.objs.size], _, _, H1, rfl, I1.kept (t' := s1.toks) k, turn_enumT a (s1.heap.objs.size + 1) s1.heap.objs.size (Nat.ne_of_lt (Nat.lt_succ_of_lt la)) (Nat.ne_of_lt la) (Nat.succ_ne_self _), ⟨⟨.none, he⟩, hi⟩, fun b hb => ?_, q⟩
  have ge : s1.heap.objs.size ≤ b := by
    cases hb with
    | head => exact Nat.le_succ _
    | tail _ hb => rw [List.mem_singleton.mp hb]; exact Nat.le_refl _
  exact I1.fpOk ge (I1.hok.fresh ge)
theorem walk_enumT {K : PySem.W.Frag} {a : Addr} {xs : List V} : Walk (IteT K a) xs.length (fun H => SqT K H a xs) (YPair (fun i => some (.int (i : Nat))) (fun i => xs[i]?)) := by
  refine ⟨fun i _ hi z => ⟨xs, xs[i], z, by simp [hi]⟩, fun _ z => ⟨xs, z, rfl⟩, fun i H v H' _ z y => ?_⟩
  obtain ⟨T, x, g1, g2, g3, g4⟩ := y
  exact ⟨T, .int (i : Nat), x, g1, g2, g3, rfl, g4 xs z⟩
end Kr

set_option Elab.async false
set_option linter.all false
set_option maxRecDepth 100000
set_option maxHeartbeats 4000000
/-! set(xs) of a list of ints. -/
namespace Kr
open PySem PySem.Spec PyProof.Rows L2 Kg Kd
abbrev emp (w : World) : Obj := { cls := .type "set", dict := none, data := .set #[] 0 (.fresh 0 0 (!w.params.followText "set-order")) }
section
variable {P : Program} {w : World} {A : Around} {E : Value → Shared → Prop} {s : Shared}
/-- the filling of the new set from a list -/
theorem set_fill {l : Addr} {items : Array Value} {ns : List Int} {R : Result → Shared → Prop} (hh : A.handled = none) (hl : s.heap.IsList l items) (hi : IntsAre items.toList ns) (hb : ns.length + 1 < scanBound)
    (h : ∀ h' tk c, SetR w h' s.heap.objs.size (fun j => decide (j ∈ ns)) c → c ≤ ns.length → (∀ b o, s.heap.get? b = some o → h'.get? b = some o) → R (.ok (.ret .none)) { s with heap := h', toks := tk }) :
    codeAny (model P w) A (.builtin "set.update.loop" ⟨[.ref s.heap.objs.size, .ref (s.heap.objs.size + 1)], []⟩) R { s with heap := (s.heap.push (emp w)).push { cls := .type "list_iterator", data := .fields #[.ref l, .int 0 0] } } := by
  have sz : items.size = ns.length := by rw [← Array.length_toList]; exact IntsAre.length hi
  obtain ⟨ol, zl, zc, nl, zd⟩ := hl
  have ll : l < s.heap.objs.size := Heap.lt_size zl
  have at1 : (s.heap.push (emp w)).get? s.heap.objs.size = some (emp w) := Heap.get?_push_size _ rfl
  have s1 : (s.heap.push (emp w)).objs.size = s.heap.objs.size + 1 := Heap.size_push ..
  have at2 := Heap.get?_push_size (s.heap.push (emp w)) (o := { cls := .type "list_iterator", data := .fields #[.ref l, .int 0 0] }) rfl
  rw [s1] at at2
  have keepL : ∀ b o, s.heap.get? b = some o → ((s.heap.push (emp w)).push { cls := .type "list_iterator", data := .fields #[.ref l, .int 0 0] }).get? b = some o := fun b o z => Heap.get?_push_of_some _ (Heap.get?_push_of_some _ z)
  have val : ∀ (i : Nat) (v : Value), items[i]? = some v → ∃ k t, ns[i]? = some k ∧ v = .int k t := by
    intro i v z
    have lt : i < ns.length := sz ▸ (Array.getElem?_eq_some_iff.mp z).1
    obtain ⟨t, e⟩ := IntsAre.int_at hi i v (by rw [Array.getElem?_toList]; exact z)
    rw [List.getD_eq_getElem?_getD, List.getElem?_eq_getElem lt] at e
    exact ⟨ns[i], t, List.getElem?_eq_getElem lt, e⟩
  have W := (Walks.list (prog := P) (w := w) (A := A.in1) hh (s.heap.objs.size + 1) l (Nat.ne_of_lt (Nat.lt_succ_of_lt ll)) items).toS
  have nS : s.heap.objs.size ∉ [s.heap.objs.size + 1, l] := by
    intro z
    rcases List.mem_cons.mp z with z | z
    · exact Nat.ne_of_lt (Nat.lt_succ_self _) z
    · exact Nat.ne_of_gt ll (List.mem_singleton.mp z)
  refine set_update_ints W s.heap.objs.size nS ns sz hb val (items.size - 0) 0 { s with heap := (s.heap.push (emp w)).push { cls := .type "list_iterator", data := .fields #[.ref l, .int 0 0] } } rfl (Nat.zero_le _)
    ⟨⟨_, at2, rfl, rfl⟩, ⟨ol, keepL l ol zl, zc, nl, zd⟩⟩ ⟨0, Nat.le_refl 0, setR_new_at (Heap.get?_push_of_some _ at1)⟩ fun s' c mv hc hS => ?_
  obtain ⟨h', g', d', t', o'⟩ := s'
  have e1 : g' = s.gens := mv.gens
  have e2 : d' = s.drawn := mv.drawn
  have e3 : o' = s.os := mv.os
  subst e1 e2 e3
  refine h h' t' c hS (by omega) fun b o z => mv.heap b o (fun y => ?_) (keepL b o z)
  have lb := Heap.lt_size z
  rcases List.mem_cons.mp y with y | y
  · exact Nat.ne_of_lt lb y
  · exact Nat.ne_of_lt (Nat.lt_succ_of_lt lb) (List.mem_singleton.mp y)
set_option maxHeartbeats 3200000 in
theorem call_setL {l : Addr} {items : Array Value} {ns : List Int} {Q : Value → Shared → Prop} (hh : A.handled = none) (hl : s.heap.IsList l items) (hi : IntsAre items.toList ns) (hb : ns.length + 1 < scanBound)
    (h : ∀ h' tk c, SetR w h' s.heap.objs.size (fun j => decide (j ∈ ns)) c → c ≤ ns.length → (∀ b o, s.heap.get? b = some o → h'.get? b = some o) → Q (.ref s.heap.objs.size) { s with heap := h', toks := tk }) :
    wpAny (model P w) A (call (.type "set") [.ref l]) Q E s := by
  obtain ⟨c0, tl, mro⟩ := F.called_set.mro
  have made := F.called_set.made
  have sub0 := F.called_set.sub
  have nt := F.called_set.notType
  have cc := F.called_set.canCreate
  have tc := F.typeCall_set_1 (.ref l)
  refine wpAny_call (codeAny_of_tree ?_)
  show wpAny _ _ (callAny (.type "set") _) _ _ _
  refine wpAny_pure ⟨Code.quiet_builtin _ (by decide +kernel), codeAny_builtin F.entry_type_call ?_⟩
  rw [Around.under_plain (weight_type_call_type "set" [.ref l] []) rfl]
  repeat (any_goals (first | assumption | wp_step))
  refine codeAny_mono (code_set_led1 (.ref l) (E := E) (Q₁ := fun ob s₁ => ob = .ref s.heap.objs.size ∧ s₁ = { s with heap := s.heap.push (emp w) }) ⟨rfl, rfl⟩) fun r s₁ hr => ?_
  match r, hr with
  | .error e, hr => exact hr
  | .ok .next, hr => exact hr.elim
  | .ok .brk, hr => exact hr.elim
  | .ok .cont, hr => exact hr.elim
  | .ok (.ret ob), hr =>
    obtain ⟨rfl, rfl⟩ := hr
    have at1 : (s.heap.push (emp w)).get? s.heap.objs.size = some (emp w) := Heap.get?_push_size _ rfl
    have ty : Shared.TypeIs { s with heap := s.heap.push (emp w) } (.ref s.heap.objs.size) "set" := ⟨_, at1, rfl⟩
    have il := F.called_set.init.lookup
    have ib := F.called_set.init.bind (.ref s.heap.objs.size)
    repeat (any_goals (first | assumption | wp_step))
    refine codeAny_mono (codeAny_call_builtin (R := wants (fun r s₂ => r = .none ∧ ∃ h' tk c, s₂ = { s with heap := h', toks := tk } ∧ SetR w h' s.heap.objs.size (fun j => decide (j ∈ ns)) c ∧ c ≤ ns.length ∧ ∀ b o, s.heap.get? b = some o → h'.get? b = some o) E)
      F.called_set.init.plain F.entry_set_init (check_set_init_1 ty ?_)) fun r₂ s₂ hr₂ => ?_
    · obtain ⟨⟨oc, od, dt, sl⟩, zl, zc, nl, zd⟩ := id hl
      have zc' : oc = .type "list" := zc
      have zd' : dt = .seq items nl := zd
      subst zc' zd'
      have zl' : (s.heap.push (emp w)).get? l = some { cls := .type "list", dict := od, data := .seq items nl, slots := sl } := Heap.get?_push_of_some _ zl
      have n1 := F.sub_list_set
      have n2 := F.sub_list_frozenset
      have n3 : (Value.type "list" == Value.type "dict") = false := by decide
      unfold Builtin.«set.__init__» noKeywords Builtin.Frozenset.updateFrom
      generalize hPI : pyIter = PI
      wp_walk
      subst hPI
      refine wpAny_pyIter_list (items := items) ⟨_, zl', rfl, nl, rfl⟩ ?_
      refine wpAny_bind (wpAny_runValue ?_)
      have e1 : (s.heap.push (emp w)).objs.size = s.heap.objs.size + 1 := Heap.size_push ..
      rw [e1]
      refine set_fill (s := s) (hh := by simp [hh]) hl hi hb fun h' tk c hS hc hk => ?_
      show wpAny _ _ _ _ _ _
      exact wpAny_pure (wpAny_pure ⟨rfl, h', tk, c, rfl, hS, hc, hk⟩)
    · match r₂, hr₂ with
      | .error e, hr₂ => exact hr₂
      | .ok .next, hr₂ => exact hr₂.elim
      | .ok .brk, hr₂ => exact hr₂.elim
      | .ok .cont, hr₂ => exact hr₂.elim
      | .ok (.ret _), hr₂ =>
        obtain ⟨rfl, h', tk, c, rfl, hS, hc, hk⟩ := hr₂
        repeat (any_goals (first | assumption | wp_step))
        exact h _ _ _ hS hc hk
end
/-- set(xs): a list or a tuple of ints -/
def rSetI (K : PySem.W.Frag) (w : World) : List V → Hp → VK → Prop := fun xs H Q => ∃ (l : Addr) (ns : List Int), xs = [.ref l] ∧ (SqL K H l (ns.map V.int) ∨ SqT K H l (ns.map V.int)) ∧ ns.length ≤ 1000 ∧
  ∀ p c, H p = none → c ≤ ns.length → Q (.ref p) (upd H p (SetO w p (fun j => decide (j ∈ ns)) c))
theorem cr_setI {X : Cx} (hc : X.calm = true) : CallR X (.type "set") (rSetI X.K X.w) := by
  intro pins s σ H xs us Q I r h
  obtain ⟨l, ns, rfl, hq, hl, q⟩ := h
  obtain ⟨u, rfl, ru⟩ := vals1 r
  cases ru
  have room : ns.length + 1 < scanBound := by unfold scanBound; omega
  have fin : ∀ (h' : Heap) (tk c : Nat), SetR X.w h' s.heap.objs.size (fun j => decide (j ∈ ns)) c → c ≤ ns.length → (∀ b o, s.heap.get? b = some o → h'.get? b = some o) → EP X pins σ Q (.ref s.heap.objs.size) { s with heap := h', toks := tk } := by
    intro h' tk c hS hc hk
    exact ⟨.ref s.heap.objs.size, _, I.laid (t' := tk) hk (Nat.le_refl _) (setO_new hS), rfl, q _ c (I.hok.fresh (Nat.le_refl _)) hc⟩
  rcases hq with hq | hq
  · obtain ⟨its, rv, p, _⟩ := I.list hq
    exact call_setL (I.ok.hd hc) p.isList (by simpa using RZ.intsAre_vals rv) room fin
  · obtain ⟨its, rv, p, _⟩ := I.tuple hq
    exact call_set_tupI ns (I.ok.hd hc) (show s.heap.IsTuple l its.toArray from p) (by simpa using RZ.intsAre_vals rv) room fin
end Kr

set_option Elab.async false
set_option linter.all false
set_option maxRecDepth 100000
set_option maxHeartbeats 4000000
/-! Things that never change once they stand: tuples, made objects. -/
namespace Kf
open PySem PySem.Spec PyProof.Rows L2 Kg Kd
/-- what never changes -/
def Fz : HO → Prop
  | .tup _ => True
  | .ins _ _ _ => True
  | .own _ => True
  | _ => False
/-- all tuples and objects stand as they were -/
def KF (H H' : Hp) : Prop := ∀ a o, H a = some o → Fz o → H' a = some o
theorem KF.refl (H : Hp) : KF H H := fun _ _ h _ => h
theorem KF.trans {H H1 H2 : Hp} (a : KF H H1) (b : KF H1 H2) : KF H H2 := fun c o h f => b c o (a c o h f) f
theorem KF.of_same {H H' : Hp} (s : Same H H') : KF H H' := fun c o h _ => s c o h
theorem KF.put {H : Hp} {l : Addr} {o u : HO} (h : H l = some o) (n : ¬ Fz o) : KF H (upd H l u) := fun a x e f => by
  rw [upd_ne (fun z => n (by rw [z, h] at e; rw [Option.some.inj e]; exact f))]; exact e
theorem KF.putL {H : Hp} {l : Addr} {xs : List V} {u : HO} (h : H l = some (.lst xs)) : KF H (upd H l u) := KF.put h (fun z => z)
theorem KF.new {H : Hp} {l : Addr} {u : HO} (h : H l = none) : KF H (upd H l u) := .of_same (same_new h)
theorem KF.tup {H H' : Hp} (k : KF H H') {a : Addr} {xs : List V} (h : H a = some (.tup xs)) : H' a = some (.tup xs) := k a _ h trivial
theorem KF.ins {H H' : Hp} (k : KF H H') {a C dx : Addr} {fs : List (Str × V)} (h : H a = some (.ins C dx fs)) : H' a = some (.ins C dx fs) := k a _ h trivial
mutual
inductive Tu (H : Hp) : V → PyData → Prop
  | non : Tu H .non .none
  | bl (b : Bool) : Tu H (.bl b) (.bool b)
  | int (i : Int) : Tu H (.int i) (.int i)
  | str (x : Str) : Tu H (.str x) (.str x)
  | tup {a : Addr} {xs : List V} {ds : List PyData} : H a = some (.tup xs) → xs.length ≤ 1000 → TuAll H xs ds → Tu H (.ref a) (.tuple ds)
inductive TuAll (H : Hp) : List V → List PyData → Prop
  | nil : TuAll H [] []
  | cons {v : V} {vs : List V} {d : PyData} {ds : List PyData} : Tu H v d → TuAll H vs ds → TuAll H (v :: vs) (d :: ds)
end
mutual
theorem Tu.keep {H H' : Hp} (k : KF H H') : ∀ {v : V} {d : PyData}, Tu H v d → Tu H' v d
  | _, _, .non => .non
  | _, _, .bl b => .bl b
  | _, _, .int i => .int i
  | _, _, .str x => .str x
  | _, _, .tup h z r => .tup (k.tup h) z (TuAll.keep k r)
theorem TuAll.keep {H H' : Hp} (k : KF H H') : ∀ {vs : List V} {ds : List PyData}, TuAll H vs ds → TuAll H' vs ds
  | _, _, .nil => .nil
  | _, _, .cons h r => .cons (Tu.keep k h) (TuAll.keep k r)
end
theorem Tu.same {H H' : Hp} {v : V} {d : PyData} (h : Tu H v d) (k : Same H H') : Tu H' v d := h.keep (.of_same k)
mutual
theorem Tu.da {H : Hp} : ∀ {v : V} {d : PyData}, Tu H v d → Da Kd.nil H v d
  | _, _, .non => .non
  | _, _, .bl b => .bl b
  | _, _, .int i => .int i
  | _, _, .str x => .str x
  | _, _, .tup h z r => .tup (fun z => z) h z (TuAll.da r)
theorem TuAll.da {H : Hp} : ∀ {vs : List V} {ds : List PyData}, TuAll H vs ds → DaAll Kd.nil H vs ds
  | _, _, .nil => .nil
  | _, _, .cons h r => .cons (Tu.da h) (TuAll.da r)
end
mutual
theorem Tu.dp {K : PySem.W.Frag} {H : Hp} : ∀ {v : V} {d : PyData}, Tu H v d → Dp K H v d
  | _, _, .non => .non
  | _, _, .bl b => .bl b
  | _, _, .int i => .int i
  | _, _, .str x => .str x
  | _, _, .tup h z r => .tup (SqT.of h) (TuAll.dp r)
theorem TuAll.dp {K : PySem.W.Frag} {H : Hp} : ∀ {vs : List V} {ds : List PyData}, TuAll H vs ds → DpAll K H vs ds
  | _, _, .nil => .nil
  | _, _, .cons h r => .cons (Tu.dp h) (TuAll.dp r)
end
theorem TuAll.length {H : Hp} : ∀ {vs : List V} {ds : List PyData}, TuAll H vs ds → vs.length = ds.length
  | _, _, .nil => rfl
  | _, _, .cons _ r => congrArg (· + 1) (TuAll.length r)
theorem TuAll.get {H : Hp} : ∀ {vs : List V} {ds : List PyData} {i : Nat} {v : V}, TuAll H vs ds → vs[i]? = some v → ∃ d, ds[i]? = some d ∧ Tu H v d
  | _, _, _, _, .nil, e => by simp at e
  | _, _, 0, _, .cons h _, e => ⟨_, rfl, by simp at e; rw [← e]; exact h⟩
  | _, _, i + 1, v, .cons _ r, e => by
    obtain ⟨d, h1, h2⟩ := TuAll.get (i := i) (v := v) r (by simpa using e)
    exact ⟨d, by simpa using h1, h2⟩
theorem TuAll.get' {H : Hp} : ∀ {vs : List V} {ds : List PyData} {i : Nat} {d : PyData}, TuAll H vs ds → ds[i]? = some d → ∃ v, vs[i]? = some v ∧ Tu H v d
  | _, _, _, _, .nil, e => by simp at e
  | _, _, 0, _, .cons h _, e => ⟨_, rfl, by simp at e; rw [← e]; exact h⟩
  | _, _, i + 1, d, .cons _ r, e => by
    obtain ⟨d, h1, h2⟩ := TuAll.get' (i := i) (d := d) r (by simpa using e)
    exact ⟨d, by simpa using h1, h2⟩
theorem TuAll.append {H : Hp} : ∀ {vs us : List V} {ds es : List PyData}, TuAll H vs ds → TuAll H us es → TuAll H (vs ++ us) (ds ++ es)
  | _, _, _, _, .nil, h => h
  | _, _, _, _, .cons a r, h => .cons a (TuAll.append r h)
/-! ### numbers -/
def iV (n : Nat) : V := .int (n : Nat)
def iD (n : Nat) : PyData := .int (n : Nat)
/-- a tuple of kinds, as data -/
def pdI (l : List Nat) : PyData := .tuple (l.map iD)
/-- elders, as data -/
def pdE (es : List (List Nat)) : PyData := .tuple (es.map pdI)
theorem tus_ints {H : Hp} : ∀ l : List Nat, TuAll H (l.map iV) (l.map iD)
  | [] => .nil
  | n :: l => .cons (.int (n : Nat)) (tus_ints l)
theorem tus_inv {H : Hp} : ∀ {l : List Nat} {vs : List V}, TuAll H vs (l.map iD) → vs = l.map iV
  | [], _, .nil => rfl
  | n :: l, _, .cons h r => by
    cases h
    rw [tus_inv r]; rfl
theorem tu_ints {H : Hp} {a : Addr} {l : List Nat} (h : H a = some (.tup (l.map iV))) (hl : l.length ≤ 1000) : Tu H (.ref a) (pdI l) := .tup h (by rw [List.length_map]; exact hl) (tus_ints l)
theorem tu_inv {H : Hp} {v : V} {l : List Nat} (h : Tu H v (pdI l)) : ∃ a, v = .ref a ∧ H a = some (.tup (l.map iV)) ∧ l.length ≤ 1000 := by
  unfold pdI at h
  cases h with
  | @tup a xs _ h1 h2 h3 =>
    have e := tus_inv h3
    subst e
    exact ⟨a, rfl, h1, by rwa [List.length_map] at h2⟩
theorem map_iV (l : List Nat) : l.map iV = (l.map fun n => ((n : Nat) : Int)).map V.int := by rw [List.map_map]; rfl
/-! ### the order -/
theorem asc_uniq : ∀ {l m : List Nat}, l.Pairwise (· < ·) → m.Pairwise (· < ·) → (∀ x, x ∈ l ↔ x ∈ m) → l = m
  | [], [], _, _, _ => rfl
  | [], b :: m, _, _, h => absurd ((h b).mpr (List.mem_cons_self ..)) (by simp)
  | a :: l, [], _, _, h => absurd ((h a).mp (List.mem_cons_self ..)) (by simp)
  | a :: l, b :: m, hl, hm, h => by
    rw [List.pairwise_cons] at hl hm
    have e : a = b := by
      rcases List.mem_cons.mp ((h a).mp (List.mem_cons_self ..)) with z | z
      · exact z
      · rcases List.mem_cons.mp ((h b).mpr (List.mem_cons_self ..)) with y | y
        · exact y.symm
        · have := hm.1 a z; have := hl.1 b y; omega
    subst e
    congr 1
    refine asc_uniq hl.2 hm.2 fun x => ⟨fun z => ?_, fun z => ?_⟩
    · rcases List.mem_cons.mp ((h x).mp (List.mem_cons_of_mem _ z)) with y | y
      · have := hl.1 x z; omega
      · exact y
    · rcases List.mem_cons.mp ((h x).mpr (List.mem_cons_of_mem _ z)) with y | y
      · have := hm.1 x z; omega
      · exact y
theorem asc_len : ∀ {l : List Nat} {n lo : Nat}, l.Pairwise (· < ·) → (∀ x ∈ l, lo ≤ x ∧ x < n) → l.length ≤ n - lo
  | [], _, _, _, _ => by simp
  | a :: l, n, lo, hl, h => by
    rw [List.pairwise_cons] at hl
    have z := asc_len (l := l) (n := n) (lo := a + 1) hl.2 (fun x hx => ⟨hl.1 x hx, (h x (List.mem_cons_of_mem _ hx)).2⟩)
    have y := h a (List.mem_cons_self ..)
    rw [List.length_cons]; omega
theorem rg_filter {n : Nat} {p : Nat → Bool} : ((List.range n).filter p).Pairwise (· < ·) := (List.pairwise_lt_range (n := n)).filter _
/-- ints from 0 on are numbers -/
theorem to_nats : ∀ {l : List Int}, (∀ x ∈ l, 0 ≤ x) → ∃ m : List Nat, l = m.map (fun n => ((n : Nat) : Int))
  | [], _ => ⟨[], rfl⟩
  | a :: l, h => by
    obtain ⟨m, e⟩ := to_nats (l := l) (fun x hx => h x (List.mem_cons_of_mem _ hx))
    have := h a (List.mem_cons_self ..)
    exact ⟨a.toNat :: m, by rw [e, List.map_cons]; congr 1; omega⟩
theorem asc_map {m : List Nat} (h : (m.map (fun n => ((n : Nat) : Int))).Pairwise (· < ·)) : m.Pairwise (· < ·) := by
  rw [List.pairwise_map] at h
  exact h.imp (fun z => by omega)
/-! ### kinds -/
/-- whether k lies under j -/
def abv (es : List (List Nat)) (k : Nat) (j : Nat) : Bool := decide (j = k) || (es.getD k []).attach.any (fun e => if h : e.1 < k then abv es e.1 j else false)
termination_by k
theorem abv_eq (es : List (List Nat)) (k j : Nat) : abv es k j = true ↔ j = k ∨ ∃ e ∈ es.getD k [], e < k ∧ abv es e j = true := by
  rw [abv, Bool.or_eq_true, decide_eq_true_iff, List.any_eq_true]
  constructor
  · rintro (h | ⟨⟨e, he⟩, _, h2⟩)
    · exact .inl h
    · by_cases c : e < k
      · rw [dif_pos c] at h2; exact .inr ⟨e, he, c, h2⟩
      · rw [dif_neg c] at h2; exact nomatch h2
  · rintro (h | ⟨e, he, c, h2⟩)
    · exact .inl h
    · exact .inr ⟨⟨e, he⟩, List.mem_attach .., by rw [dif_pos c]; exact h2⟩
theorem abv_le (es : List (List Nat)) : ∀ k j, abv es k j = true → j ≤ k := by
  intro k
  induction k using Nat.strongRecOn with
  | _ k ih =>
    intro j h
    rcases (abv_eq es k j).mp h with h | ⟨e, _, c, h⟩
    · omega
    · have := ih e c j h; omega
/-- the kinds under which k lies -/
def lot (es : List (List Nat)) (k : Nat) : List Nat := (List.range es.length).filter (abv es k)
theorem lot_mem {es : List (List Nat)} {k j : Nat} (hk : k < es.length) : j ∈ lot es k ↔ abv es k j = true := by
  unfold lot
  rw [List.mem_filter, List.mem_range]
  exact ⟨fun h => h.2, fun h => ⟨by have := abv_le es k j h; omega, h⟩⟩
theorem lot_asc (es : List (List Nat)) (k : Nat) : (lot es k).Pairwise (· < ·) := rg_filter
theorem lot_len (es : List (List Nat)) (k : Nat) : (lot es k).length ≤ es.length := by
  unfold lot
  have := List.length_filter_le (abv es k) (List.range es.length)
  rwa [List.length_range] at this
/-- right elders -/
structure Eld (es : List (List Nat)) (sv : Bool) : Prop where
  lo : 1 ≤ es.length
  hi : es.length ≤ 6
  asc : ∀ (k : Nat) (l : List Nat), es[k]? = some l → l.Pairwise (· < ·)
  low : ∀ (k : Nat) (l : List Nat), es[k]? = some l → ∀ x ∈ l, x < k
  one : ∀ (k : Nat) (l : List Nat), es[k]? = some l → sv = false → l.length ≤ 1
/-- right closed or hollow kinds -/
structure Som (n : Nat) (l : List Nat) : Prop where
  asc : l.Pairwise (· < ·)
  low : ∀ x ∈ l, x < n
theorem Som.len {n : Nat} {l : List Nat} (h : Som n l) : l.length ≤ n := by
  have := asc_len (lo := 0) h.asc (fun x hx => ⟨Nat.zero_le _, h.low x hx⟩)
  omega
theorem Som.filter {n : Nat} {p : Nat → Bool} : Som n ((List.range n).filter p) := ⟨rg_filter, fun x hx => List.mem_range.mp (List.mem_filter.mp hx).1⟩
theorem Eld.som {es : List (List Nat)} {sv : Bool} (h : Eld es sv) {k : Nat} {l : List Nat} (e : es[k]? = some l) : Som k l := ⟨h.asc k l e, h.low k l e⟩
end Kf

set_option Elab.async false
set_option linter.all false
set_option maxRecDepth 100000
set_option maxHeartbeats 4000000
/-! sorted: tuples of ints of any lengths, pairs of an int and such a tuple, sets of such tuples. -/
namespace Ku
open PySem PySem.Spec PyProof.Rows L2 Kg Kd SrtO Srt
/-! ### the order of tuples -/
abbrev lx := HT.lexLt
theorem lx_cons (x y : Int) (xs ys : List Int) : lx (x :: xs) (y :: ys) = if x = y then lx xs ys else decide (x < y) := rfl
theorem lx_irrefl : ∀ l : List Int, lx l l = false
  | [] => rfl
  | a :: l => by rw [lx_cons, if_pos rfl]; exact lx_irrefl l
theorem lx_tri : ∀ l m : List Int, l = m ∨ lx l m = true ∨ lx m l = true
  | [], [] => .inl rfl
  | [], _ :: _ => .inr (.inl rfl)
  | _ :: _, [] => .inr (.inr rfl)
  | a :: l, b :: m => by
    rw [lx_cons, lx_cons]
    rcases Int.lt_trichotomy a b with h | h | h
    · exact .inr (.inl (by rw [if_neg (by omega)]; exact decide_eq_true h))
    · subst h
      rw [if_pos rfl, if_pos rfl]
      rcases lx_tri l m with e | e | e
      · exact .inl (by rw [e])
      · exact .inr (.inl e)
      · exact .inr (.inr e)
    · exact .inr (.inr (by rw [if_neg (by omega)]; exact decide_eq_true h))
theorem lx_trans : ∀ {l m n : List Int}, lx l m = true → lx m n = true → lx l n = true
  | [], [], _, h, _ => nomatch h
  | [], _ :: _, [], _, h => nomatch h
  | [], _ :: _, _ :: _, _, _ => rfl
  | _ :: _, [], _, h, _ => nomatch h
  | _ :: _, _ :: _, [], _, h => nomatch h
  | a :: l, b :: m, c :: n, h, k => by
    rw [lx_cons] at h k ⊢
    by_cases e : a = b
    · rw [if_pos e] at h
      by_cases e2 : b = c
      · rw [if_pos e2] at k
        rw [if_pos (by omega)]
        exact lx_trans h k
      · rw [if_neg e2] at k
        rw [if_neg (by omega)]
        exact decide_eq_true (by have := of_decide_eq_true k; omega)
    · rw [if_neg e] at h
      have h' := of_decide_eq_true h
      by_cases e2 : b = c
      · rw [if_neg (by omega)]; exact decide_eq_true (by omega)
      · rw [if_neg e2] at k
        have k' := of_decide_eq_true k
        rw [if_neg (by omega)]; exact decide_eq_true (by omega)
theorem lx_asym {l m : List Int} (h : lx l m = true) : lx m l = false := by
  cases e : lx m l with
  | false => rfl
  | true => have := lx_trans h e; rw [lx_irrefl] at this; cases this
theorem swo_lx {α : Type} (k : α → List Int) : Swo fun v u => lx (k v) (k u) := by
  refine ⟨fun x y h => lx_asym h, fun x y z h1 h2 => ?_⟩
  cases e : lx (k z) (k x) with
  | false => rfl
  | true =>
    rcases lx_tri (k y) (k x) with g | g | g
    · rw [g, e] at h2; cases h2
    · rw [g] at h1; cases h1
    · have := lx_trans e g; rw [h2] at this; cases this
/-- first the int, then the tuple -/
def lp (p q : Int × List Int) : Bool := lx (p.1 :: p.2) (q.1 :: q.2)
theorem swo_lp {α : Type} (k : α → Int × List Int) : Swo fun v u => lp (k v) (k u) := swo_lx fun v => (k v).1 :: (k v).2
section
variable {prog : Program} {w : World} {A : Around} {E : Value → Shared → Prop} {s : Shared} {Q : Bool → Shared → Prop}
theorem lex_var {b : Bool} : ∀ {xs ys : List Value} {ns ms : List Int} (i : Nat) (fin : Bool), IntsAre xs ns → IntsAre ys ms → fin = decide (ns.length < ms.length) → Q (lx ns ms) s → PySem.W.KatLex prog w A b fin Q (xs.zip ys) i s
  | _, _, _, _, i, fin, .nil, .nil, e, h => PySem.W.kat_nil (by rw [e]; exact h)
  | _, _, _, _, i, fin, .nil, .cons _ _ _, e, h => PySem.W.kat_nil (by rw [e]; exact h)
  | _, _, _, _, i, fin, .cons _ _ _, .nil, e, h => PySem.W.kat_nil (by rw [e]; exact h)
  | _, _, _, _, i, fin, .cons (vs := xs) (ns := ns) x t r, .cons (vs := ys) (ns := ms) y u q, e, h => by
    rw [lx_cons] at h
    refine PySem.W.kat_cons (SeqAt.EqAt.int_int x t y u prog w _ _ ?_)
    refine PySem.W.kat_go (fun e1 => ?_) (fun e1 => ?_)
    · have ex : x = y := by simpa using e1
      rw [if_pos ex] at h
      exact PySem.W.kat_yes (lex_var (i + 1) fin r q (by rw [e]; simp) h)
    · have ex : ¬ x = y := by simpa using e1
      rw [if_neg ex] at h
      exact PySem.W.kat_no (TS.oneLt_ints _ h)
theorem tup_cmp {vs : List Value} {k : Value → List Int} (hp : ∀ v ∈ vs, TS.TupInts s.heap v (k v)) : SrtO.Cmp prog w A s (tuples' true) (fun p => p.1 ∈ vs) (lt2 fun v u => lx (k v) (k u)) := by
  intro p q hm hm'
  obtain ⟨a, xs, e, ⟨o, ho, hc, n, hd⟩, i1⟩ := hp _ hm
  obtain ⟨a', ys, e', ⟨o', ho', hc', n', hd'⟩, i2⟩ := hp _ hm'
  show wpAny (model prog w) A (keyLt' (tuples' true) p.1 q.1) (fun r s' => s' = s ∧ r = lx (k p.1) (k q.1)) (fun _ _ => False) s
  generalize k p.1 = ns at i1 ⊢
  generalize k q.1 = ms at i2 ⊢
  rw [e, e']
  refine PySem.W.kat_lt ho hd ho' hd' (lex_var 0 _ i1 i2 ?_ ⟨rfl, rfl⟩)
  have l1 := i1.length
  have l2 := i2.length
  rw [Array.length_toList] at l1 l2
  rw [l1, l2]
theorem firsts_tup {h : Heap} {k : Value → List Int} : ∀ vs : List Value, (∀ v ∈ vs, TS.TupInts h v (k v) ∧ k v ≠ []) → ∃ fs, PySem.W.KatTups h vs fs ∧ fs.length = vs.length ∧ ∀ f, f ∈ fs → ∃ n t, f = Value.int n t
  | [], _ => ⟨[], PySem.W.KatTups.nil, rfl, fun f hf => by simp at hf⟩
  | v :: vs, x => by
    obtain ⟨fs, kk, hl, hi⟩ := firsts_tup vs fun u hu => x u (List.mem_cons_of_mem _ hu)
    obtain ⟨⟨a, xs, rfl, ⟨o, ho, hc, n, hdt⟩, i⟩, hn⟩ := x v (List.mem_cons_self ..)
    obtain ⟨y, ys, e⟩ : ∃ y ys, xs.toList = y :: ys := by
      cases q : xs.toList with
      | nil => rw [q] at i; generalize k (.ref a) = kk at i hn; cases i; exact absurd rfl hn
      | cons y ys => exact ⟨y, ys, rfl⟩
    obtain ⟨m, t, hy⟩ := i.all y (by rw [e]; exact List.mem_cons_self ..)
    refine ⟨y :: fs, PySem.W.KatTups.cons ho hc hdt ?_ kk, by simp [hl], ?_⟩
    · have z := congrArg (fun l : List Value => l[0]?) e
      simpa using z
    · intro f hf
      rcases List.mem_cons.mp hf with rfl | hf
      · exact ⟨m, t, hy⟩
      · exact hi f hf
theorem tups_sortable {a : Addr} {vs : List Value} {k : Value → List Int} (h0 : 0 < vs.length) (hp : ∀ v ∈ vs, TS.TupInts s.heap v (k v) ∧ k v ≠ []) (ha : ∀ o, s.heap.get? a = some o → o.cls ≠ .type "tuple") : SortableO prog w A s a vs fun v u => lx (k v) (k u) := by
  intro h' keep
  have hp' : ∀ v ∈ vs, TS.TupInts h' v (k v) ∧ k v ≠ [] := fun v hm => ⟨(hp v hm).1.keeps fun b o e c => keep b o (fun z => by subst z; exact ha o e c) e, (hp v hm).2⟩
  obtain ⟨fs, h1, h2, h3⟩ := firsts_tup vs hp'
  refine ⟨tuples' true, fun Q E hq => ?_, tup_cmp fun v hv => (hp' v hv).1⟩
  refine PySem.W.kat_kind (T := .type "int") h1 (by omega) (fun f hm => ?_) (by rfl) ?_
  · obtain ⟨x, t, rfl⟩ := h3 f hm
    exact PySem.W.Looks.now
  · have e : (Value.type "int" != Value.type "tuple") = true := by first | decide +kernel | rfl | decide
    rw [e]
    exact hq
theorem reads_ints {h : Heap} : ∀ {vs : List Value} {ns : List Int}, IntsAre vs ns → ∃ as, ReadsAll h vs (ns.map PyData.int) as
  | _, _, .nil => ⟨_, .nil⟩
  | _, _, .cons x t r => by
    obtain ⟨as, q⟩ := reads_ints r
    exact ⟨_, .cons (.int x t) q⟩
theorem reads_tup {h : Heap} {v : Value} {ns : List Int} (x : TS.TupInts h v ns) : ∃ as, Reads h v (.tuple (ns.map PyData.int)) as := by
  obtain ⟨a, xs, rfl, ⟨o, ho, hc, n, hd⟩, i⟩ := x
  obtain ⟨as, q⟩ := reads_ints (h := h) i
  exact ⟨_, .tuple ho hc hd q⟩
theorem lay_ints : ∀ xs : List Int, PyData.canLayAll0 (xs.map PyData.int) = true
  | [] => rfl
  | x :: r => by
    show (PyData.canLay0 (.int x) && PyData.canLayAll0 (r.map PyData.int)) = true
    rw [lay_ints r]; rfl
theorem dep_ints : ∀ xs : List Int, PyData.depthAll (xs.map PyData.int) = 0
  | [] => rfl
  | x :: r => by
    show max (PyData.depth (.int x)) (PyData.depthAll (r.map PyData.int)) = 0
    rw [dep_ints r]; rfl
theorem eqv_ints : ∀ l m : List Int, PyData.eqvAll (l.map PyData.int) (m.map PyData.int) = decide (l = m)
  | [], [] => by simp [PyData.eqvAll]
  | [], _ :: _ => by simp [PyData.eqvAll]
  | _ :: _, [] => by simp [PyData.eqvAll]
  | a :: l, b :: m => by
    have z := eqv_ints l m
    simp only [List.map_cons, PyData.eqvAll, z, PyData.eqv]
    by_cases h : a = b
    · subst h; simp
    · simp [h]
theorem eqAt_tup {v u : Value} {ns ms : List Int} (x : TS.TupInts s.heap v ns) (y : TS.TupInts s.heap u ms) (hu : A.units + 1 < cLine) : SeqAt.EqAt A s v u (decide (ns = ms)) := by
  obtain ⟨as, r1⟩ := reads_tup x
  obtain ⟨bs, r2⟩ := reads_tup y
  have z := SeqAt.eqAt_reads _ _ A s v u as bs r1 r2 (lay_ints ns) (lay_ints ms) (by
    show A.units + min (PyData.depthAll (ns.map PyData.int) + 1) (PyData.depthAll (ms.map PyData.int) + 1) < cLine
    rw [dep_ints, dep_ints]; exact hu)
  rw [PyData.eqv, eqv_ints] at z
  exact z
/-- a pair of an int and a tuple of ints -/
def IsNT (h : Heap) (v : Value) (p : Int × List Int) : Prop := ∃ a o t b n, v = .ref a ∧ h.get? a = some o ∧ o.cls = .type "tuple" ∧ o.data = .seq #[.int p.1 t, .ref b] n ∧ TS.TupInts h (.ref b) p.2
theorem IsNT.keeps {h h' : Heap} {v : Value} {p : Int × List Int} (x : IsNT h v p) (k : ∀ b o, h.get? b = some o → o.cls = .type "tuple" → h'.get? b = some o) : IsNT h' v p := by
  obtain ⟨a, o, t, b, n, e, ho, hc, hd, y⟩ := x
  exact ⟨a, o, t, b, n, e, k _ _ ho hc, hc, hd, y.keeps k⟩
theorem nt_cmp {vs : List Value} {k : Value → Int × List Int} (hu : A.units + 1 < cLine) (hp : ∀ v ∈ vs, IsNT s.heap v (k v)) : SrtO.Cmp prog w A s (tuples' true) (fun p => p.1 ∈ vs) (lt2 fun v u => lp (k v) (k u)) := by
  intro p q hm hm'
  have h1 := hp _ hm
  have h2 := hp _ hm'
  show wpAny (model prog w) A (keyLt' (tuples' true) p.1 q.1) (fun r s' => s' = s ∧ r = lp (k p.1) (k q.1)) (fun _ _ => False) s
  generalize k p.1 = x at h1 ⊢
  generalize k q.1 = y at h2 ⊢
  obtain ⟨a, o, t, b, n, e, ho, hc, hd, hb⟩ := h1
  obtain ⟨a', o', t', b', n', e', ho', hc', hd', hb'⟩ := h2
  rw [e, e']
  refine PySem.W.kat_lt ho hd ho' hd' ?_
  show PySem.W.KatLex prog w A true (decide (2 < 2)) _ [(.int x.1 t, .int y.1 t'), (.ref b, .ref b')] 0 s
  refine PySem.W.kat_cons (SeqAt.EqAt.int_int x.1 t y.1 t' prog w _ _ ?_)
  refine PySem.W.kat_go (fun e1 => ?_) (fun e1 => ?_)
  · have ex : x.1 = y.1 := by simpa using e1
    have el : lp x y = lx x.2 y.2 := by unfold lp; rw [lx_cons, if_pos ex]
    rw [el]
    refine PySem.W.kat_yes (PySem.W.kat_cons (eqAt_tup hb hb' hu prog w _ _ ?_))
    refine PySem.W.kat_go (fun e2 => ?_) (fun e2 => ?_)
    · have ey := of_decide_eq_true e2
      exact PySem.W.kat_yes (PySem.W.kat_nil ⟨rfl, by rw [ey, lx_irrefl]; rfl⟩)
    · obtain ⟨c, xs, ec, tc, ic⟩ := hb
      obtain ⟨c', xs', ec', tc', ic'⟩ := hb'
      cases ec
      cases ec'
      exact PySem.W.kat_no (PySem.W.kat_one _ _ (HT.lt_tupInts tc tc' ic ic' (by omega) ⟨rfl, rfl⟩))
  · have ex : ¬ x.1 = y.1 := by simpa using e1
    have el : lp x y = decide (x.1 < y.1) := by unfold lp; rw [lx_cons, if_neg ex]
    rw [el]
    exact PySem.W.kat_no (TS.oneLt_ints _ ⟨rfl, rfl⟩)
theorem firsts_nt {h : Heap} {k : Value → Int × List Int} : ∀ vs : List Value, (∀ v ∈ vs, IsNT h v (k v)) → ∃ fs, PySem.W.KatTups h vs fs ∧ fs.length = vs.length ∧ ∀ f, f ∈ fs → ∃ n t, f = Value.int n t
  | [], _ => ⟨[], PySem.W.KatTups.nil, rfl, fun f hf => by simp at hf⟩
  | v :: vs, x => by
    obtain ⟨fs, kk, hl, hi⟩ := firsts_nt vs fun u hu => x u (List.mem_cons_of_mem _ hu)
    obtain ⟨a, o, t, b, n, e, ho, hc, hd, _⟩ := x v (List.mem_cons_self ..)
    rw [e]
    refine ⟨.int (k v).1 t :: fs, PySem.W.KatTups.cons ho hc hd rfl kk, by simp [hl], ?_⟩
    intro f hf
    rcases List.mem_cons.mp hf with rfl | hf
    · exact ⟨_, t, rfl⟩
    · exact hi f hf
theorem nts_sortable {a : Addr} {vs : List Value} {k : Value → Int × List Int} (hu : A.units + 1 < cLine) (h0 : 0 < vs.length) (hp : ∀ v ∈ vs, IsNT s.heap v (k v)) (ha : ∀ o, s.heap.get? a = some o → o.cls ≠ .type "tuple") : SortableO prog w A s a vs fun v u => lp (k v) (k u) := by
  intro h' keep
  have hp' : ∀ v ∈ vs, IsNT h' v (k v) := fun v hm => (hp v hm).keeps fun b o e c => keep b o (fun z => by subst z; exact ha o e c) e
  obtain ⟨fs, h1, h2, h3⟩ := firsts_nt vs hp'
  refine ⟨tuples' true, fun Q E hq => ?_, nt_cmp hu hp'⟩
  refine PySem.W.kat_kind (T := .type "int") h1 (by omega) (fun f hm => ?_) (by rfl) ?_
  · obtain ⟨x, t, rfl⟩ := h3 f hm
    exact PySem.W.Looks.now
  · have e : (Value.type "int" != Value.type "tuple") = true := by first | decide +kernel | rfl | decide
    rw [e]
    exact hq
end
/-! ### as rules of the layer -/
section
variable {X : Cx} {pins : List (Addr × Obj)} {σ : L2.St} {H : Hp} {s : Shared} {Q : VK}
theorem cr_by {a : Addr} {xs : List V} {lt : V → V → Bool} (O : Swo lt) (I : Inv X pins σ H s) (hs : SqL X.K H a xs) (hx : ∀ x ∈ xs, ∃ t, x = V.ref t)
    (hS : ∀ its : List Value, Vals xs its → 2 ≤ its.length → ∀ (h₁ : Heap) (d : Addr), h₁.get? d = some (seqObj "list" its.toArray 0) → (∀ b o, s.heap.get? b = some o → b ≠ d ∧ h₁.get? b = some o) → SortableO X.prog X.w X.A.in1.in1 { s with heap := h₁ } d its (fun u v => lt (backV u) (backV v)))
    (q : ∀ ys p, SrtO.Srtd lt ys → SrtO.Stb lt ys xs → H p = none → Q (.ref p) (upd H p (.lst ys))) : wpAny (model X.prog X.w) X.A (call (.builtin "sorted") [.ref a]) (EP X pins σ Q) X.xe s := by
  obtain ⟨its, rv, hl, hz⟩ := I.list hs
  obtain ⟨e1, e2⟩ := refs_back rv hx
  have O' : Swo fun u v => lt (backV u) (backV v) := ⟨fun x y => O.asym _ _, fun x y z => O.tr _ _ _⟩
  refine sorted_ord O' hl.isList (by rw [← rv.length]; exact hz) (fun h2 h₁ d hd kk => hS its rv h2 h₁ d hd kk) fun out h1 h2 => ?_
  have h3 : ∀ u ∈ out, ∃ a, u = Value.ref a := fun u hu => e2 u (h2.perm.mem_iff.mp hu)
  obtain ⟨n, hn⟩ := sortedAll_at s.heap its out.toArray
  have hb : SrtO.Stb lt (out.map backV) xs := by
    rw [e1]
    exact SrtO.Stb.map O backV h2
  refine ⟨.ref _, upd H (s.heap.objs.size + 1) (.lst (out.map backV)), I.laid (t' := s.toks) (fun b o e => sortedAll_old e) (Nat.le_succ _) ⟨?_, out, n, vals_back h3, hn⟩, rfl, q _ _ (SrtO.srtd_map h1) hb (I.hok.fresh (Nat.le_succ _))⟩
  rw [hb.len]
  exact hz
/-- sorted(xs), tuples of ints, none of them empty -/
def rSortL (K : PySem.W.Frag) : List V → Hp → VK → Prop := fun vs H Q => ∃ (a : Addr) (xs : List V) (k : V → List Int), vs = [V.ref a] ∧ SqL K H a xs ∧ (∀ x ∈ xs, k x ≠ [] ∧ ∃ t, x = V.ref t ∧ SqT K H t ((k x).map V.int)) ∧
  ∀ ys p, SrtO.Srtd (fun x y => lx (k x) (k y)) ys → SrtO.Stb (fun x y => lx (k x) (k y)) ys xs → H p = none → Q (.ref p) (upd H p (.lst ys))
theorem not_tup {h₁ : Heap} {d : Addr} {its : List Value} (hd : h₁.get? d = some (seqObj "list" its.toArray 0)) : ∀ o, h₁.get? d = some o → o.cls ≠ .type "tuple" := fun o e => by
  have e' : some o = some (seqObj "list" its.toArray 0) := e.symm.trans hd
  cases e'
  intro c
  exact absurd (Value.type.inj c) (by decide)
theorem cr_sortL : CallR X (.builtin "sorted") (rSortL X.K) := by
  intro pins s σ H vs us Q I r h
  obtain ⟨a, xs, k, rfl, hs, hx, q⟩ := h
  obtain ⟨u, rfl, ru⟩ := vals1 r
  obtain rfl : u = Value.ref a := ru
  refine cr_by (swo_lx k) I hs (fun x hm => by obtain ⟨_, t, e, _⟩ := hx x hm; exact ⟨t, e⟩) (fun its rv h2 h₁ d hd kk => ?_) q
  obtain ⟨e1, e2⟩ := refs_back rv (fun x hm => by obtain ⟨_, t, e, _⟩ := hx x hm; exact ⟨t, e⟩)
  refine tups_sortable (s := { s with heap := h₁ }) (k := fun u => k (backV u)) (by omega) (fun v hv => ?_) (not_tup hd)
  obtain ⟨t, rfl⟩ := e2 v hv
  have hm : V.ref t ∈ xs := by rw [e1]; exact List.mem_map.mpr ⟨_, hv, rfl⟩
  obtain ⟨nk, t', e, ht⟩ := hx _ hm
  cases e
  exact ⟨(tupI_raw I ht).keeps fun b o e _ => (kk b o e).2, nk⟩
/-- sorted(xs), pairs of an int and a tuple of ints -/
def rSortP (K : PySem.W.Frag) : List V → Hp → VK → Prop := fun vs H Q => ∃ (a : Addr) (xs : List V) (k : V → Int × List Int), vs = [V.ref a] ∧ SqL K H a xs ∧ (∀ x ∈ xs, ∃ t b, x = V.ref t ∧ H t = some (.tup [.int (k x).1, .ref b]) ∧ SqT K H b ((k x).2.map V.int)) ∧
  ∀ ys p, SrtO.Srtd (fun x y => lp (k x) (k y)) ys → SrtO.Stb (fun x y => lp (k x) (k y)) ys xs → H p = none → Q (.ref p) (upd H p (.lst ys))
theorem in2_units {A : Around} (h : A.units + 64 < cLine) : A.in1.in1.units + 1 < cLine := by
  have e : A.in1.in1.units ≤ A.units + 2 := by first | exact Nat.le_refl _ | (simp [Around.in1]; omega) | decide
  omega
theorem cr_sortP (hu : X.A.units + 64 < cLine) : CallR X (.builtin "sorted") (rSortP X.K) := by
  intro pins s σ H vs us Q I r h
  obtain ⟨a, xs, k, rfl, hs, hx, q⟩ := h
  obtain ⟨u, rfl, ru⟩ := vals1 r
  obtain rfl : u = Value.ref a := ru
  refine cr_by (swo_lp k) I hs (fun x hm => by obtain ⟨t, _, e, _⟩ := hx x hm; exact ⟨t, e⟩) (fun its rv h2 h₁ d hd kk => ?_) q
  obtain ⟨e1, e2⟩ := refs_back rv (fun x hm => by obtain ⟨t, _, e, _⟩ := hx x hm; exact ⟨t, e⟩)
  refine nts_sortable (s := { s with heap := h₁ }) (k := fun u => k (backV u)) (in2_units hu) (by omega) (fun v hv => ?_) (not_tup hd)
  obtain ⟨t, rfl⟩ := e2 v hv
  have hm : V.ref t ∈ xs := by rw [e1]; exact List.mem_map.mpr ⟨_, hv, rfl⟩
  obtain ⟨t', b, e, ht, hb⟩ := hx _ hm
  cases e
  obtain ⟨_, its2, r2, o, ho, hc, n, hd'⟩ := I.hok _ _ ht
  obtain ⟨u1, u2, rfl, ri, rj⟩ := vals2 r2
  obtain ⟨t1, rfl⟩ := ri
  cases (show u2 = Value.ref b from rj)
  exact (show IsNT s.heap (.ref t) (k (V.ref t)) from ⟨t, o, t1, b, n, rfl, ho, hc, hd', tupI_raw I hb⟩).keeps fun b o e _ => (kk b o e).2
end
end Ku

set_option Elab.async false
set_option linter.all false
set_option maxRecDepth 100000
set_option maxHeartbeats 4000000
/-! sorted of a set of tuples of ints, none of them empty. -/
namespace Ku
open PySem PySem.Spec PyProof.Rows L2 Kg Kd SrtO Srt
/-- the key at an address -/
def kOf (L : List (Addr × List Int)) : Value → List Int
  | .ref a => ((L.find? fun p => p.1 == a).map (·.2)).getD []
  | _ => []
theorem kOf_at {L : List (Addr × List Int)} (one : ∀ q ∈ L, ∀ r ∈ L, q.1 = r.1 → q = r) {p : Addr × List Int} (hp : p ∈ L) : kOf L (.ref p.1) = p.2 := by
  show ((L.find? fun q => q.1 == p.1).map (·.2)).getD [] = p.2
  cases e : L.find? fun q => q.1 == p.1 with
  | none => exact absurd (List.find?_eq_none.mp e p hp) (by simp)
  | some q =>
    have h1 := List.mem_of_find?_eq_some e
    have h2 := List.find?_some e
    have h3 : q = p := one q h1 p hp (by simpa using h2)
    rw [h3]; rfl
theorem strict_of {L : List (Addr × List Int)} (nd : (L.map (·.2)).Nodup) (h : L.Pairwise (fun q r => lx r.2 q.2 = false)) : L.Pairwise (fun q r => lx q.2 r.2 = true) := by
  have n2 : L.Pairwise (fun q r => q.2 ≠ r.2) := List.pairwise_map.mp nd
  refine (h.and n2).imp (fun {q r} z => ?_)
  rcases lx_tri q.2 r.2 with e | e | e
  · exact absurd e z.2
  · exact e
  · rw [z.1] at e; cases e
section
variable {P : Program} {w : World} {A : Around} {E : Value → Shared → Prop} {s : Shared}
theorem sorted_set {a : Addr} {L : List (Addr × List Int)} {es : Array (Int × Value)} {ep : Nat} {t : SetTable} {Q : Value → Shared → Prop} (R : SetTR P w s.heap a L es ep t) (hh : A.handled = none) (hB : ∀ p ∈ L, p.2 ≠ [])
    (hQ : ∀ s' p (out : Array Value) (c : Nat) (L' : List (Addr × List Int)), (∀ b o, s.heap.get? b = some o → s'.heap.get? b = some o) → s'.gens = s.gens → s'.os = s.os → s.heap.objs.size ≤ p →
      s'.heap.get? p = some (seqObj "list" out c) → out.toList = L'.map (fun q => Value.ref q.1) → L'.Perm L → L'.Pairwise (fun q r => lx q.2 r.2 = true) → Q (.ref p) s') :
    wpAny (model P w) A (call (.builtin "sorted") [.ref a]) Q E s := by
  obtain ⟨o, ho, hex, hd⟩ := R.ob
  have hsz := R.size
  have hfew := R.few
  refine Calls.call_function_entry kind_sorted plain_sorted entry_sorted (args_sorted1 _) ?_
  unfold Builtin.«sorted»
  refine wpAny_bind (m := checkCount "sorted" 1 1 _) (wpAny_pure ?_)
  refine wpAny_bind (collect_set (A := A.in1) hh ⟨o, ho, hex.1, hd⟩ R.fits (by unfold scanBound; omega) R.tab.ris R.led fun s1 vs k1 hz g1 o1 pm => ?_)
  have hes : es.toList.map (·.2) = L.map fun q => Value.ref q.1 := by
    rw [R.rows]
    unfold rowsOf
    rw [List.map_map] <;> rfl
  rw [hes] at pm
  have ord : ∀ vs : List Value, (∀ v ∈ vs, ∃ q ∈ L, v = Value.ref q.1) → ∃ L1 : List (Addr × List Int), vs = L1.map (fun q => Value.ref q.1) ∧ ∀ q ∈ L1, q ∈ L := by
    intro vs
    induction vs with
    | nil => intro _; exact ⟨[], rfl, fun q hq => (by cases hq)⟩
    | cons v vs ih =>
      intro hv
      obtain ⟨q, hq, e⟩ := hv v List.mem_cons_self
      obtain ⟨L1, e1, hs⟩ := ih fun u hu => hv u (List.mem_cons_of_mem _ hu)
      refine ⟨q :: L1, by rw [List.map_cons, e, e1], fun r hr => ?_⟩
      rcases List.mem_cons.mp hr with z | z
      · rw [z]; exact hq
      · exact hs r z
  have one : ∀ q ∈ L, ∀ r ∈ L, q.1 = r.1 → q = r := fun q hq r hr e => by
    have a1 := R.tup q hq
    have a2 := R.tup r hr
    rw [e] at a1
    have e2 : q.2 = r.2 := a1.inj a2
    exact Prod.ext e e2
  have perm_of : ∀ L1 : List (Addr × List Int), (∀ q ∈ L1, q ∈ L) → (L1.map (fun q => Value.ref q.1)).Perm (L.map fun q => Value.ref q.1) → L1.Perm L := by
    intro L1 hs pm1
    have nL : L.Nodup := nodup_of_map R.nd
    have nref : (L.map fun q => Value.ref q.1).Nodup := by
      refine List.pairwise_map.mpr (List.Pairwise.imp_of_mem (fun {q r} hq hr hne e => ?_) nL)
      injection e with e
      exact hne (one q hq r hr e)
    have n1 : L1.Nodup := nodup_of_map (pm1.nodup_iff.mpr nref)
    refine (List.perm_ext_iff_of_nodup n1 nL).mpr fun q => ⟨hs q, fun hq => ?_⟩
    have hm : Value.ref q.1 ∈ L1.map (fun q => Value.ref q.1) := pm1.mem_iff.mpr (List.mem_map.mpr ⟨q, hq, rfl⟩)
    obtain ⟨r, hr, e⟩ := List.mem_map.mp hm
    injection e with e
    rw [← one r (hs r hr) q hq e]
    exact hr
  have hvl : vs.length < 64 := by rw [pm.length_eq, List.length_map]; exact hfew
  have hvz : vs.length ≤ sizeLine := by rw [sizeLine_eq]; omega
  refine wpAny_bind (wpAny_newList ?_ hvz)
  have hoL : (s1.heap.push (seqObj "list" vs.toArray 0)).get? s1.heap.objs.size = some (seqObj "list" vs.toArray 0) := Heap.get?_push_size _ rfl
  have tk : ∀ q ∈ L, TS.TupInts (s1.heap.push (seqObj "list" vs.toArray 0)) (.ref q.1) q.2 := fun q hq => tupInts_of (P := P) (w := w) (isT_keep (R.tup q hq) fun b u e => Heap.get?_push_of_some _ (k1 b u e))
  have x : ∀ v ∈ vs, TS.TupInts (s1.heap.push (seqObj "list" vs.toArray 0)) v (kOf L v) ∧ kOf L v ≠ [] := fun v hv => by
    obtain ⟨q, hq, e⟩ := List.mem_map.mp (pm.mem_iff.mp hv)
    rw [← e, kOf_at one hq]
    exact ⟨tk q hq, hB q hq⟩
  refine wpAny_bind (wpAny_holding (wpAny_call_entry slot_list_sort (s := { s1 with heap := s1.heap.push (seqObj "list" vs.toArray 0) }) ⟨_, hoL, rfl⟩ entry_list_sort (list_sort_ord (swo_lx (kOf L)) hoL hvz
    (fun h2 => tups_sortable (s := { s1 with heap := s1.heap.push (seqObj "list" vs.toArray 0) }) (by omega) x (not_tup hoL)) fun out h1 h2 => ⟨_, rfl, ?_⟩) (args_list_sort _)))
  obtain ⟨c, hc⟩ := sortedHeap_at (vs := vs) (out := out.toArray) hoL
  obtain ⟨L', e', hs'⟩ := ord out fun v hv => by
    obtain ⟨q, hq, e⟩ := List.mem_map.mp (pm.mem_iff.mp (h2.perm.mem_iff.mp hv))
    exact ⟨q, hq, e.symm⟩
  have pL : L'.Perm L := perm_of L' hs' (by rw [← e']; exact h2.perm.trans pm)
  have pw : L'.Pairwise (fun q r => lx q.2 r.2 = true) := by
    refine strict_of ((pL.map (·.2)).nodup_iff.mpr R.nd) ?_
    rw [e'] at h1
    refine List.Pairwise.imp_of_mem (fun {q r} hq hr hle => ?_) (List.pairwise_map.mp h1)
    have z : lx (kOf L (.ref r.1)) (kOf L (.ref q.1)) = false := hle
    rw [kOf_at one (hs' r hr), kOf_at one (hs' q hq)] at z
    exact z
  refine wpAny_pure ⟨_, rfl, hQ _ s1.heap.objs.size out.toArray c L' (fun b u e => ?_) g1 o1 hz hc (by simpa using e') pL pw⟩
  have q := k1 b u e
  have hlt := Heap.lt_size q
  show (sortedHeap (s1.heap.push (seqObj "list" vs.toArray 0)) s1.heap.objs.size vs out.toArray).get? b = some u
  rw [sortedHeap_old (Nat.ne_of_lt hlt) (by rw [size_push']; exact Nat.lt_succ_of_lt hlt)]
  exact Heap.get?_push_of_some _ q
end
section
variable {X : Cx}
def rSortS (K : PySem.W.Frag) (P : Program) (w : World) : List V → Hp → VK → Prop := fun vs H Q => ∃ (a : Addr) (L : List (Addr × List Int)), vs = [V.ref a] ∧ H a = some (SetTO P w a L) ∧ (∀ p ∈ L, SqT K H p.1 (p.2.map V.int) ∧ p.2 ≠ []) ∧
  ∀ (L' : List (Addr × List Int)) (p : Addr), L'.Perm L → L'.Pairwise (fun q r => lx q.2 r.2 = true) → L'.length < 64 → H p = none → Q (.ref p) (upd H p (.lst (L'.map fun q => V.ref q.1)))
theorem cr_sortS (hc : X.calm = true) : CallR X (.builtin "sorted") (rSortS X.K X.prog X.w) := by
  intro pins s σ H vs us Q I r h
  obtain ⟨a, L, rfl, ha, hk, q⟩ := h
  have R0 : SetT0 X.prog X.w s.heap a L := (I.hok a _ ha).1
  obtain ⟨es, ep, t, R⟩ := R0.full fun p hp => I.isT (hk p hp).1
  rw [Vals.ref1 r]
  refine sorted_set R (I.ok.hd hc) (fun p hp => (hk p hp).2) fun s' p out c L' k g o hp hg hout pm pw => ?_
  have hfew : L'.length < 64 := by rw [pm.length_eq]; exact R.few
  have hlen : (L'.map fun q => V.ref q.1).length ≤ sizeLine := by rw [List.length_map, sizeLine_eq]; omega
  have hn : H p = none := I.hok.fresh hp
  have hv : Vals (L'.map fun q => V.ref q.1) out.toList := by rw [hout]; exact vals_of_refs L'
  have J : Inv X pins σ (upd H p (.lst (L'.map fun q => V.ref q.1))) { s with heap := s'.heap, gens := s'.gens, drawn := s'.drawn, toks := s'.toks } :=
    I.call (ch := []) (Un.laid k hp hn) (I.hok.laid k hp ⟨hlen, out.toList, c, hv, hg⟩) (by rw [g]; exact I.bare) (fun _ z => nomatch z)
  have e : s' = { s with heap := s'.heap, gens := s'.gens, drawn := s'.drawn, toks := s'.toks } := by
    cases s'
    cases s
    cases o
    rfl
  rw [e]
  exact ⟨.ref p, _, J, rfl, q L' p pm pw hfew hn⟩
end
end Ku

set_option Elab.async false
set_option linter.all false
set_option maxRecDepth 100000
set_option maxHeartbeats 4000000
/-! Lots, by themselves. -/
namespace Kf
open PySem PySem.Spec PyProof.Rows L2 Kg Kd
/-- numbers as ints -/
def ci (l : List Nat) : List Int := l.map fun n => ((n : Nat) : Int)
theorem ci_V (l : List Nat) : (ci l).map V.int = l.map iV := (map_iV l).symm
theorem ci_inj : ∀ {l m : List Nat}, ci l = ci m → l = m
  | [], [], _ => rfl
  | [], _ :: _, h => nomatch h
  | _ :: _, [], h => nomatch h
  | a :: l, b :: m, h => by
    unfold ci at h
    rw [List.map_cons, List.map_cons, List.cons.injEq] at h
    have e : a = b := by omega
    rw [e, ci_inj (l := l) (m := m) h.2]
theorem ci_nil {l : List Nat} : ci l = [] ↔ l = [] := by unfold ci; cases l <;> simp
def lxN (l m : List Nat) : Bool := Ku.lx (ci l) (ci m)
def lpN (p q : Nat × List Nat) : Bool := Ku.lp ((p.1 : Nat), ci p.2) ((q.1 : Nat), ci q.2)
theorem lxN_irrefl (l : List Nat) : lxN l l = false := Ku.lx_irrefl _
theorem lxN_asym {l m : List Nat} (h : lxN l m = true) : lxN m l = false := Ku.lx_asym h
theorem lpN_irrefl (p : Nat × List Nat) : lpN p p = false := Ku.lx_irrefl _
theorem lpN_asym {p q : Nat × List Nat} (h : lpN p q = true) : lpN q p = false := Ku.lx_asym h
/-- two lists in a strict order with the same items are one -/
theorem ord_uniq {α : Type} {lt : α → α → Bool} (irr : ∀ a, lt a a = false) (asy : ∀ a b, lt a b = true → lt b a = false) : ∀ {l m : List α}, l.Pairwise (fun a b => lt a b = true) → m.Pairwise (fun a b => lt a b = true) → (∀ x, x ∈ l ↔ x ∈ m) → l = m
  | [], [], _, _, _ => rfl
  | [], b :: m, _, _, h => absurd ((h b).mpr (List.mem_cons_self ..)) (by simp)
  | a :: l, [], _, _, h => absurd ((h a).mp (List.mem_cons_self ..)) (by simp)
  | a :: l, b :: m, hl, hm, h => by
    rw [List.pairwise_cons] at hl hm
    have e : a = b := by
      rcases List.mem_cons.mp ((h a).mp (List.mem_cons_self ..)) with z | z
      · exact z
      · rcases List.mem_cons.mp ((h b).mpr (List.mem_cons_self ..)) with y | y
        · exact y.symm
        · have h1 := hm.1 a z
          have h2 := hl.1 b y
          rw [asy _ _ h1] at h2
          cases h2
    subst e
    congr 1
    refine ord_uniq irr asy hl.2 hm.2 fun x => ⟨fun z => ?_, fun z => ?_⟩
    · rcases List.mem_cons.mp ((h x).mp (List.mem_cons_of_mem _ z)) with y | y
      · have := hl.1 x z; rw [y, irr] at this; cases this
      · exact y
    · rcases List.mem_cons.mp ((h x).mpr (List.mem_cons_of_mem _ z)) with y | y
      · have := hm.1 x z; rw [y, irr] at this; cases this
      · exact y
/-- the kinds under which something of these kinds lies -/
def lotS (es : List (List Nat)) (ks : List Nat) : List Nat := (List.range es.length).filter (fun j => ks.any (fun k => abv es k j))
theorem lotS_one (es : List (List Nat)) (k : Nat) : lotS es [k] = lot es k := by
  unfold lotS lot
  congr 1
  funext j
  simp
theorem lotS_som (es : List (List Nat)) (ks : List Nat) : Som es.length (lotS es ks) := Som.filter
theorem lot_som (es : List (List Nat)) (k : Nat) : Som es.length (lot es k) := Som.filter
theorem abv_self (es : List (List Nat)) (k : Nat) : abv es k k = true := (abv_eq es k k).mpr (.inl rfl)
theorem lotS_ne {es : List (List Nat)} {ks : List Nat} (h : ks ≠ []) (lo : ∀ k ∈ ks, k < es.length) : lotS es ks ≠ [] := by
  cases ks with
  | nil => exact absurd rfl h
  | cons k ks =>
    have hm : k ∈ lotS es (k :: ks) := by
      unfold lotS
      rw [List.mem_filter, List.mem_range]
      exact ⟨lo k (List.mem_cons_self ..), List.any_eq_true.mpr ⟨k, List.mem_cons_self .., abv_self es k⟩⟩
    intro z
    rw [z] at hm
    cases hm
theorem lot_ne {es : List (List Nat)} {k : Nat} (h : k < es.length) : lot es k ≠ [] := by
  rw [← lotS_one]
  exact lotS_ne (by simp) (fun j hj => by rw [List.mem_singleton.mp hj]; exact h)
/-- the lot of a kind with things -/
def kn (es : List (List Nat)) (ho : List Nat) (l : List Nat) : Bool := (List.range es.length).any (fun k => !decide (k ∈ ho) && decide (l = lot es k))
theorem kn_iff {es : List (List Nat)} {ho l : List Nat} : kn es ho l = true ↔ ∃ k, k < es.length ∧ k ∉ ho ∧ l = lot es k := by
  unfold kn
  rw [List.any_eq_true]
  constructor
  · rintro ⟨k, h1, h2⟩
    rw [Bool.and_eq_true, Bool.not_eq_true', decide_eq_false_iff_not, decide_eq_true_iff] at h2
    exact ⟨k, List.mem_range.mp h1, h2.1, h2.2⟩
  · rintro ⟨k, h1, h2, h3⟩
    exact ⟨k, List.mem_range.mpr h1, by rw [Bool.and_eq_true, Bool.not_eq_true', decide_eq_false_iff_not, decide_eq_true_iff]; exact ⟨h2, h3⟩⟩
/-- elders of one new kind that are allowed (any number of them at all) -/
def rt (cl : List Nat) (sv : Bool) (ks : List Nat) : Bool := (ks.filter (fun k => decide (k ∈ cl))).isEmpty && (decide (ks.length = 1) || sv)
/-- a late lot l with the fewest elders m -/
def Late (es : List (List Nat)) (cl ho : List Nat) (sv : Bool) (p : Nat × List Nat) : Prop := kn es ho p.2 = false ∧ (∃ ks, ks ≠ [] ∧ Som es.length ks ∧ rt cl sv ks = true ∧ lotS es ks = p.2 ∧ ks.length = p.1) ∧ ∀ ks, ks ≠ [] → Som es.length ks → rt cl sv ks = true → lotS es ks = p.2 → p.1 ≤ ks.length
structure LotsP (es : List (List Nat)) (cl ho : List Nat) (sv : Bool) (A : List (List Nat)) (B : List (Nat × List Nat)) : Prop where
  oa : A.Pairwise (fun a b => lxN a b = true)
  ma : ∀ l, l ∈ A ↔ kn es ho l = true
  ob : B.Pairwise (fun a b => lpN a b = true)
  mb : ∀ p, p ∈ B ↔ Late es cl ho sv p
/-- all lots, in their order -/
def IsLots (es : List (List Nat)) (cl ho : List Nat) (sv : Bool) (ls : List (List Nat)) : Prop := ∃ A B, ls = A ++ B.map (·.2) ∧ LotsP es cl ho sv A B
theorem IsLots.uniq {es : List (List Nat)} {cl ho : List Nat} {sv : Bool} {ls ms : List (List Nat)} (h : IsLots es cl ho sv ls) (k : IsLots es cl ho sv ms) : ls = ms := by
  obtain ⟨A, B, rfl, h⟩ := h
  obtain ⟨C, D, rfl, k⟩ := k
  rw [ord_uniq lxN_irrefl (fun _ _ => lxN_asym) h.oa k.oa (fun x => (h.ma x).trans (k.ma x).symm), ord_uniq lpN_irrefl (fun _ _ => lpN_asym) h.ob k.ob (fun x => (h.mb x).trans (k.mb x).symm)]
theorem IsLots.mem {es : List (List Nat)} {cl ho : List Nat} {sv : Bool} {ls : List (List Nat)} (h : IsLots es cl ho sv ls) (l : List Nat) : l ∈ ls ↔ kn es ho l = true ∨ ∃ m, Late es cl ho sv (m, l) := by
  obtain ⟨A, B, rfl, h⟩ := h
  rw [List.mem_append, h.ma l, List.mem_map]
  constructor
  · rintro (z | ⟨⟨m, l'⟩, z, rfl⟩)
    · exact .inl z
    · exact .inr ⟨m, (h.mb _).mp z⟩
  · rintro (z | ⟨m, z⟩)
    · exact .inl z
    · exact .inr ⟨(m, l), (h.mb _).mpr z, rfl⟩
theorem IsLots.som {es : List (List Nat)} {cl ho : List Nat} {sv : Bool} {ls : List (List Nat)} (h : IsLots es cl ho sv ls) {l : List Nat} (hl : l ∈ ls) : Som es.length l ∧ l ≠ [] := by
  rcases (h.mem l).mp hl with z | ⟨m, _, ⟨ks, h1, h2, _, h4, _⟩, _⟩
  · obtain ⟨k, h1, _, rfl⟩ := kn_iff.mp z
    exact ⟨lot_som es k, lot_ne h1⟩
  · have e : lotS es ks = l := h4
    rw [← e]
    exact ⟨lotS_som es ks, lotS_ne h1 h2.low⟩
/-! ### sets of kinds by their codes -/
def ksOf (n c : Nat) : List Nat := (List.range n).filter (fun k => decide (c / 2 ^ k % 2 = 1))
theorem ksOf_som (n c : Nat) : Som n (ksOf n c) := Som.filter
theorem bits_of (P : Nat → Bool) : ∀ n, ∃ c, c < 2 ^ n ∧ ∀ k, k < n → c.testBit k = P k
  | 0 => ⟨0, by decide, fun k hk => absurd hk (Nat.not_lt_zero k)⟩
  | n + 1 => by
    obtain ⟨c, h1, h2⟩ := bits_of P n
    cases e : P n with
    | false =>
      refine ⟨c, by rw [Nat.pow_succ]; omega, fun k hk => ?_⟩
      by_cases z : k < n
      · exact h2 k z
      · have : k = n := by omega
        rw [this, Nat.testBit_lt_two_pow h1, e]
    | true =>
      refine ⟨2 ^ n + c, by rw [Nat.pow_succ]; omega, fun k hk => ?_⟩
      by_cases z : k < n
      · rw [Nat.testBit_two_pow_add_gt z]; exact h2 k z
      · have : k = n := by omega
        rw [this, Nat.testBit_two_pow_add_eq, Nat.testBit_lt_two_pow h1, e]; rfl
theorem tb (c k : Nat) : c.testBit k = decide (c / 2 ^ k % 2 = 1) := Nat.testBit_eq_decide_div_mod_eq
theorem ksOf_all {n : Nat} {ks : List Nat} (h : Som n ks) : ∃ c, c < 2 ^ n ∧ ksOf n c = ks := by
  obtain ⟨c, h1, h2⟩ := bits_of (fun k => decide (k ∈ ks)) n
  refine ⟨c, h1, asc_uniq (ksOf_som n c).asc h.asc fun k => ?_⟩
  unfold ksOf
  rw [List.mem_filter, List.mem_range, ← tb]
  constructor
  · rintro ⟨a, b⟩
    rw [h2 k a] at b
    exact of_decide_eq_true b
  · intro a
    have := h.low k a
    exact ⟨this, by rw [h2 k this]; exact decide_eq_true a⟩
theorem ksOf_zero (n : Nat) : ksOf n 0 = [] := by
  unfold ksOf
  rw [List.filter_eq_nil_iff]
  intro k _
  simp
theorem ksOf_ne {n c : Nat} (h : 1 ≤ c) (hc : c < 2 ^ n) : ksOf n c ≠ [] := by
  intro z
  have all : ∀ k, c.testBit k = false := by
    intro k
    by_cases hk : k < n
    · cases e : c.testBit k with
      | false => rfl
      | true =>
        have hm : k ∈ ksOf n c := by
          unfold ksOf
          rw [List.mem_filter, List.mem_range, ← tb]
          exact ⟨hk, e⟩
        rw [z] at hm; cases hm
    · exact Nat.testBit_lt_two_pow (Nat.lt_of_lt_of_le hc (Nat.pow_le_pow_right (by decide) (by omega)))
  have : c = 0 := Nat.eq_of_testBit_eq (fun k => by rw [all k, Nat.zero_testBit])
  omega
/-- the late lots, code by code -/
def stp (es : List (List Nat)) (cl ho : List Nat) (sv : Bool) (m : List Nat → Option Nat) (c : Nat) : List Nat → Option Nat :=
  if (rt cl sv (ksOf es.length c) && !kn es ho (lotS es (ksOf es.length c))) = true then fun l => if l = lotS es (ksOf es.length c) then some (min ((m l).getD 9) (ksOf es.length c).length) else m l else m
def mmU (es : List (List Nat)) (cl ho : List Nat) (sv : Bool) : Nat → List Nat → Option Nat
  | 0 => fun _ => none
  | i + 1 => stp es cl ho sv (mmU es cl ho sv i) (i + 1)
structure Up (es : List (List Nat)) (cl ho : List Nat) (sv : Bool) (i m : Nat) (l : List Nat) : Prop where
  nk : kn es ho l = false
  ex : ∃ c, 1 ≤ c ∧ c ≤ i ∧ rt cl sv (ksOf es.length c) = true ∧ lotS es (ksOf es.length c) = l ∧ (ksOf es.length c).length = m
  le : ∀ c, 1 ≤ c → c ≤ i → rt cl sv (ksOf es.length c) = true → lotS es (ksOf es.length c) = l → m ≤ (ksOf es.length c).length
theorem ksOf_len (n c : Nat) : (ksOf n c).length ≤ n := (ksOf_som n c).len
theorem mmU_iff {es : List (List Nat)} {cl ho : List Nat} {sv : Bool} (n6 : es.length ≤ 6) : ∀ (i m : Nat) (l : List Nat), mmU es cl ho sv i l = some m ↔ Up es cl ho sv i m l
  | 0, m, l => ⟨fun h => (nomatch h), fun h => by obtain ⟨c, h1, h2, _⟩ := h.ex; omega⟩
  | i + 1, m, l => by
    have ih := mmU_iff (es := es) (cl := cl) (ho := ho) (sv := sv) n6 i
    show stp es cl ho sv (mmU es cl ho sv i) (i + 1) l = some m ↔ _
    unfold stp
    by_cases c : (rt cl sv (ksOf es.length (i + 1)) && !kn es ho (lotS es (ksOf es.length (i + 1)))) = true
    · rw [if_pos c]
      rw [Bool.and_eq_true, Bool.not_eq_true'] at c
      by_cases e : l = lotS es (ksOf es.length (i + 1))
      · show (if l = _ then _ else _) = some m ↔ _
        rw [if_pos e]
        have kl := ksOf_len es.length (i + 1)
        cases g : mmU es cl ho sv i l with
        | none =>
          have no : ∀ c, 1 ≤ c → c ≤ i → rt cl sv (ksOf es.length c) = true → lotS es (ksOf es.length c) = l → False := by
            intro c0 h1 h2 h3 h4
            -- the least of them
            have : ∃ m, Up es cl ho sv i m l := by
              have P : ∀ b, (∃ c, 1 ≤ c ∧ c ≤ i ∧ rt cl sv (ksOf es.length c) = true ∧ lotS es (ksOf es.length c) = l ∧ (ksOf es.length c).length ≤ b) → ∃ m, Up es cl ho sv i m l := by
                intro b
                induction b with
                | zero =>
                  rintro ⟨c1, a1, a2, a3, a4, a5⟩
                  exact ⟨0, ⟨by rw [e]; exact c.2, ⟨c1, a1, a2, a3, a4, by omega⟩, fun _ _ _ _ _ => Nat.zero_le _⟩⟩
                | succ b ihb =>
                  rintro ⟨c1, a1, a2, a3, a4, a5⟩
                  by_cases z : ∃ c, 1 ≤ c ∧ c ≤ i ∧ rt cl sv (ksOf es.length c) = true ∧ lotS es (ksOf es.length c) = l ∧ (ksOf es.length c).length ≤ b
                  · exact ihb z
                  · refine ⟨b + 1, ⟨by rw [e]; exact c.2, ⟨c1, a1, a2, a3, a4, ?_⟩, fun c2 b1 b2 b3 b4 => ?_⟩⟩
                    · by_cases y : (ksOf es.length c1).length ≤ b
                      · exact absurd ⟨c1, a1, a2, a3, a4, y⟩ z
                      · omega
                    · by_cases y : (ksOf es.length c2).length ≤ b
                      · exact absurd ⟨c2, b1, b2, b3, b4, y⟩ z
                      · omega
              exact P _ ⟨c0, h1, h2, h3, h4, Nat.le_refl _⟩
            obtain ⟨m', u⟩ := this
            rw [(ih m' l).mpr u] at g
            cases g
          show some (min 9 _) = some m ↔ _
          rw [Nat.min_eq_right (by omega), Option.some.injEq]
          constructor
          · intro h
            refine ⟨by rw [e]; exact c.2, ⟨i + 1, by omega, Nat.le_refl _, c.1, e.symm, h⟩, fun c1 a1 a2 a3 a4 => ?_⟩
            by_cases z : c1 ≤ i
            · exact (no c1 a1 z a3 a4).elim
            · have : c1 = i + 1 := by omega
              rw [this]; omega
          · intro u
            obtain ⟨c1, a1, a2, a3, a4, a5⟩ := u.ex
            by_cases z : c1 ≤ i
            · exact (no c1 a1 z a3 a4).elim
            · have : c1 = i + 1 := by omega
              rw [this] at a5; exact a5
        | some m0 =>
          have u0 := (ih m0 l).mp g
          show some (min m0 _) = some m ↔ _
          rw [Option.some.injEq]
          have best : Up es cl ho sv (i + 1) (min m0 (ksOf es.length (i + 1)).length) l := by
            refine ⟨u0.nk, ?_, fun c1 a1 a2 a3 a4 => ?_⟩
            · by_cases z : m0 ≤ (ksOf es.length (i + 1)).length
              · obtain ⟨c1, a1, a2, a3, a4, a5⟩ := u0.ex
                exact ⟨c1, a1, by omega, a3, a4, by omega⟩
              · exact ⟨i + 1, by omega, Nat.le_refl _, c.1, e.symm, by omega⟩
            · by_cases z : c1 ≤ i
              · have := u0.le c1 a1 z a3 a4; omega
              · have : c1 = i + 1 := by omega
                rw [this]; omega
          constructor
          · intro h; rw [← h]; exact best
          · intro u
            obtain ⟨c1, a1, a2, a3, a4, a5⟩ := u.ex
            obtain ⟨c2, b1, b2, b3, b4, b5⟩ := best.ex
            have h1 := best.le c1 a1 a2 a3 a4
            have h2 := u.le c2 b1 b2 b3 b4
            omega
      · show (if l = _ then _ else _) = some m ↔ _
        rw [if_neg e, ih m l]
        constructor
        · intro u
          obtain ⟨c1, a1, a2, a3⟩ := u.ex
          refine ⟨u.nk, ⟨c1, a1, by omega, a3⟩, fun c2 b1 b2 b3 b4 => ?_⟩
          by_cases z : c2 ≤ i
          · exact u.le c2 b1 z b3 b4
          · have : c2 = i + 1 := by omega
            rw [this] at b4; exact absurd b4.symm e
        · intro u
          obtain ⟨c1, a1, a2, a3, a4, a5⟩ := u.ex
          have z : c1 ≤ i := by
            by_cases z : c1 ≤ i
            · exact z
            · have : c1 = i + 1 := by omega
              rw [this] at a4; exact absurd a4.symm e
          exact ⟨u.nk, ⟨c1, a1, z, a3, a4, a5⟩, fun c2 b1 b2 b3 b4 => u.le c2 b1 (by omega) b3 b4⟩
    · rw [if_neg c, ih m l]
      have c' : rt cl sv (ksOf es.length (i + 1)) = true → kn es ho (lotS es (ksOf es.length (i + 1))) = true := by
        intro h
        cases k : kn es ho (lotS es (ksOf es.length (i + 1))) with
        | true => rfl
        | false => exact absurd (by rw [h, k]; rfl) c
      constructor
      · intro u
        obtain ⟨c1, a1, a2, a3⟩ := u.ex
        refine ⟨u.nk, ⟨c1, a1, by omega, a3⟩, fun c2 b1 b2 b3 b4 => ?_⟩
        by_cases z : c2 ≤ i
        · exact u.le c2 b1 z b3 b4
        · have : c2 = i + 1 := by omega
          rw [this] at b3 b4
          have := c' b3
          rw [b4, u.nk] at this
          cases this
      · intro u
        obtain ⟨c1, a1, a2, a3, a4, a5⟩ := u.ex
        have z : c1 ≤ i := by
          by_cases z : c1 ≤ i
          · exact z
          · have : c1 = i + 1 := by omega
            rw [this] at a3 a4
            have := c' a3
            rw [a4, u.nk] at this
            cases this
        exact ⟨u.nk, ⟨c1, a1, z, a3, a4, a5⟩, fun c2 b1 b2 b3 b4 => u.le c2 b1 (by omega) b3 b4⟩
theorem late_iff {es : List (List Nat)} {cl ho : List Nat} {sv : Bool} (n6 : es.length ≤ 6) (m : Nat) (l : List Nat) : mmU es cl ho sv (2 ^ es.length - 1) l = some m ↔ Late es cl ho sv (m, l) := by
  have p1 : 1 ≤ 2 ^ es.length := Nat.one_le_two_pow
  rw [mmU_iff n6]
  constructor
  · intro u
    obtain ⟨c, h1, h2, h3, h4, h5⟩ := u.ex
    refine ⟨u.nk, ⟨_, ksOf_ne h1 (by omega), ksOf_som _ _, h3, h4, h5⟩, fun ks k1 k2 k3 k4 => ?_⟩
    obtain ⟨c2, b1, b2⟩ := ksOf_all k2
    have c0 : 1 ≤ c2 := by
      cases c2 with
      | zero => rw [ksOf_zero] at b2; exact absurd b2.symm k1
      | succ _ => omega
    subst b2
    exact u.le c2 c0 (by omega) k3 k4
  · rintro ⟨nk, ⟨ks, k1, k2, k3, k4, k5⟩, le⟩
    obtain ⟨c2, b1, b2⟩ := ksOf_all k2
    have c0 : 1 ≤ c2 := by
      cases c2 with
      | zero => rw [ksOf_zero] at b2; exact absurd b2.symm k1
      | succ _ => omega
    subst b2
    exact ⟨nk, ⟨c2, c0, by omega, k3, k4, k5⟩, fun c h1 h2 h3 h4 => le _ (ksOf_ne h1 (by omega)) (ksOf_som _ _) h3 h4⟩
/-! ### a dict by tuples of kinds -/
def kL (l : List Nat) : List Key := l.map fun n => Sum.inl ((n : Nat) : Int)
theorem kL_V (l : List Nat) : (kL l).map kV = l.map iV := by unfold kL; rw [List.map_map]; rfl
theorem kL_inj : ∀ {l m : List Nat}, kL l = kL m → l = m
  | [], [], _ => rfl
  | [], _ :: _, h => nomatch h
  | _ :: _, [], h => nomatch h
  | a :: l, b :: m, h => by
    unfold kL at h
    rw [List.map_cons, List.map_cons, List.cons.injEq, Sum.inl.injEq] at h
    have e : a = b := by omega
    rw [e, kL_inj (l := l) (m := m) h.2]
structure Dv (kvs : List (List Key × V)) (m : List Nat → Option Nat) : Prop where
  ks : ∀ p ∈ kvs, ∃ l n, p = (kL l, V.int ((n : Nat) : Int)) ∧ m l = some n
  all : ∀ l n, m l = some n → (kL l, V.int ((n : Nat) : Int)) ∈ kvs
  nd : (kvs.map (·.1)).Nodup
theorem Dv.nil : Dv [] (fun _ => none) := ⟨fun p h => (nomatch h), fun l n h => (nomatch h), List.nodup_nil⟩
theorem Dv.val {kvs : List (List Key × V)} {m : List Nat → Option Nat} (D : Dv kvs m) (l : List Nat) : valV kvs (kL l) = (m l).map (fun n => V.int ((n : Nat) : Int)) := by
  unfold valV
  cases e : kvs.find? fun kv => decide (kv.1 = kL l) with
  | none =>
    cases g : m l with
    | none => rfl
    | some n => exact absurd (List.find?_eq_none.mp e _ (D.all l n g)) (by simp)
  | some q =>
    have h1 := List.mem_of_find?_eq_some e
    have h2 : q.1 = kL l := by simpa using List.find?_some e
    obtain ⟨l', n, rfl, g⟩ := D.ks q h1
    have e2 : l' = l := kL_inj h2
    rw [e2] at g
    rw [g]; rfl
theorem nodup_map_keys {kvs : List (List Key × V)} {k : List Key} {v : V} : (kvs.map fun kv => if kv.1 = k then (kv.1, v) else kv).map (·.1) = kvs.map (·.1) := by
  rw [List.map_map]
  congr 1
  funext kv
  show (if kv.1 = k then (kv.1, v) else kv).1 = kv.1
  split <;> rfl
theorem Dv.put {kvs : List (List Key × V)} {m : List Nat → Option Nat} (D : Dv kvs m) (l : List Nat) (n : Nat) : Dv (putK kvs (kL l) (V.int ((n : Nat) : Int))) (fun l' => if l' = l then some n else m l') := by
  by_cases c : (kvs.any fun kv => decide (kv.1 = kL l)) = true
  · have e : putK kvs (kL l) (V.int ((n : Nat) : Int)) = kvs.map (fun kv => if kv.1 = kL l then (kv.1, V.int ((n : Nat) : Int)) else kv) := by unfold putK; rw [if_pos c]
    rw [e]
    refine ⟨fun p hp => ?_, fun l' n' h => ?_, by rw [nodup_map_keys]; exact D.nd⟩
    · obtain ⟨q, hq, rfl⟩ := List.mem_map.mp hp
      obtain ⟨l', n', rfl, g⟩ := D.ks q hq
      by_cases z : l' = l
      · subst z
        exact ⟨l', n, by rw [if_pos rfl], by rw [if_pos rfl]⟩
      · exact ⟨l', n', by rw [if_neg (fun y => z (kL_inj y))], by rw [if_neg z]; exact g⟩
    · by_cases z : l' = l
      · subst z
        rw [if_pos rfl] at h
        cases h
        obtain ⟨q, hq, hk⟩ := List.any_eq_true.mp c
        exact List.mem_map.mpr ⟨q, hq, by rw [if_pos (of_decide_eq_true hk), of_decide_eq_true hk]⟩
      · rw [if_neg z] at h
        exact List.mem_map.mpr ⟨_, D.all l' n' h, by rw [if_neg (fun y => z (kL_inj y))]⟩
  · have e : putK kvs (kL l) (V.int ((n : Nat) : Int)) = kvs ++ [(kL l, V.int ((n : Nat) : Int))] := by unfold putK; rw [if_neg c]
    have nm : m l = none := by
      cases g : m l with
      | none => rfl
      | some k => exact absurd (List.any_eq_true.mpr ⟨_, D.all l k g, decide_eq_true rfl⟩) c
    rw [e]
    refine ⟨fun p hp => ?_, fun l' n' h => ?_, ?_⟩
    · rcases List.mem_append.mp hp with y | y
      · obtain ⟨l', n', rfl, g⟩ := D.ks p y
        have z : l' ≠ l := fun z => by rw [z, nm] at g; cases g
        exact ⟨l', n', rfl, by rw [if_neg z]; exact g⟩
      · rw [List.mem_singleton.mp y]
        exact ⟨l, n, rfl, by rw [if_pos rfl]⟩
    · by_cases z : l' = l
      · subst z
        rw [if_pos rfl] at h
        cases h
        exact List.mem_append_right _ (List.mem_singleton.mpr rfl)
      · rw [if_neg z] at h
        exact List.mem_append_left _ (D.all l' n' h)
    · rw [List.map_append]
      refine List.nodup_append.mpr ⟨D.nd, by simp, fun a ha b hb => ?_⟩
      rw [List.map_cons, List.map_nil, List.mem_singleton] at hb
      intro z
      obtain ⟨q, hq, hqa⟩ := List.mem_map.mp ha
      exact c (List.any_eq_true.mpr ⟨q, hq, decide_eq_true (by rw [hqa, z, hb])⟩)
end Kf

set_option Elab.async false
set_option linter.all false
set_option maxRecDepth 100000
set_option maxHeartbeats 4000000
/-! Trees and rows, by themselves. -/
namespace Kf
open PySem PySem.Spec PyProof.Rows L2 Kg Kd
inductive Tr
  | ans (n : Nat)
  | tst (k : Nat) (y n : Tr)
namespace Tr
def d : Tr → PyData
  | .ans n => .int ((n : Nat) : Int)
  | .tst k y n => .tuple [.int ((k : Nat) : Int), y.d, n.d]
def size : Tr → Nat
  | .ans _ => 0
  | .tst _ y n => 1 + y.size + n.size
def dep : Tr → Nat
  | .ans _ => 0
  | .tst _ y n => 1 + max y.dep n.dep
def ok (m : Nat) : Tr → Prop
  | .ans a => a ≤ 9
  | .tst k y n => k < m ∧ y.ok m ∧ n.ok m
def answer (lot : List Nat) : Tr → Nat
  | .ans a => a
  | .tst k y n => if k ∈ lot then y.answer lot else n.answer lot
theorem answer_le {m : Nat} {lot : List Nat} : ∀ {t : Tr}, t.ok m → t.answer lot ≤ 9
  | .ans _, h => h
  | .tst k y n, h => by
    show (if k ∈ lot then y.answer lot else n.answer lot) ≤ 9
    split
    · exact answer_le h.2.1
    · exact answer_le h.2.2
theorem size_dep : ∀ t : Tr, t.dep ≤ t.size
  | .ans _ => Nat.le_refl _
  | .tst k y n => by
    have := size_dep y
    have := size_dep n
    show 1 + max y.dep n.dep ≤ 1 + y.size + n.size
    omega
theorem d_dep : ∀ t : Tr, t.d.depth = t.dep
  | .ans _ => rfl
  | .tst k y n => by
    show max 0 (max y.d.depth (max n.d.depth 0)) + 1 = 1 + max y.dep n.dep
    rw [d_dep y, d_dep n]; omega
theorem d_lay : ∀ t : Tr, PyData.canLay0 t.d = true
  | .ans _ => rfl
  | .tst k y n => by
    show (true && (PyData.canLay0 y.d && (PyData.canLay0 n.d && true))) = true
    rw [d_lay y, d_lay n]; rfl
theorem d_inj : ∀ {t u : Tr}, t.d = u.d → t = u
  | .ans a, .ans b, h => by
    have e : ((a : Nat) : Int) = (b : Nat) := PyData.int.inj h
    have : a = b := by omega
    rw [this]
  | .ans _, .tst _ _ _, h => nomatch h
  | .tst _ _ _, .ans _, h => nomatch h
  | .tst k y n, .tst k' y' n', h => by
    have h1 := PyData.tuple.inj h
    rw [List.cons.injEq, List.cons.injEq, List.cons.injEq] at h1
    have e : ((k : Nat) : Int) = (k' : Nat) := PyData.int.inj h1.1
    have : k = k' := by omega
    rw [this, d_inj h1.2.1, d_inj h1.2.2.1]
end Tr
abbrev Row := List (Nat × Bool) × Nat
def needD (p : Nat × Bool) : PyData := .tuple [.int ((p.1 : Nat) : Int), .bool p.2]
def rwD (r : Row) : PyData := .tuple [.tuple (r.1.map needD), .int ((r.2 : Nat) : Int)]
def rowsD (rs : List Row) : PyData := .tuple (rs.map rwD)
def holds (lot : List Nat) (needs : List (Nat × Bool)) : Bool := needs.all (fun p => decide (p.1 ∈ lot) == p.2)
def chosenR (lot : List Nat) (rs : List Row) : Option Nat := rs.findIdx? (fun r => holds lot r.1)
def answerR (lot : List Nat) (rs : List Row) : Nat := ((rs.find? (fun r => holds lot r.1)).map (·.2)).getD 0
structure RowOk (n : Nat) (r : Row) : Prop where
  few : r.1.length ≤ 3
  asc : (r.1.map (·.1)).Pairwise (· < ·)
  low : ∀ p ∈ r.1, p.1 < n
  ans : r.2 ≤ 9
structure RowsOk (n : Nat) (rs : List Row) : Prop where
  few : rs.length ≤ 6
  each : ∀ r ∈ rs, RowOk n r
inductive Ch
  | tree (t : Tr)
  | rows (rs : List Row)
namespace Ch
def d : Ch → PyData
  | .tree t => t.d
  | .rows rs => rowsD rs
def ok (n : Nat) : Ch → Prop
  | .tree t => t.ok n ∧ t.size ≤ 12
  | .rows rs => RowsOk n rs
def answer (lot : List Nat) : Ch → Nat
  | .tree t => t.answer lot
  | .rows rs => answerR lot rs
theorem answer_le {n : Nat} {lot : List Nat} {c : Ch} (h : c.ok n) : c.answer lot ≤ 9 := by
  cases c with
  | tree t => exact Tr.answer_le h.1
  | rows rs =>
    show ((rs.find? (fun r => holds lot r.1)).map (·.2)).getD 0 ≤ 9
    cases e : rs.find? (fun r => holds lot r.1) with
    | none => exact Nat.zero_le _
    | some r => exact (h.each r (List.mem_of_find?_eq_some e)).ans
end Ch
theorem tu_need {H : Hp} {v : V} {p : Nat × Bool} (h : Tu H v (needD p)) : ∃ a, v = .ref a ∧ H a = some (.tup [.int ((p.1 : Nat) : Int), .bl p.2]) := by
  unfold needD at h
  cases h with
  | @tup a xs _ h1 h2 h3 =>
    cases h3 with
    | cons k1 k2 =>
      cases k2 with
      | cons k3 k4 =>
        cases k4
        cases k1
        cases k3
        exact ⟨a, rfl, h1⟩
theorem tu_row {H : Hp} {v : V} {r : Row} (h : Tu H v (rwD r)) : ∃ a b xs, v = .ref a ∧ H a = some (.tup [.ref b, .int ((r.2 : Nat) : Int)]) ∧ H b = some (.tup xs) ∧ TuAll H xs (r.1.map needD) ∧ xs.length = r.1.length := by
  unfold rwD at h
  cases h with
  | @tup a ys _ h1 h2 h3 =>
    cases h3 with
    | cons k1 k2 =>
      cases k2 with
      | cons k3 k4 =>
        cases k4
        cases k3
        cases k1 with
        | @tup b xs _ g1 g2 g3 => exact ⟨a, b, xs, rfl, h1, g1, g3, by rw [g3.length, List.length_map]⟩
theorem tu_rows {H : Hp} {v : V} {rs : List Row} (h : Tu H v (rowsD rs)) : ∃ a xs, v = .ref a ∧ H a = some (.tup xs) ∧ TuAll H xs (rs.map rwD) ∧ xs.length = rs.length := by
  unfold rowsD at h
  cases h with
  | @tup a xs _ h1 h2 h3 => exact ⟨a, xs, rfl, h1, h3, by rw [h3.length, List.length_map]⟩
theorem tu_ans {H : Hp} {v : V} {n : Nat} (h : Tu H v (Tr.ans n).d) : v = .int ((n : Nat) : Int) := by
  have h' : Tu H v (.int ((n : Nat) : Int)) := h
  cases h'
  rfl
theorem tu_tst {H : Hp} {v : V} {k : Nat} {y n : Tr} (h : Tu H v (Tr.tst k y n).d) : ∃ a v1 v2, v = .ref a ∧ H a = some (.tup [.int ((k : Nat) : Int), v1, v2]) ∧ Tu H v1 y.d ∧ Tu H v2 n.d := by
  have h' : Tu H v (.tuple [.int ((k : Nat) : Int), y.d, n.d]) := h
  cases h' with
  | @tup a xs _ h1 h2 h3 =>
    cases h3 with
    | cons k1 k2 =>
      cases k2 with
      | cons k3 k4 =>
        cases k4 with
        | cons k5 k6 =>
          cases k6
          cases k1
          exact ⟨a, _, _, rfl, h1, k3, k5⟩
end Kf

set_option Elab.async false
set_option linter.all false
set_option maxRecDepth 100000
set_option maxHeartbeats 4000000
/-! Trees and rows among all data. -/
namespace Kf
open PySem PySem.Spec PyProof.Rows L2 Kg Kd
/-- how many triples a tree has, -1 for no tree -/
def sizeD (m : Int) : PyData → Int
  | .int i => if 0 ≤ i ∧ i ≤ 9 then 0 else -1
  | .tuple [.int k, y, n] => if 0 ≤ k ∧ k < m then (if 0 ≤ sizeD m y ∧ 0 ≤ sizeD m n then 1 + sizeD m y + sizeD m n else -1) else -1
  | _ => -1
theorem sizeD_int (m i : Int) : sizeD m (.int i) = if 0 ≤ i ∧ i ≤ 9 then 0 else -1 := by rw [sizeD]
theorem sizeD_tri (m k : Int) (y n : PyData) : sizeD m (.tuple [.int k, y, n]) = if 0 ≤ k ∧ k < m then (if 0 ≤ sizeD m y ∧ 0 ≤ sizeD m n then 1 + sizeD m y + sizeD m n else -1) else -1 := by rw [sizeD]
theorem sizeD_len {m : Int} : ∀ {ds : List PyData}, ds.length ≠ 3 → sizeD m (.tuple ds) = -1
  | [], _ => by rw [sizeD]; all_goals simp
  | [_], _ => by rw [sizeD]; all_goals simp
  | [_, _], _ => by rw [sizeD]; all_goals simp
  | [_, _, _], h => absurd rfl h
  | _ :: _ :: _ :: _ :: _, _ => by rw [sizeD]; all_goals simp
theorem sizeD_tree {m : Nat} : ∀ {t : Tr}, t.ok m → sizeD m t.d = ((t.size : Nat) : Int)
  | .ans a, h => by
    have h9 : a ≤ 9 := h
    show sizeD m (.int ((a : Nat) : Int)) = 0
    rw [sizeD_int, if_pos (by omega)]
  | .tst k y n, h => by
    obtain ⟨h1, h2, h3⟩ := h
    show sizeD m (.tuple [.int ((k : Nat) : Int), y.d, n.d]) = ((1 + y.size + n.size : Nat) : Int)
    rw [sizeD_tri, sizeD_tree h2, sizeD_tree h3, if_pos (by omega), if_pos (by omega)]
    omega
theorem tree_of_size {m : Nat} (d : PyData) (h : 0 ≤ sizeD m d) : ∃ t : Tr, t.d = d ∧ t.ok m ∧ sizeD m d = ((t.size : Nat) : Int) := by
  match d with
  | .int i =>
    rw [sizeD_int] at h ⊢
    by_cases c : 0 ≤ i ∧ i ≤ 9
    · rw [if_pos c]
      refine ⟨.ans i.toNat, ?_, (by show i.toNat ≤ 9; omega), rfl⟩
      show PyData.int ((i.toNat : Nat) : Int) = .int i
      rw [show ((i.toNat : Nat) : Int) = i by omega]
    · rw [if_neg c] at h; omega
  | .tuple [.int k, y, n] =>
    rw [sizeD_tri] at h ⊢
    by_cases c : 0 ≤ k ∧ k < (m : Nat)
    · rw [if_pos c] at h ⊢
      by_cases c2 : 0 ≤ sizeD m y ∧ 0 ≤ sizeD m n
      · rw [if_pos c2] at h ⊢
        obtain ⟨t1, e1, o1, s1⟩ := tree_of_size y c2.1
        obtain ⟨t2, e2, o2, s2⟩ := tree_of_size n c2.2
        refine ⟨.tst k.toNat t1 t2, ?_, ⟨by omega, o1, o2⟩, ?_⟩
        · show PyData.tuple [.int ((k.toNat : Nat) : Int), t1.d, t2.d] = _
          rw [show ((k.toNat : Nat) : Int) = k by omega, e1, e2]
        · show _ = ((1 + t1.size + t2.size : Nat) : Int)
          rw [s1, s2]; omega
      · rw [if_neg c2] at h; omega
    · rw [if_neg c] at h; omega
  | .none => unfold sizeD at h; omega
  | .bool _ => unfold sizeD at h; omega
  | .str _ => unfold sizeD at h; omega
  | .list _ => unfold sizeD at h; omega
  | .dict _ => unfold sizeD at h; omega
  | .tuple [] => unfold sizeD at h; omega
  | .tuple [_] => rw [sizeD_len (by simp)] at h; omega
  | .tuple [_, _] => rw [sizeD_len (by simp)] at h; omega
  | .tuple (_ :: _ :: _ :: _ :: _) => rw [sizeD_len (by simp)] at h; omega
  | .tuple [.none, _, _] => unfold sizeD at h; omega
  | .tuple [.bool _, _, _] => unfold sizeD at h; omega
  | .tuple [.str _, _, _] => unfold sizeD at h; omega
  | .tuple [.list _, _, _] => unfold sizeD at h; omega
  | .tuple [.tuple _, _, _] => unfold sizeD at h; omega
  | .tuple [.dict _, _, _] => unfold sizeD at h; omega
theorem sizeD_non {m : Int} : ∀ {d : PyData}, (isInt d && !isBool d) = false → isTup d = false → sizeD m d = -1
  | .int i, h, _ => nomatch h
  | .tuple _, _, h => nomatch h
  | .none, _, _ => by rw [sizeD]; all_goals simp
  | .bool _, _, _ => by rw [sizeD]; all_goals simp
  | .str _, _, _ => by rw [sizeD]; all_goals simp
  | .list _, _, _ => by rw [sizeD]; all_goals simp
  | .dict _, _, _ => by rw [sizeD]; all_goals simp
theorem sizeD_first {m : Int} {y n : PyData} : ∀ {d : PyData}, (isInt d && !isBool d) = false → sizeD m (.tuple [d, y, n]) = -1
  | .int i, h => nomatch h
  | .tuple _, _ => by rw [sizeD]; all_goals simp
  | .none, _ => by rw [sizeD]; all_goals simp
  | .bool _, _ => by rw [sizeD]; all_goals simp
  | .str _, _ => by rw [sizeD]; all_goals simp
  | .list _, _ => by rw [sizeD]; all_goals simp
  | .dict _, _ => by rw [sizeD]; all_goals simp
end Kf

set_option Elab.async false
set_option linter.all false
set_option maxRecDepth 100000
set_option maxHeartbeats 4000000
namespace Kc
open PySem PySem.Spec PyProof.Rows L2 Kg Kd Kr Kf
/-! ### x is not False, whatever x is -/
theorem op_notBv {X : Cx} : OpR X (compareOp .IsNot) (fun x y H Q => ∃ b : Bool, y = .bl b ∧ Q (.bl (!decide (x = .bl b))) H) := by
  intro pins s σ H x y v u Q I rx ry h
  obtain ⟨b, rfl, q⟩ := h
  cases (show u = Value.bool b from ry)
  cases x with
  | bl a =>
    cases (show v = Value.bool a from rx)
    by_cases e : a = b
    · subst e
      exact wpAny_isNot_self rfl ⟨.bl false, H, I, rfl, by simpa using q⟩
    · exact wpAny_isNot_other rfl (fun z => e (Value.bool.inj z)) ⟨.bl true, H, I, rfl, by simpa [e] using q⟩
  | non => cases (show v = Value.none from rx); exact wpAny_isNot_other rfl (fun z => nomatch z) ⟨.bl true, H, I, rfl, by simpa using q⟩
  | int i => obtain ⟨t, rfl⟩ := rx; exact wpAny_isNot_other rfl (fun z => nomatch z) ⟨.bl true, H, I, rfl, by simpa using q⟩
  | str i => obtain ⟨t, rfl⟩ := rx; exact wpAny_isNot_other rfl (fun z => nomatch z) ⟨.bl true, H, I, rfl, by simpa using q⟩
  | byt i => obtain ⟨t, rfl⟩ := rx; exact wpAny_isNot_other rfl (fun z => nomatch z) ⟨.bl true, H, I, rfl, by simpa using q⟩
  | flt i => obtain ⟨t, rfl⟩ := rx; exact wpAny_isNot_other rfl (fun z => nomatch z) ⟨.bl true, H, I, rfl, by simpa using q⟩
  | ref a => cases (show v = Value.ref a from rx); exact wpAny_isNot_other rfl (fun z => nomatch z) ⟨.bl true, H, I, rfl, by simpa using q⟩
  | ty n => cases (show v = Value.type n from rx); exact wpAny_isNot_other rfl (fun z => nomatch z) ⟨.bl true, H, I, rfl, by simpa using q⟩
theorem op_isBv {X : Cx} : OpR X (compareOp .Is) (fun x y H Q => ∃ b : Bool, y = .bl b ∧ Q (.bl (decide (x = .bl b))) H) := by
  intro pins s σ H x y v u Q I rx ry h
  obtain ⟨b, rfl, q⟩ := h
  cases (show u = Value.bool b from ry)
  cases x with
  | bl a =>
    cases (show v = Value.bool a from rx)
    by_cases e : a = b
    · subst e
      exact wpAny_is_self rfl ⟨.bl true, H, I, rfl, by simpa using q⟩
    · exact wpAny_is_other rfl (fun z => e (Value.bool.inj z)) ⟨.bl false, H, I, rfl, by simpa [e] using q⟩
  | non => cases (show v = Value.none from rx); exact wpAny_is_other rfl (fun z => nomatch z) ⟨.bl false, H, I, rfl, by simpa using q⟩
  | int i => obtain ⟨t, rfl⟩ := rx; exact wpAny_is_other rfl (fun z => nomatch z) ⟨.bl false, H, I, rfl, by simpa using q⟩
  | str i => obtain ⟨t, rfl⟩ := rx; exact wpAny_is_other rfl (fun z => nomatch z) ⟨.bl false, H, I, rfl, by simpa using q⟩
  | byt i => obtain ⟨t, rfl⟩ := rx; exact wpAny_is_other rfl (fun z => nomatch z) ⟨.bl false, H, I, rfl, by simpa using q⟩
  | flt i => obtain ⟨t, rfl⟩ := rx; exact wpAny_is_other rfl (fun z => nomatch z) ⟨.bl false, H, I, rfl, by simpa using q⟩
  | ref a => cases (show v = Value.ref a from rx); exact wpAny_is_other rfl (fun z => nomatch z) ⟨.bl false, H, I, rfl, by simpa using q⟩
  | ty n => cases (show v = Value.type n from rx); exact wpAny_is_other rfl (fun z => nomatch z) ⟨.bl false, H, I, rfl, by simpa using q⟩
theorem iteD {c : Bool} {A B : Prop} (h : c = true) (a : A) : if c = true then A else B := by rw [if_pos h]; exact a
theorem iteE {c : Bool} {A B : Prop} (h : c = false) (b : B) : if c = true then A else B := by rw [h, if_neg Bool.false_ne_true]; exact b
def isNum (d : PyData) : Bool := isInt d && !isBool d
def spNum : Sp := fun vs H Q _ => ∃ (v : V) (d : PyData), vs = [v] ∧ Da Kd.nil H v d ∧ Q (.bl (isNum d)) H
theorem num_int : ∀ {d : PyData}, isNum d = true → ∃ i, d = .int i
  | .int i, _ => ⟨i, rfl⟩
  | .none, h => nomatch h
  | .bool _, h => nomatch h
  | .str _, h => nomatch h
  | .list _, h => nomatch h
  | .tuple _, h => nomatch h
  | .dict _, h => nomatch h
theorem tup_is : ∀ {d : PyData}, isTup d = true → ∃ ds, d = .tuple ds
  | .tuple ds, _ => ⟨ds, rfl⟩
  | .int _, h => nomatch h
  | .none, h => nomatch h
  | .bool _, h => nomatch h
  | .str _, h => nomatch h
  | .list _, h => nomatch h
  | .dict _, h => nomatch h
theorem da_int {av : Addr → Prop} {H : Hp} {v : V} {i : Int} (h : Da av H v (.int i)) : v = .int i := by cases h; rfl
theorem da_tup {av : Addr → Prop} {H : Hp} {v : V} {ds : List PyData} (h : Da av H v (.tuple ds)) : ∃ a xs, v = .ref a ∧ H a = some (.tup xs) ∧ xs.length = ds.length ∧ DaAll av H xs ds ∧ ¬ av a ∧ xs.length ≤ 1000 := by
  cases h with
  | @tup a xs _ na ha hal hA => exact ⟨a, xs, rfl, ha, hA.length, hA, na, hal⟩
theorem da_tst {av : Addr → Prop} {H : Hp} {v : V} {k : Nat} {y n : Tr} (h : Da av H v (Tr.tst k y n).d) : ∃ a v1 v2, v = .ref a ∧ H a = some (.tup [.int ((k : Nat) : Int), v1, v2]) ∧ Da av H v1 y.d ∧ Da av H v2 n.d := by
  obtain ⟨a, xs, rfl, ha, xl, hA, _, _⟩ := da_tup (show Da av H v (.tuple [.int ((k : Nat) : Int), y.d, n.d]) from h)
  match xs, hA with
  | [v0, v1, v2], .cons h0 (.cons h1 (.cons h2 .nil)) =>
    have e := da_int h0
    subst e
    exact ⟨a, v1, v2, rfl, ha, h1, h2⟩
theorem da_two {av : Addr → Prop} {H : Hp} {v : V} {ds : List PyData} (h : Da av H v (.tuple ds)) (l : ds.length = 2) : ∃ a d0 d1 v0 v1, ds = [d0, d1] ∧ v = .ref a ∧ H a = some (.tup [v0, v1]) ∧ Da av H v0 d0 ∧ Da av H v1 d1 := by
  obtain ⟨a, xs, rfl, ha, xl, hA, _, _⟩ := da_tup h
  match ds, l, hA with
  | [d0, d1], _, .cons (v := v0) h0 (.cons (v := v1) h1 .nil) => exact ⟨a, d0, d1, v0, v1, rfl, rfl, ha, h0, h1⟩
structure Bm (mg : Str → Option Value) : Prop where
  set : mg "set" = none
  sorted : mg "sorted" = none
  enum : mg "enumerate" = none
def lotsT (es : List (List Nat)) : List (List Nat) := (List.range es.length).map (lot es)
theorem get_map {α β : Type} {f : α → β} {l : List α} {i : Nat} {x : α} (h : l[i]? = some x) : (l.map f)[i]? = some (f x) := by rw [List.getElem?_map, h]; rfl
/-- the four parts in a list at l -/
structure Fo (H : Hp) (l : Addr) (es : List (List Nat)) (cl ho : List Nat) (sv : Bool) : Prop where
  ex : ∃ e c h, H l = some (.lst [e, c, h, .bl sv]) ∧ Tu H e (pdE es) ∧ Tu H c (pdI cl) ∧ Tu H h (pdI ho)
  el : Eld es sv
  cl : Som es.length cl
  ho : Som es.length ho
theorem Fo.keep {H H' : Hp} {l : Addr} {es : List (List Nat)} {cl ho : List Nat} {sv : Bool} (k : Fo H l es cl ho sv) (f : KF H H') (z : ∀ xs, H l = some (.lst xs) → H' l = some (.lst xs)) : Fo H' l es cl ho sv := by
  obtain ⟨⟨e, c, h, h1, h2, h3, h4⟩, h6, h7, h8⟩ := k
  exact ⟨⟨e, c, h, z _ h1, h2.keep f, h3.keep f, h4.keep f⟩, h6, h7, h8⟩
theorem Fo.same {H H' : Hp} {l : Addr} {es : List (List Nat)} {cl ho : List Nat} {sv : Bool} (k : Fo H l es cl ho sv) (s : Same H H') : Fo H' l es cl ho sv := k.keep (.of_same s) fun _ z => s _ _ z
section
variable {P : Program} {w : World} {K : PySem.W.Frag} {mg : Str → Option Value} {base : Heap} {f : Addr} {fd : FuncData} {k : Nat}
end
end Kc

set_option Elab.async false
set_option linter.all false
set_option maxRecDepth 100000
set_option maxHeartbeats 4000000
/-! Own __len__, __eq__, __str__ of an instance. -/
namespace Ko
open PySem PySem.Spec PyProof.Rows L2 Kg Kd
section
variable {X : Cx} {pins : List (Addr × Obj)} {σ : L2.St} {H : Hp} {s : Shared} {g C : Addr} {fd : FuncData} {ps : List Str} {sp : Sp} {n : Nat}
theorem run_atK {A : Around} {Q : VK} {us : List Value} {ws : List V} (F : FnOk X.prog X.w X.K X.mg X.base CX0 n g fd ps sp) (hr : Room n A) (e0 : Env0 X.prog X.w X.K X.mg X.base A X.stack s H) (hb : Binds X.K fd ps []) (I : Inv X pins σ H s) (r : Vals ws us) (h : sp ws H Q E0) :
    codeAny (model X.prog X.w) A (.call (.ref g) ⟨us, []⟩) (fun r s' => match r with | .ok (.ret v) => EP X pins σ Q v s' | .ok _ => False | .error e => X.xe e s') s := by
  have hl : us.length = ps.length := r.length.symm.trans (F.len _ _ _ _ h)
  have bi := hb s us I.kIn (by rw [List.append_nil]; exact hl)
  rw [List.append_nil] at bi
  refine codeAny_mono (F.run A X.stack s H ⟨us, []⟩ us ws Q E0 hr e0 bi r h) fun r s' hq => ?_
  cases r with
  | error e => exact hq.elim
  | ok fl =>
    cases fl with
    | ret u => exact I.after hq
    | next => exact False.elim hq
    | brk => exact False.elim hq
    | cont => exact False.elim hq
theorem inst_ins {a dx : Addr} {fs : List (Str × V)} (I : Inv X pins σ H s) (e : H a = some (.ins C dx fs)) : ∃ od, PySem.W.InstAt s.heap a (PySem.W.instObj C dx) C (some od) := by
  obtain ⟨_, _, _, ho, mA, hn, _⟩ := (show ObjOk X.prog X.w H s.heap a (.ins C dx fs) from I.hok a _ e)
  obtain ⟨od, hd, _⟩ := lookIn_ns hn
  exact ⟨od, ho, rfl, rfl, hd⟩
/-- len(o), o an instance whose class has its own __len__ -/
def rLenO (C : Addr) (sp : Sp) : List V → Hp → VK → Prop := fun xs H Q => ∃ a dx fs, xs = [V.ref a] ∧ H a = some (.ins C dx fs) ∧ sp [.ref a] H (fun z H' => ∃ i : Int, z = .int i ∧ 0 ≤ i ∧ i < 2 ^ 62 ∧ Q (.int i) H') E0
theorem call_lenO (hs : PySem.W.findIn X.K (.ref C) "__len__" = some (some (.ref g))) (hf : PySem.W.isFn X.K (.ref g) = true) (F : FnOk X.prog X.w X.K X.mg X.base CX0 n g fd ps sp) (hr : Room (n + 1) X.A) (hb : Binds X.K fd ps []) : CallR X (.builtin "len") (rLenO C sp) := by
  intro pins s σ H xs us Q I r h
  obtain ⟨a, dx, fs, rfl, ha, q⟩ := h
  obtain ⟨u, rfl, ru⟩ := r.one
  cases (show u = Value.ref a from ru)
  obtain ⟨od, J⟩ := inst_ins I ha
  refine Calls.call_function_entry kind_len plain_len entry_len (args_len1 _) ?_
  unfold Builtin.«len»
  refine wpAny_bind (m := oneArg "len" _) (wpAny_pure ?_)
  refine wpAny_bind (m := callSpecial? (.ref a) (PySem.Str.ofString "__len__")) (PySem.W.special_fn I.kIn J hs (beq_iff_eq.mp hf) (wpAny_mono (wpAny_call (run_atK (us := [.ref a]) (ws := [.ref a]) F (Room.in1 hr) I.env0.in1 hb I (.cons rfl .nil) q)) (fun w s' z => ?_) fun _ _ x => x))
  obtain ⟨z', H', I', rz, i, ei, i0, i1, qz⟩ := z
  subst ei
  obtain ⟨t, e⟩ := (show ∃ t, w = Value.int i t from rz)
  cases e
  refine wpAny_bind (wpAny_holding (wpAny_pure ?_))
  refine wpAny_bind (wpAny_letGo ?_)
  show wpAny _ _ (if i < 0 then _ else _) _ _ _
  rw [if_neg (by omega)]
  show wpAny _ _ (if i ≥ 2 ^ 63 then _ else _) _ _ _
  rw [if_neg (by omega)]
  exact wpAny_bind (wpAny_mkInt (wpAny_pure ⟨_, rfl, .int i, H', I'.tok _, ⟨_, rfl⟩, qz⟩))
/-- o == y by the own __eq__ -/
def rEqO (K : PySem.W.Frag) (C : Addr) (sp : Sp) : R2 := fun x y H Q => ∃ a dx fs tb, x = .ref a ∧ H a = some (.ins C dx fs) ∧ TyX K H y tb ∧ PySem.W.notFirst K C tb = true ∧ sp [x, y] H Q E0
theorem op_eqO (hs : PySem.W.findIn X.K (.ref C) "__eq__" = some (some (.ref g))) (hf : PySem.W.isFn X.K (.ref g) = true) (F : FnOk X.prog X.w X.K X.mg X.base CX0 n g fd ps sp) (hr : Room n X.A) (hb : Binds X.K fd ps []) : OpR X (compareOp .Eq) (rEqO X.K C sp) := by
  intro pins s σ H x y v u Q I rx ry h
  obtain ⟨a, dx, fs, tb, rfl, ha, ty, hn, q⟩ := h
  cases (show v = Value.ref a from rx)
  obtain ⟨od, J⟩ := inst_ins I ha
  obtain ⟨Pk, kx, hp, _⟩ := kit_of I ry ty
  obtain ⟨m, hF⟩ := I.fr
  show wpAny _ _ (richCompare .Eq (.ref a) u) _ _ _
  refine PySem.W.cmp_K (op := .Eq) (tb := tb) hr.units0 hF I.ok.mod.kin J (kx.ty _ _ I.kIn hp) hn hs hf ?_
  refine wpAny_mono (wpAny_call (run_atK (us := [.ref a, u]) (ws := [.ref a, y]) F hr I.env0 hb I (.cons rfl (.cons ry .nil)) q)) (fun w s' z => ?_) fun _ _ x => x
  obtain ⟨z', H', I', rz, qz⟩ := z
  exact SlX.cmpback rz ⟨z', H', I', rz, qz⟩
/-- callSpecialIfBound? where the class has the builtin's -/
theorem ifBoundB {A : Around} {E : Value → Shared → Prop} {M : Model} {K : PySem.W.Frag} {a : Addr} {ox : Obj} {od : Option Obj} {name : Str} {T id : String} {args : List Value} {Q : Option Value → Shared → Prop} (S : Slot T name id) (Y : K.In s.heap) (J : PySem.W.InstAt s.heap a ox C od) (hs : PySem.W.findIn K (.ref C) name = some (some (.builtin id)))
    (h : wpAny M A (call (.builtin id) (.ref a :: args)) (fun v => Q (some v)) E s) : wpAny M A (callSpecialIfBound? (.ref a) name args) Q E s := by
  simp only [callSpecialIfBound?, bindSpecialIfBound?]
  refine wpAny_holding (wpAny_bind (wpAny_bind (wpAny_bind (J.type.here ((PySem.W.looks_findIn Y hs).here ?_)))))
  refine wpAny_bind (wpAny_askSetting (wpAny_ite ?_))
  have fin : wpAny M A (call (.builtin id) ([.ref a] ++ args) >>= fun v => pure (some v)) Q E s := wpAny_bind (wpAny_mono h (fun v s' h' => wpAny_pure h') fun _ _ h' => h')
  split
  · rw [S.bind]
    exact wpAny_bind (wpAny_pure (wpAny_pure (by exact fin)))
  · refine wpAny_tryCatch ?_
    rw [S.bind]
    exact wpAny_bind (wpAny_pure (wpAny_pure (by exact fin)))
/-- o != y by the own __eq__ -/
def rNeO (K : PySem.W.Frag) (C : Addr) (sp : Sp) : R2 := fun x y H Q => ∃ a dx fs tb, x = .ref a ∧ H a = some (.ins C dx fs) ∧ TyX K H y tb ∧ PySem.W.notFirst K C tb = true ∧ sp [x, y] H (fun z H' => ∃ b, z = .bl b ∧ Q (.bl (!b)) H') E0
theorem op_neO (hs : PySem.W.findIn X.K (.ref C) "__eq__" = some (some (.ref g))) (hf : PySem.W.isFn X.K (.ref g) = true) (hne : PySem.W.findIn X.K (.ref C) "__ne__" = some (some (.builtin "object.__ne__"))) (hob : PySem.W.subIn X.K (.ref C) (.type "object") = some true)
    (F : FnOk X.prog X.w X.K X.mg X.base CX0 n g fd ps sp) (hr : Room (n + 1) X.A) (hb : Binds X.K fd ps []) : OpR X (compareOp .NotEq) (rNeO X.K C sp) := by
  intro pins s σ H x y v u Q I rx ry h
  obtain ⟨a, dx, fs, tb, rfl, ha, ty, hn, q⟩ := h
  cases (show v = Value.ref a from rx)
  obtain ⟨od, J⟩ := inst_ins I ha
  obtain ⟨Pk, kx, hp, _⟩ := kit_of I ry ty
  have hu1 : X.A.in1.units < cLine := (Room.in1 hr).units0
  have one : wpAny (model X.prog X.w) X.A (tryCompare (.ref a) "__ne__" u) (fun r s' => ∃ v, r = some v ∧ EP X pins σ Q v s') X.xe s := by
    unfold tryCompare
    refine wpAny_bind (ifBoundB PySem.F.cmp_object.ne I.kIn J hne (wpAny_call (codeAny_call_builtin PySem.F.cmp_object.ne.plain PySem.F.cmpEntry_ne (PySem.W.check_slot PySem.F.cmpKind_ne PySem.F.cmpSplit_ne (J.type.andThen (PySem.W.looks_subIn I.kIn hob)) (PySem.F.cmpArgs_ne _ _) ?_))))
    unfold Builtin.«object.__ne__»
    repeat (first
      | with_reducible refine wpAny_cRoomFor hu1 ?_
      | (refine wpAny_bind (m := callSpecialIfBound? (.ref a) (Str.ofString "__eq__") [u])
          (PySem.W.ifBound_K I.kIn J hs hf (wpAny_mono (wpAny_call (run_atK (us := [.ref a, u]) (ws := [.ref a, y]) F (Room.in1 hr) I.env0.in1 hb I (.cons rfl (.cons ry .nil)) q)) (fun r s' hr' => by
            obtain ⟨z', H', I', rz, b, eb, qz⟩ := hr'
            subst eb
            cases (show r = Value.bool b from rz)
            repeat (first | exact ⟨.bool (!b), rfl, ⟨.bl (!b), H', I', rfl, qz⟩⟩ | exact wpAny_pure ⟨.bool (!b), rfl, ⟨.bl (!b), H', I', rfl, qz⟩⟩ | (refine wpAny_bind (m := truthy (.bool _)) (wpAny_truthy_bool ?_)) | wp_step)) fun _ _ e => e)))
      | wp_step)
  show wpAny _ _ (richCompare .NotEq (.ref a) u) _ _ _
  unfold richCompare
  simp only [oneThing_ref]
  refine wpAny_holding (wpAny_bind (wpAny_cRoomFor hr.units0 ?_))
  refine wpAny_bind (J.type.here (wpAny_bind ((kx.ty _ _ I.kIn hp).here ?_)))
  split
  · rename_i q
    have e : PySem.W.subIn X.K tb (.ref C) = some false := by
      rcases Bool.or_eq_true_iff.mp hn with e | e
      · rw [beq_iff_eq.mp e] at q; simp at q
      · exact beq_iff_eq.mp e
    refine wpAny_bind ((PySem.W.looks_subIn I.kIn e).here ?_)
    simp only [Bool.false_eq_true, if_false]
    refine wpAny_bind (wpAny_mono one (fun r s' z => ?_) fun _ _ e => e)
    obtain ⟨v, rfl, hq⟩ := z
    exact wpAny_pure hq
  · refine wpAny_bind (wpAny_pure ?_)
    simp only [Bool.false_eq_true, if_false]
    refine wpAny_bind (wpAny_mono one (fun r s' z => ?_) fun _ _ e => e)
    obtain ⟨v, rfl, hq⟩ := z
    exact wpAny_pure hq
/-- str(o) by the own __str__ -/
theorem str_own {A : Around} {E : Value → Shared → Prop} {prog : Program} {w : World} {K : PySem.W.Frag} {x f : Addr} {ox : Obj} {odd : Option Obj} {Q : Value → Shared → Prop} (Y : K.In s.heap) (J : PySem.W.InstAt s.heap x ox C odd) (hs : PySem.W.findIn K (.ref C) "__str__" = some (some (.ref f))) (hf : PySem.W.isFn K (.ref f) = true) (hu : A.in1.in1.units < cLine)
    (h : wpAny (model prog w) A.in1.in1 (call (.ref f) [.ref x]) (fun r s₁ => ∃ n u, r = Value.str n u ∧ Q r s₁) E s) : wpAny (model prog w) A (call (.type "str") [.ref x]) Q E s := by
  refine callType_codes (T := "str") (Bi := Builtin.«object.__init__») (Q₁ := fun r s₁ => ∃ n u, r = Value.str n u ∧ Q r s₁) PySem.F.called_str (PySem.F.typeCall_str_1 _) PySem.F.entry_object_init ?_ ?_
  · refine codeAny_of_tree ?_
    show wpAny _ A.in1.in1 (do checkBuiltinCall "str.__new__" ⟨[.type "str", .ref x], []⟩; again (.builtin "str.__new__" ⟨[.type "str", .ref x], []⟩)) _ _ s
    refine wpAny_bind (wpAny_of_eq (PySem.F.newCall_str_1 _) (wpAny_pure ⟨plainId_quiet (by decide +kernel) _, codeAny_builtin PySem.F.entry_str_new ?_⟩))
    rw [Around.under_plainId (by decide +kernel) _]
    rw [str_new_tree (.ref x)]
    refine wpAny_bind (wpAny_pure ?_)
    refine wpAny_bind (wpAny_of_eq isSubtype_str_str ?_)
    refine wpAny_bind ?_
    unfold Builtin.Str.strOf
    rw [if_neg (show ¬ Builtin.Str.isExactStr (Value.ref x) = true from Bool.false_ne_true)]
    refine wpAny_bind (wpAny_cRoomFor hu ?_)
    refine wpAny_bind (m := callSpecial? (.ref x) (Str.ofString "__str__")) (PySem.W.special_fn Y J hs (beq_iff_eq.mp hf) (wpAny_mono h (fun r s₁ hr => ?_) fun _ _ y => y))
    obtain ⟨n, u, rfl, hq⟩ := hr
    refine wpAny_bind (m := asStr? _) (wpAny_pure ?_)
    exact wpAny_pure (wpAny_pure ⟨n, u, rfl, hq⟩)
  · rintro obj s₁ ⟨n, u, rfl, hq⟩
    exact ⟨typeIs_str _ _ _, PySem.F.args_object_init_2 _ _, object_init_meets PySem.F.called_str.init.lookup PySem.F.called_str.made (by decide) prog w A.in1 _ s₁ ⟨typeIs_str _ _ _, rfl, hq⟩⟩
def rStrO (C : Addr) (sp : Sp) : List V → Hp → VK → Prop := fun xs H Q => ∃ a dx fs, xs = [V.ref a] ∧ H a = some (.ins C dx fs) ∧ sp [.ref a] H (fun z H' => ∃ x : Str, z = .str x ∧ Q (.str x) H') E0
theorem call_strO (hs : PySem.W.findIn X.K (.ref C) "__str__" = some (some (.ref g))) (hf : PySem.W.isFn X.K (.ref g) = true) (F : FnOk X.prog X.w X.K X.mg X.base CX0 n g fd ps sp) (hr : Room (n + 2) X.A) (hb : Binds X.K fd ps []) : CallR X (.type "str") (rStrO C sp) := by
  intro pins s σ H xs us Q I r h
  obtain ⟨a, dx, fs, rfl, ha, q⟩ := h
  obtain ⟨u, rfl, ru⟩ := r.one
  cases (show u = Value.ref a from ru)
  obtain ⟨od, J⟩ := inst_ins I ha
  have hr2 : Room n X.A.in1.in1 := (show Room (n + 1) X.A.in1 from Room.in1 hr).in1
  refine str_own I.kIn J hs hf hr2.units0 (wpAny_mono (wpAny_call (run_atK (us := [.ref a]) (ws := [.ref a]) F hr2 I.env0.in1.in1 hb I (.cons rfl .nil) q)) (fun w s' z => ?_) fun _ _ x => x)
  obtain ⟨z', H', I', rz, i, ei, qz⟩ := z
  subst ei
  obtain ⟨t, e⟩ := (show ∃ t, w = Value.str i t from rz)
  cases e
  exact ⟨i, t, rfl, .str i, H', I', ⟨t, rfl⟩, qz⟩
end
end Ko

set_option Elab.async false
set_option linter.all false
set_option maxRecDepth 100000
set_option maxHeartbeats 4000000
/-! Defs, methods, properties of the program with their promises, each as one fact. -/
namespace Kl
open PySem PySem.Spec PyProof.Rows L2 Kg Kd
section
variable (P : Program) (w : World) (K : PySem.W.Frag) (mg : Str → Option Value) (base : Heap)
/-- a def of the module -/
structure Cal (nm : Str) (lv : Nat) (ps : List Str) (sp : Sp) : Prop where
  ex : ∃ f fd, mg nm = some (.ref f) ∧ PySem.W.keepIn K (.ref f) = true ∧ Binds K fd ps [] ∧ FnOk P w K mg base CX0 lv f fd ps sp
/-- a def that is promised where no repr runs -/
structure CalG (nm : Str) (lv : Nat) (ps : List Str) (sp : Sp) : Prop where
  ex : ∃ f fd, mg nm = some (.ref f) ∧ PySem.W.keepIn K (.ref f) = true ∧ Binds K fd ps [] ∧ FnG P w K mg base lv f fd ps sp
/-- a method of the class at C -/
structure MCal (C : Addr) (m : Str) (lv : Nat) (ps : List Str) (sp : Sp) : Prop where
  ex : ∃ f fd, Meth K C m f ∧ Binds K fd ps [] ∧ FnOk P w K mg base CX0 lv f fd ps sp
/-- a property of the class at C -/
structure PCal (C : Addr) (m : Str) (lv : Nat) (sp : Sp) : Prop where
  ex : ∃ p g fd, PropOf K C m p g ∧ Binds K fd ["self"] [] ∧ FnOk P w K mg base CX0 lv g fd ["self"] sp
/-- a special method of the class at C -/
structure SCal (C : Addr) (m : Str) (lv : Nat) (ps : List Str) (sp : Sp) : Prop where
  ex : ∃ g fd, PySem.W.findIn K (.ref C) m = some (some (.ref g)) ∧ PySem.W.isFn K (.ref g) = true ∧ Binds K fd ps [] ∧ FnOk P w K mg base CX0 lv g fd ps sp
end
section
variable {X : Cx} {lv : Nat} {nm m : Str} {C : Addr} {ps : List Str} {sp : Sp} {p pos apos : Pos} {e o : Expr} {es : List Expr} {t : TA} {ta : TE}
theorem pe_cal (c : Cal X.prog X.w X.K X.mg X.base nm lv ps sp) (hr : Room lv X.A) (hg : Gl X nm) (ha : PA X (e :: es) t) (hdb : (nm == ("__debug__" : Str)) = false := by decide) (he : starEach (e :: es) X.env = (false, eval e X.env) :: starEach es X.env := by rfl) (hpl : (backTo pos (starEach es X.env)).any (·.1) = false := by rfl) :
    PE X (.Call (.Name nm p) (e :: es) [] pos) (tCall sp [] E0 t) := by
  obtain ⟨f, fd, g, k, b, F⟩ := c.ex
  exact pe_call F hr hg g k b .nil pass0 ha hdb he hpl
theorem pe_calG (c : CalG X.prog X.w X.K X.mg X.base nm lv ps sp) (hgu : X.A.guards = some []) (hr : Room lv X.A) (hg : Gl X nm) (ha : PA X (e :: es) t) (hdb : (nm == ("__debug__" : Str)) = false := by decide) (he : starEach (e :: es) X.env = (false, eval e X.env) :: starEach es X.env := by rfl) (hpl : (backTo pos (starEach es X.env)).any (·.1) = false := by rfl) :
    PE X (.Call (.Name nm p) (e :: es) [] pos) (tCall sp [] E0 t) := by
  obtain ⟨f, fd, g, k, b, F⟩ := c.ex
  exact pe_callG F hgu hr hg g k b ha hdb he hpl
theorem pe_mcal {pl : Sem Bool} (he : PE X o ta) (c : Cls X.K C) (M : MCal X.prog X.w X.K X.mg X.base C m lv ps sp) (hr : Room lv X.A) (ha : PA X (e :: es) t)
    (hst : starEach (e :: es) X.env = (false, eval e X.env) :: starEach es X.env := by rfl) (hpl : (backTo pos (starEach es X.env)).any (·.1) = false := by rfl)
    (ht : eval (.Call (.Attribute o m apos) (e :: es) [] pos) X.env = (do
      let ov ← eval o X.env
      standAt apos.atName
      let (f, first) ← holding [ov] (getMethod ov m pl)
      callWith pos f first (backTo pos (starEach (e :: es) X.env)) (backToKw pos (keywordEach [] X.env))) := by rfl) : PE X (.Call (.Attribute o m apos) (e :: es) [] pos) (tMeth C m sp [] E0 ta t) := by
  obtain ⟨f, fd, hm, b, F⟩ := M.ex
  exact pe_meth he c hm F hr b .nil pass0 ha hst hpl ht
theorem pe_mcal0 {pl : Sem Bool} (he : PE X o ta) (c : Cls X.K C) (M : MCal X.prog X.w X.K X.mg X.base C m lv ps sp) (hr : Room lv X.A)
    (ht : eval (.Call (.Attribute o m apos) [] [] pos) X.env = (do
      let ov ← eval o X.env
      standAt apos.atName
      let (f, first) ← holding [ov] (getMethod ov m pl)
      callWith pos f first (backTo pos (starEach [] X.env)) (backToKw pos (keywordEach [] X.env))) := by rfl) : PE X (.Call (.Attribute o m apos) [] [] pos) (tMeth C m sp [] E0 ta tNil) := by
  obtain ⟨f, fd, hm, b, F⟩ := M.ex
  exact pe_meth0 he c hm F hr b .nil pass0 ht
theorem pe_pcal (he : PE X e ta) (c : Cls X.K C) (M : PCal X.prog X.w X.K X.mg X.base C m lv sp) (hr : Room (lv + 1) X.A) (hab : attributeBase e m X.env (eval e X.env) = eval e X.env := by rfl) : PE X (.Attribute e m pos) (tProp C sp [] E0 ta) := by
  obtain ⟨p, g, fd, hp, b, F⟩ := M.ex
  exact pe_prop he c hp F hr b .nil pass0 hab
theorem op_eqC {K : PySem.W.Frag} (h : X.K = K) (S : SCal X.prog X.w K X.mg X.base C "__eq__" lv ps sp) (hr : Room lv X.A) : OpR X (compareOp .Eq) (Ko.rEqO K C sp) := by
  subst h
  obtain ⟨g, fd, h1, h2, b, F⟩ := S.ex
  exact Ko.op_eqO h1 h2 F hr b
theorem op_neC {K : PySem.W.Frag} (h : X.K = K) (S : SCal X.prog X.w K X.mg X.base C "__eq__" lv ps sp) (hne : PySem.W.findIn K (.ref C) "__ne__" = some (some (.builtin "object.__ne__"))) (hob : PySem.W.subIn K (.ref C) (.type "object") = some true) (hr : Room (lv + 1) X.A) : OpR X (compareOp .NotEq) (Ko.rNeO K C sp) := by
  subst h
  obtain ⟨g, fd, h1, h2, b, F⟩ := S.ex
  exact Ko.op_neO h1 h2 hne hob F hr b
theorem call_lenC (S : SCal X.prog X.w X.K X.mg X.base C "__len__" lv ps sp) (hr : Room (lv + 1) X.A) : CallR X (.builtin "len") (Ko.rLenO C sp) := by
  obtain ⟨g, fd, h1, h2, b, F⟩ := S.ex
  exact Ko.call_lenO h1 h2 F hr b
theorem call_strC (S : SCal X.prog X.w X.K X.mg X.base C "__str__" lv ps sp) (hr : Room (lv + 2) X.A) : CallR X (.type "str") (Ko.rStrO C sp) := by
  obtain ⟨g, fd, h1, h2, b, F⟩ := S.ex
  exact Ko.call_strO h1 h2 F hr b
/-! ### t + u and t[a:b] of tuples, whether a new one is made or not -/
def rCatN : R2 := fun x y H Q => ∃ a b xs ys, x = .ref a ∧ y = .ref b ∧ H a = some (.tup xs) ∧ H b = some (.tup ys) ∧ xs.length + ys.length ≤ 1000 ∧ ∀ p H', Same H H' → H' p = some (.tup (xs ++ ys)) → Q (.ref p) H'
theorem op_catN : OpR X (binaryOp .Add) rCatN := by
  intro pins s σ H x y v u Q I rx ry h
  obtain ⟨a, b, xs, ys, rfl, rfl, ha, hb, hl, q⟩ := h
  refine op_catA pins s σ H _ _ v u Q I rx ry ⟨a, b, xs, ys, rfl, rfl, SqT.of ha, SqT.of hb, Nat.le_of_lt (small1000 hl), fun z => ?_, fun _ z => ?_, fun _ _ p np => ?_⟩
  · subst z; exact q b H (Same.refl _) hb
  · subst z; exact q a H (Same.refl _) (by rw [List.append_nil]; exact ha)
  · exact q p _ (same_new np) upd_same
def rSlN : V → Option Int → Option Int → Hp → VK → Prop := fun x lo hi H Q => ∃ a xs, x = .ref a ∧ H a = some (.tup xs) ∧ ∀ p H', Same H H' → H' p = some (.tup (cutV xs lo hi)) → Q (.ref p) H'
theorem sl_tupN : SlR X rSlN := by
  intro pins s σ H x v vl vu lo hi sl Q I rx hs pl pu h
  obtain ⟨a, xs, rfl, ha, q⟩ := h
  refine sl_tupA pins s σ H _ v vl vu lo hi sl Q I rx hs pl pu ⟨a, xs, rfl, SqT.of ha, fun z => ?_, fun _ p np => ?_⟩
  · refine q a H (Same.refl _) ?_
    have e : cutV xs lo hi = xs := by
      unfold cutV
      rw [z.1, z.2, List.drop_zero, Nat.sub_zero, List.take_length]
    rw [e]; exact ha
  · exact q p _ (same_new np) upd_same
/-- tuple(x), x a list or a tuple -/
def rTupN : List V → Hp → VK → Prop := fun xs H Q => ∃ p ys, xs = [.ref p] ∧ (H p = some (.lst ys) ∨ H p = some (.tup ys)) ∧ ∀ l H', Same H H' → H' l = some (.tup ys) → Q (.ref l) H'
theorem call_tupN : CallR X (.type "tuple") rTupN := by
  intro pins s σ H xs us Q I r h
  obtain ⟨p, ys, rfl, hp, q⟩ := h
  refine call_tuple_of pins s σ H _ us Q I r ⟨p, ys, rfl, ?_⟩
  rcases hp with h | h
  · exact .inl ⟨SqL.of h, fun l nl => q l _ (same_new nl) upd_same⟩
  · exact .inr ⟨SqT.of h, q p H (Same.refl _) h⟩
end
end Kl

set_option Elab.async false
set_option linter.all false
set_option maxRecDepth 100000
set_option maxHeartbeats 4000000
namespace Kc
open PySem PySem.Spec PyProof.Rows L2 Kg Kd Kr Kf
/-! ### draws -/
theorem DeckAt.put {H : Hp} {d la lb x : Addr} {n : Nat} {o : HO} (D : DeckAt H d la lb n) (n1 : d ≠ x) (n2 : la ≠ x) (n3 : lb ≠ x) : DeckAt (upd H x o) d la lb n := by
  obtain ⟨⟨xs, ys, t, h1, h2, h3, h4⟩, m1, m2, m3⟩ := D
  exact ⟨⟨xs, ys, t, by rw [upd_ne n1]; exact h1, by rw [upd_ne n2]; exact h2, by rw [upd_ne n3]; exact h3, h4⟩, m1, m2, m3⟩
/-- from H on some draws were made -/
structure Go (H : Hp) (d la lb : Addr) (n : Nat) (H' : Hp) : Prop where
  b0 : ∃ m, DeckAt H d la lb m
  now : DeckAt H' d la lb n
  kp : Keep (dk d la) H H'
section
variable {H H1 H2 : Hp} {d la lb x : Addr} {n m : Nat} {o : HO}
theorem Go.refl (D : DeckAt H d la lb n) : Go H d la lb n H := ⟨⟨n, D⟩, D, Keep.refl _ _⟩
theorem Go.draw (g : Go H d la lb n H1) (D : DeckAt H2 d la lb m) (k : Keep (dk d la) H1 H2) : Go H d la lb m H2 := ⟨g.b0, D, g.kp.trans k⟩
theorem Go.same (g : Go H d la lb n H1) (s : Same H1 H2) : Go H d la lb n H2 := ⟨g.b0, g.now.same s, g.kp.trans (.of_same s)⟩
theorem Go.less (g : Go H d la lb n H1) (h : m ≤ n) : Go H d la lb m H1 := ⟨g.b0, g.now.less h, g.kp⟩
theorem Go.trans (g : Go H d la lb n H1) (g2 : Go H1 d la lb m H2) : Go H d la lb m H2 := ⟨g.b0, g2.now, g.kp.trans g2.kp⟩
theorem Go.off (g : Go H d la lb n H1) (h : H x = none) : d ≠ x ∧ la ≠ x ∧ lb ≠ x := by
  obtain ⟨m, D⟩ := g.b0
  obtain ⟨a, b, c⟩ := D.tracked
  exact ⟨fun z => a (by rw [z]; exact h), fun z => b (by rw [z]; exact h), fun z => c (by rw [z]; exact h)⟩
theorem Go.put (g : Go H d la lb n H1) (h : H x = none) : Go H d la lb n (upd H1 x o) := by
  obtain ⟨a, b, c⟩ := g.off h
  exact ⟨g.b0, g.now.put a b c, fun e u z nz => by rw [upd_ne (ne_of_none z h)]; exact g.kp e u z nz⟩
theorem Go.put1 (g : Go H d la lb n H1) (h : H1 x = none) (h0 : H x = none) : Go H d la lb n (upd H1 x o) := g.same (same_new h)
theorem Go.free (g : Go H d la lb n H1) (h : H1 x = none) : H x = none := by
  cases e : H x with
  | none => rfl
  | some u =>
    obtain ⟨a, b, c⟩ := g.now.tracked
    have z := g.kp x u e (by rintro (z | z) <;> (rw [z] at h; contradiction))
    rw [h] at z; cases z
theorem Go.at_ (g : Go H d la lb n H1) (h : H x = some o) (n1 : d ≠ x) (n2 : la ≠ x) : H1 x = some o := g.kp x o h (by rintro (z | z) <;> (rw [z] at n1 n2; contradiction))
theorem Go.kf (g : Go H d la lb n H1) : KF H H1 := fun a o h f => by
  obtain ⟨m, ⟨xs, ys, t, h1, h2, _⟩, _⟩ := g.b0
  refine g.kp a o h ?_
  rintro (z | z)
  · rw [z, h1] at h; cases h; exact f
  · rw [z, h2] at h; cases h; exact f
end
/-! ### data of kinds -/
theorem lay_iD : ∀ xs : List Nat, PyData.canLayAll0 (xs.map iD) = true
  | [] => rfl
  | x :: r => by
    show (PyData.canLay0 (.int _) && PyData.canLayAll0 (r.map iD)) = true
    rw [lay_iD r]; rfl
theorem dep_iD : ∀ xs : List Nat, PyData.depthAll (xs.map iD) = 0
  | [] => rfl
  | x :: r => by
    show max (PyData.depth (.int _)) (PyData.depthAll (r.map iD)) = 0
    rw [dep_iD r]; rfl
theorem shaped_of {d : PyData} (h1 : PyData.canLay0 d = true) (h2 : d.depth ≤ 64) : SeqAt.shaped d = true := by
  unfold SeqAt.shaped
  rw [Bool.and_eq_true]
  exact ⟨h1, decide_eq_true h2⟩
theorem lay_pdI (l : List Nat) : PyData.canLay0 (pdI l) = true := lay_iD l
theorem dep_pdI (l : List Nat) : (pdI l).depth = 1 := by
  show PyData.depthAll (l.map iD) + 1 = 1
  rw [dep_iD]
theorem sh_pdI (l : List Nat) : SeqAt.shaped (pdI l) = true := shaped_of (lay_pdI l) (by rw [dep_pdI]; decide)
theorem lay_pdIs : ∀ es : List (List Nat), PyData.canLayAll0 (es.map pdI) = true
  | [] => rfl
  | x :: r => by
    show (PyData.canLay0 (pdI x) && PyData.canLayAll0 (r.map pdI)) = true
    rw [lay_pdIs r, lay_pdI]; rfl
theorem dep_pdIs : ∀ es : List (List Nat), PyData.depthAll (es.map pdI) ≤ 1
  | [] => Nat.zero_le _
  | x :: r => by
    show max (pdI x).depth (PyData.depthAll (r.map pdI)) ≤ 1
    have := dep_pdIs r
    rw [dep_pdI]; omega
theorem dep_pdE (es : List (List Nat)) : (pdE es).depth ≤ 2 := by
  show PyData.depthAll (es.map pdI) + 1 ≤ 2
  have := dep_pdIs es
  omega
theorem sh_pdE (es : List (List Nat)) : SeqAt.shaped (pdE es) = true := shaped_of (lay_pdIs es) (by have := dep_pdE es; omega)
theorem eqv_iDs : ∀ l m : List Nat, PyData.eqvAll (l.map iD) (m.map iD) = decide (l = m)
  | [], [] => by simp [PyData.eqvAll]
  | [], _ :: _ => by simp [PyData.eqvAll]
  | _ :: _, [] => by simp [PyData.eqvAll]
  | a :: l, b :: m => by
    have z := eqv_iDs l m
    simp only [List.map_cons, PyData.eqvAll, z, iD, PyData.eqv]
    by_cases h : a = b
    · subst h; simp
    · have h2 : ¬ ((a : Int) = (b : Int)) := by omega
      simp [h, h2]
theorem eqv_pdI (l m : List Nat) : PyData.eqv (pdI l) (pdI m) = decide (l = m) := by
  unfold pdI
  rw [PyData.eqv, eqv_iDs]
theorem eqv_pdIs : ∀ l m : List (List Nat), PyData.eqvAll (l.map pdI) (m.map pdI) = decide (l = m)
  | [], [] => by simp [PyData.eqvAll]
  | [], _ :: _ => by simp [PyData.eqvAll]
  | _ :: _, [] => by simp [PyData.eqvAll]
  | a :: l, b :: m => by
    have z := eqv_pdIs l m
    simp only [List.map_cons, PyData.eqvAll, z, eqv_pdI]
    by_cases h : a = b
    · subst h; simp
    · simp [h]
theorem eqv_pdE (l m : List (List Nat)) : PyData.eqv (pdE l) (pdE m) = decide (l = m) := by
  unfold pdE
  rw [PyData.eqv, eqv_pdIs]
theorem som_snoc {n : Nat} {l : List Nat} (h : Som n l) : Som (n + 1) (l ++ [n]) := by
  refine ⟨List.pairwise_append.mpr ⟨h.asc, List.pairwise_singleton .., fun a ha b hb => ?_⟩, fun x hx => ?_⟩
  · rw [List.mem_singleton.mp hb]; exact h.low a ha
  · rcases List.mem_append.mp hx with z | z
    · have := h.low x z; omega
    · rw [List.mem_singleton.mp z]; omega
theorem som_up {n m : Nat} {l : List Nat} (h : Som n l) (z : n ≤ m) : Som m l := ⟨h.asc, fun x hx => Nat.lt_of_lt_of_le (h.low x hx) z⟩
end Kc

set_option Elab.async false
set_option linter.all false
set_option maxRecDepth 100000
set_option maxHeartbeats 4000000
/-! t[::-1] of a tuple. -/
namespace Kr
open PySem PySem.Spec PyProof.Rows L2 Kg Kd
section
variable {prog : Program} {w : World} {A : Around} {E : Value → Shared → Prop} {s : Shared}
theorem applied_rev {sl : Addr} {vl vu vs : Value} {n : Nat} {Q : Int × Int × Nat → Shared → Prop} (hs : s.heap.IsSliceOf sl vl vu vs) (pl : IsPart vl none) (pu : IsPart vu none) (ps : IsPart vs (some (-1)))
    (h : Q (((n : Nat) : Int) - 1, -1, n) s) : wpAny (model prog w) A (Builtin.Slice.sliceApplied (.ref sl) (pure (n : Int))) Q E s := by
  obtain ⟨os, hos, hcs, hds⟩ := id hs
  unfold Builtin.Slice.sliceApplied Builtin.Slice.sliceFields
  refine wpAny_bind (wpAny_bind (wpAny_field hos hds (x := vl) rfl (wpAny_bind (wpAny_field hos hds (x := vu) rfl (wpAny_bind (wpAny_field hos hds (x := vs) rfl (wpAny_pure ?_)))))))
  refine wpAny_bind (HT.slicePart_ ps ?_)
  show wpAny _ _ (if ((-1 : Int) == 0) = true then _ else _) _ _ s
  rw [if_neg (by decide)]
  refine wpAny_bind (HT.slicePart_ pl (wpAny_bind (HT.slicePart_ pu (wpAny_bind (wpAny_pure ?_)))))
  show wpAny _ _ (pure ((n : Int) - 1, (-1 : Int), Builtin.Slice.slicePlaces ((n : Int) - 1) (-1) (-1))) _ _ s
  have e : Builtin.Slice.slicePlaces ((n : Int) - 1) (-1) (-1) = n := by
    unfold Builtin.Slice.slicePlaces
    have h1 : ¬ ((-1 : Int) > 0) := by decide
    rw [if_neg h1]
    by_cases c : (n : Int) - 1 > -1
    · rw [if_pos c, show (- -1 : Int) = 1 by decide, Int.ediv_one]; omega
    · rw [if_neg c]; omega
  rw [e]
  exact wpAny_pure h
theorem pick_rev (xs : Array Value) : ((List.range xs.size).filterMap fun (k : Nat) => xs[(((xs.size : Nat) : Int) - 1 + (k : Int) * (-1)).toNat]?) = xs.toList.reverse := by
  have e : (fun (k : Nat) => xs[(((xs.size : Nat) : Int) - 1 + (k : Int) * (-1)).toNat]?) = (fun j => xs[j]?) ∘ (fun k => xs.size - 1 - k) := by
    funext k
    show xs[(((xs.size : Nat) : Int) - 1 + (k : Int) * (-1)).toNat]? = xs[xs.size - 1 - k]?
    congr 1
    omega
  rw [e, ← List.filterMap_map, PySem.W.krv_range, List.filterMap_reverse, PySem.W.krv_all]
theorem getItem_tuple_rev {t sl : Addr} {items : Array Value} {vl vu vs : Value} {Q : Value → Shared → Prop} (ht : IsTup s.heap t items) (hs : s.heap.IsSliceOf sl vl vu vs) (pl : IsPart vl none) (pu : IsPart vu none) (ps : IsPart vs (some (-1)))
    (h : Q (.ref s.heap.objs.size) { s with heap := s.heap.push { cls := .type "tuple", data := .seq items.toList.reverse.toArray } })
    (hsz : items.size ≤ sizeLine) : wpAny (model prog w) A (getItem (.ref t) (.ref sl)) Q E s := by
  have htake : sizeOk (.seq items.toList.reverse.toArray) := by
    show items.toList.reverse.toArray.size ≤ sizeLine
    rw [List.size_toArray, List.length_reverse, Array.length_toList]
    exact hsz
  obtain ⟨os, hos, hcs, hds⟩ := id hs
  have hTs : s.TypeIs (.ref sl) "slice" := ⟨os, hos, hcs⟩
  unfold getItem
  try with_reducible refine wpAny_holding ?_
  first | refine wpAny_bind (wpAny_pure ?_) | skip
  refine wpAny_bind (wpAny_sequenceKey ht.typeIs (by decide) ?_)
  refine wpAny_bind (wpAny_callSpecial?_slot (name := Str.ofString "__getitem__") ht.typeIs PyProof.Rows.slot_tuple_getitem
    (wpAny_call_entry PyProof.Rows.slot_tuple_getitem ht.typeIs entry_tuple_getitem ?_ (args_tuple_getitem _ _)))
  show wpAny _ _ (Builtin.Tuple.tupleItemsOf (.ref t) >>= _) _ _ s
  refine wpAny_bind (tupleItemsOf_ ht ?_)
  refine wpAny_bind (wpAny_typeOf hTs ?_)
  rw [if_pos (by decide)]
  refine wpAny_bind (applied_rev hs pl pu ps ?_)
  have hno : ¬ (((((items.size : Nat) : Int) - 1 == 0) && (-1 : Int) == 1 && items.size == items.size) = true) := by
    intro q
    rw [Bool.and_eq_true, Bool.and_eq_true] at q
    exact absurd q.1.2 (by decide)
  show wpAny _ _ (if ((((items.size : Nat) : Int) - 1 == 0) && (-1 : Int) == 1 && items.size == items.size) = true then _ else _) _ _ s
  rw [if_neg hno, pick_rev]
  first
    | exact wpAny_bind (m := Builtin.Tuple.tupleExact _) (wpAny_newObj_type (wpAny_pure ⟨_, rfl, wpAny_pure h⟩) htake)
    | exact wpAny_bind (m := Builtin.Tuple.tupleExact _) (wpAny_newObj_type (wpAny_bind (wpAny_pure (wpAny_pure ⟨_, rfl, wpAny_pure h⟩))) htake)
    | exact wpAny_bind (wpAny_bind (m := Builtin.Tuple.tupleExact _) (wpAny_newObj_type (wpAny_pure (wpAny_pure ⟨_, rfl, wpAny_pure h⟩)) htake))
    | exact wpAny_bind (wpAny_bind (m := Builtin.Tuple.tupleExact _) (wpAny_newObj_type (wpAny_pure ⟨_, rfl, wpAny_pure h⟩) htake))
end
section
variable {X : Cx}
def tRevT (K : PySem.W.Frag) (te : TE) : TE := fun σ H Q => te σ H fun x H1 => ∃ a xs, x = .ref a ∧ SqT K H1 a xs ∧ ∀ p, H1 p = none → Q (.ref p) (upd H1 p (.tup xs.reverse))
theorem pe_revT {e : Expr} {te : TE} {k : Nat} {p1 p2 p3 pos : Pos} (he : PE X e te) : PE X (.Subscript e (.Slice none none (some (.UnaryOp .USub (.Constant (.int 1) k p1) p2)) p3) pos) (tRevT X.K te) := by
  refine ⟨fun pins s σ H Q I h => ?_⟩
  refine Subscript_ (thn (he.run pins s σ H _ I h) fun v s1 ⟨x, H1, I1, r1, q1⟩ => ?_)
  obtain ⟨a, xs, ex, hx, q⟩ := q1
  subst ex
  cases r1
  have hst : PO X (some (.UnaryOp .USub (.Constant (.int 1) k p1) p2)) (tPart (tUn (rU fun i => .int (-i)) (tC (.int 1)))) := po_some (pe_un un_neg pe_int)
  refine wpAny_Slice (thn (po_none.run pins s1 σ H1 (fun o H2 => o = none ∧ H2 = H1) I1 ⟨rfl, rfl⟩) fun vl s2 ⟨l, H2, I2, pl, el, e2⟩ => ?_)
  subst el e2
  refine thn (po_none.run pins s2 σ H2 (fun o H3 => o = none ∧ H3 = H2) I2 ⟨rfl, rfl⟩) fun vu s3 ⟨u, H3, I3, pu, eu, e3⟩ => ?_
  subst eu e3
  refine thn (hst.run pins s3 σ H3 (fun o H4 => o = some (-1) ∧ H4 = H3) I3 ⟨1, rfl, -1, rfl, rfl, rfl⟩) fun vs s4 ⟨o, H4, I4, ps, eo, e4⟩ => ?_
  subst eo e4
  have I5 : Inv X pins σ H4 { s4 with heap := s4.heap.push { cls := .type "slice", data := .fields #[vl, vu, vs] } } := I4.kept (t' := s4.toks) fun b ob q => Heap.get?_push_of_some _ q
  obtain ⟨its, r, ht, hz⟩ := I5.tuple hx
  have hlen := r.length
  show wpAny (model X.prog X.w) X.A (subscriptTail e (.Slice none none (some (.UnaryOp .USub (.Constant (.int 1) k p1) p2)) p3) (.ref a) (.ref s4.heap.objs.size)) (EP X pins σ Q) X.xe { s4 with heap := s4.heap.push { cls := .type "slice", data := .fields #[vl, vu, vs] } }
  refine tail_any (ops := [.ref a, .ref s4.heap.objs.size]) ht.typeIs PyProof.Rows.slot_tuple_getitem.lookup ?_ (by with_unfolding_all rfl)
  refine getItem_tuple_rev ht (Heap.IsSliceOf.new _ vl vu vs) pl pu ps ?_ (by rw [List.size_toArray]; omega)
  refine ⟨.ref _, _, I5.laid (t' := s4.toks) (o := .tup xs.reverse) (fun b ob q => Heap.get?_push_of_some _ q) (Nat.le_refl _) ?_, rfl, q _ (I5.hok.fresh (Nat.le_refl _))⟩
  exact ⟨by rw [List.length_reverse]; exact hz, _, r.reverse, IsTup.new _ _⟩
end
end Kr

set_option Elab.async false
set_option linter.all false
set_option maxRecDepth 100000
set_option maxHeartbeats 4000000
/-! Tables of small ints: laid anew, each at its own slot. -/
namespace Kw
open PySem PySem.Spec PyProof.Rows L2
abbrev Own := Array (Option Nat)
def lstep (mask : Nat) (acc : Option (Own × Nat)) (h : Int) : Option (Own × Nat) := do
  let (owner, k) ← acc
  let j ← SetTable.layClean.free mask owner (SetTable.turns mask) (SetTable.bits h % (mask + 1)) (SetTable.bits h)
  pure (owner.setIfInBounds j (some k), k + 1)
theorem layClean_eq (mask : Nat) (hs : Array Int) : SetTable.layClean mask hs = (hs.toList.foldl (lstep mask) (some (Array.replicate (mask + 1) none, 0))).map (·.1) := by
  rw [Array.foldl_toList]; rfl
theorem getD_in {owner : Own} {i : Nat} (hi : i < owner.size) (d d' : Option Nat) : owner.getD i d = owner.getD i d' := by
  rw [Array.getD_eq_getD_getElem?, Array.getD_eq_getD_getElem?, Array.getElem?_eq_getElem hi]; rfl
theorem free_first {mask i p f : Nat} {owner : Own} (hs : owner.size = mask + 1) (hi : i ≤ mask) (hn : owner.getD i none = none) : SetTable.layClean.free mask owner (f + 1) i p = some i := by
  have e1 : owner.getD (i + 0) (some 0) = none := by
    rw [Nat.add_zero, getD_in (by omega) (some 0) none]; exact hn
  have e2 : ∃ m, SetTable.runEnd mask i + 1 - i = m + 1 := by
    have : i ≤ SetTable.runEnd mask i := by unfold SetTable.runEnd; split <;> omega
    exact ⟨SetTable.runEnd mask i - i, by omega⟩
  obtain ⟨m, e2⟩ := e2
  have e3 : (List.range (SetTable.runEnd mask i + 1 - i)).find? (fun k => (owner.getD (i + k) (some 0)).isNone) = some 0 := by
    rw [e2, List.range_succ_eq_map, List.find?_cons]
    rw [e1]; rfl
  unfold SetTable.layClean.free
  rw [e3]
  rfl
theorem bits_small {h : Int} (h0 : 0 ≤ h) (h1 : h < 8) : SetTable.bits h = h.toNat := by
  unfold SetTable.bits
  rw [Int.emod_eq_of_lt h0 (by omega)]
theorem setIB_getD {owner : Own} {i j : Nat} {v : Option Nat} (hi : i < owner.size) : (owner.setIfInBounds i v).getD j none = if j = i then v else owner.getD j none := by
  rw [Array.getD_eq_getD_getElem?, Array.getElem?_setIfInBounds, Array.getD_eq_getD_getElem?]
  by_cases h : i = j
  · subst h
    rw [if_pos rfl, if_pos rfl, if_pos hi]; rfl
  · rw [if_neg h, if_neg (fun z => h z.symm)]
theorem lay_fold {mask : Nat} (hm : 7 ≤ mask) : ∀ (hs : List Int) (owner : Own) (k : Nat), owner.size = mask + 1 → (∀ h ∈ hs, 0 ≤ h ∧ h < 8) → hs.Nodup → (∀ h ∈ hs, owner.getD h.toNat none = none) →
    ∃ owner' : Own, hs.foldl (lstep mask) (some (owner, k)) = some (owner', k + hs.length) ∧ owner'.size = mask + 1 ∧ ∀ j : Nat, (∀ i : Nat, hs[i]? = some ((j : Nat) : Int) → owner'.getD j none = some (k + i)) ∧ ((∀ i : Nat, hs[i]? ≠ some ((j : Nat) : Int)) → owner'.getD j none = owner.getD j none)
  | [], owner, k, hsz, _, _, _ => ⟨owner, rfl, hsz, fun j => ⟨fun i h => by simp at h, fun _ => rfl⟩⟩
  | h :: hs, owner, k, hsz, hb, hnd, hfree => by
    obtain ⟨h0, h1⟩ := hb h (List.mem_cons_self ..)
    rw [List.nodup_cons] at hnd
    have fr := hfree h (List.mem_cons_self ..)
    have st : lstep mask (some (owner, k)) h = some (owner.setIfInBounds h.toNat (some k), k + 1) := by
      have e : SetTable.bits h % (mask + 1) = h.toNat := by rw [bits_small h0 h1, Nat.mod_eq_of_lt (by omega)]
      have e2 : SetTable.turns mask = (mask + 14) + 1 := rfl
      show (SetTable.layClean.free mask owner (SetTable.turns mask) (SetTable.bits h % (mask + 1)) (SetTable.bits h)).bind (fun j => some (owner.setIfInBounds j (some k), k + 1)) = _
      rw [e, e2, free_first hsz (by omega) fr]; rfl
    have hin : h.toNat < owner.size := by omega
    obtain ⟨o', e1, e2, e3⟩ := lay_fold hm hs (owner.setIfInBounds h.toNat (some k)) (k + 1) (by rw [Array.size_setIfInBounds]; exact hsz) (fun x hx => hb x (List.mem_cons_of_mem _ hx)) hnd.2 (fun x hx => by
      rw [setIB_getD hin, if_neg (fun z => ?_)]
      · exact hfree x (List.mem_cons_of_mem _ hx)
      · have := hb x (List.mem_cons_of_mem _ hx)
        have e : x = h := by omega
        rw [e] at hx; exact hnd.1 hx)
    refine ⟨o', ?_, e2, fun j => ⟨fun i hi => ?_, fun hno => ?_⟩⟩
    · rw [List.foldl_cons, st, e1, List.length_cons]
      congr 2; omega
    · cases i with
      | zero =>
        simp at hi
        have hno : ∀ i : Nat, hs[i]? ≠ some ((j : Nat) : Int) := fun i z => hnd.1 (by rw [hi]; exact List.mem_of_getElem? z)
        rw [(e3 j).2 hno, setIB_getD hin, if_pos (by omega)]; rfl
      | succ i =>
        have := (e3 j).1 i (by simpa using hi)
        rw [this]; congr 1; omega
    · have hno' : ∀ i : Nat, hs[i]? ≠ some ((j : Nat) : Int) := fun i z => hno (i + 1) (by simpa using z)
      rw [(e3 j).2 hno', setIB_getD hin, if_neg]
      intro z
      exact hno 0 (by simp; omega)
/-- where a clean table of small ints has each -/
theorem layClean_small {mask : Nat} (hm : 7 ≤ mask) {hs : Array Int} (hb : ∀ h ∈ hs.toList, 0 ≤ h ∧ h < 8) (hn : hs.toList.Nodup) : ∃ owner : Own, SetTable.layClean mask hs = some owner ∧ ∀ j : Nat, (∀ i : Nat, hs.toList[i]? = some ((j : Nat) : Int) → owner.getD j none = some i) ∧ ((∀ i : Nat, hs.toList[i]? ≠ some ((j : Nat) : Int)) → owner.getD j none = none) := by
  obtain ⟨o', e1, _, e3⟩ := lay_fold hm hs.toList (Array.replicate (mask + 1) none) 0 (by simp) hb hn (fun h hh => by
    rw [Array.getD_eq_getD_getElem?, Array.getElem?_replicate]; split <;> rfl)
  refine ⟨o', by rw [layClean_eq, e1]; rfl, fun j => ⟨fun i hi => ?_, fun hno => ?_⟩⟩
  · have := (e3 j).1 i hi
    rwa [Nat.zero_add] at this
  · rw [(e3 j).2 hno, Array.getD_eq_getD_getElem?, Array.getElem?_replicate]; split <;> rfl
theorem nodup_len : ∀ {l m : List Int}, l.Nodup → (∀ x ∈ l, x ∈ m) → l.length ≤ m.length
  | [], _, _, _ => Nat.zero_le _
  | a :: l, m, hn, h => by
    rw [List.nodup_cons] at hn
    have ha := h a (List.mem_cons_self ..)
    have z := nodup_len (l := l) (m := m.erase a) hn.2 (fun x hx => (List.mem_erase_of_ne (fun y : x = a => hn.1 (by rw [← y]; exact hx))).mpr (h x (List.mem_cons_of_mem _ hx)))
    rw [List.length_erase_of_mem ha] at z
    have : 0 < m.length := List.length_pos_of_mem ha
    rw [List.length_cons]; omega
theorem keys_of {es : Array (Int × Value)} : ∀ (lv : List (Nat × Nat)), (∀ p ∈ lv, ∃ e, es[p.2]? = some e ∧ keyOf e = (p.1 : Nat)) → (((lv.map (·.2)).filterMap (es[·]?)).map keyOf) = lv.map (fun p => ((p.1 : Nat) : Int))
  | [], _ => rfl
  | p :: lv, h => by
    obtain ⟨e, h1, h2⟩ := h p (List.mem_cons_self ..)
    have ih := keys_of lv (fun q hq => h q (List.mem_cons_of_mem _ hq))
    rw [List.map_cons, List.filterMap_cons, h1]
    show keyOf e :: _ = _
    rw [h2, ih]; rfl
theorem hash_small {k : Int} (h0 : 0 ≤ k) (h1 : k < 8) : hashInt k = k := by
  have : k = 0 ∨ k = 1 ∨ k = 2 ∨ k = 3 ∨ k = 4 ∨ k = 5 ∨ k = 6 ∨ k = 7 := by omega
  rcases this with h | h | h | h | h | h | h | h <;> subst h <;> decide +kernel
/-- the elements of a set of small ints -/
structure Sm (es : Array (Int × Value)) : Prop where
  good : ∀ e ∈ es.toList, GoodE e
  nd : (es.toList.map keyOf).Nodup
  sm : ∀ k ∈ es.toList.map keyOf, 0 ≤ k ∧ k < 7
theorem Sm.hash {es : Array (Int × Value)} (h : Sm es) : (es.map (·.1)).toList = es.toList.map keyOf := by
  rw [Array.toList_map]
  refine List.map_congr_left fun e he => ?_
  obtain ⟨k, tk, e1, e2⟩ := h.good e he
  have ek : keyOf e = k := by unfold keyOf; rw [e1]
  have := h.sm k (by rw [← ek]; exact List.mem_map_of_mem he)
  rw [e2, ek, hash_small this.1 (by omega)]
theorem Sm.size {es : Array (Int × Value)} (h : Sm es) : es.size ≤ 7 := by
  have z := nodup_len (m := [0, 1, 2, 3, 4, 5, 6]) h.nd (fun x hx => by
    have := h.sm x hx
    simp; omega)
  rw [List.length_map, Array.length_toList] at z
  exact z
/-- laid clean -/
theorem laid_small {mask finger moves : Nat} {led plain : Bool} (hm : 7 ≤ mask) {es : Array (Int × Value)} (h : Sm es) : ∃ (t : SetTable) (order : Array Nat), SetTable.laid mask finger moves led plain (es.map (·.1)) = some (t, order) ∧ t.mask = mask ∧ t.dummies = #[] ∧ t.led = led ∧ Ris t.place.toList ∧ t.place.size = es.size ∧
    Sm (order.filterMap (es[·]?)) ∧ (order.filterMap (es[·]?)).size = es.size ∧ (∀ k, k ∈ (order.filterMap (es[·]?)).toList.map keyOf ↔ k ∈ es.toList.map keyOf) := by
  obtain ⟨owner, e1, e2⟩ := layClean_small (hs := es.map (·.1)) hm (by rw [h.hash]; exact fun x hx => ⟨(h.sm x hx).1, by have := h.sm x hx; omega⟩) (by rw [h.hash]; exact h.nd)
  rw [h.hash] at e2
  have lv : ∀ p ∈ (List.range (mask + 1)).filterMap (fun j => (owner.getD j none).map fun i => (j, i)), ∃ e, es[p.2]? = some e ∧ keyOf e = (p.1 : Nat) := by
    rintro ⟨j, i⟩ hp
    obtain ⟨j', hj, hq⟩ := List.mem_filterMap.mp hp
    cases ho : owner.getD j' none with
    | none => rw [ho] at hq; cases hq
    | some i' =>
      rw [ho] at hq
      have hq' : (j', i') = (j, i) := Option.some.inj hq
      have q1 : j' = j := congrArg Prod.fst hq'
      have q2 : i' = i := congrArg Prod.snd hq'
      subst q1 q2
      by_cases hex : ∃ i0 : Nat, (es.toList.map keyOf)[i0]? = some ((j' : Nat) : Int)
      · obtain ⟨i0, h0⟩ := hex
        have := (e2 j').1 i0 h0
        rw [ho] at this
        have q3 := Option.some.inj this
        subst q3
        rw [List.getElem?_map] at h0
        cases he : es.toList[i']? with
        | none => rw [he] at h0; cases h0
        | some e =>
          rw [he] at h0
          exact ⟨e, by rw [← Array.getElem?_toList]; exact he, Option.some.inj h0⟩
      · have := (e2 j').2 (fun i0 z => hex ⟨i0, z⟩)
        rw [ho] at this; cases this
  generalize hL : (List.range (mask + 1)).filterMap (fun j => (owner.getD j none).map fun i => (j, i)) = L at lv
  have fst : L.map (·.1) = (List.range (mask + 1)).filter (fun j => (owner.getD j none).isSome) := by
    rw [← hL]
    generalize List.range (mask + 1) = R
    induction R with
    | nil => rfl
    | cons j R ih =>
      rw [List.filterMap_cons, List.filter_cons]
      cases owner.getD j none with
      | none => exact ih
      | some i => show j :: _ = j :: _; rw [ih]
  have asc : (L.map (·.1)).Pairwise (· < ·) := by rw [fst]; exact (List.pairwise_lt_range (n := mask + 1)).filter _
  have el : ((L.map (·.2)).toArray.filterMap (es[·]?)).toList = (L.map (·.2)).filterMap (es[·]?) := by rw [Array.toList_filterMap]
  have ks := keys_of L lv
  have mem : ∀ k, k ∈ L.map (fun p => ((p.1 : Nat) : Int)) ↔ k ∈ es.toList.map keyOf := by
    intro k
    constructor
    · intro hk
      obtain ⟨p, hp, rfl⟩ := List.mem_map.mp hk
      obtain ⟨e, h1, h2⟩ := lv p hp
      rw [← h2]
      refine List.mem_map_of_mem ?_
      rw [← Array.getElem?_toList] at h1
      exact List.mem_of_getElem? h1
    · intro hk
      obtain ⟨k0, k1⟩ := h.sm k hk
      obtain ⟨i, hi⟩ := List.getElem?_of_mem hk
      have ek : ((k.toNat : Nat) : Int) = k := by omega
      have := (e2 k.toNat).1 i (by rw [ek]; exact hi)
      refine List.mem_map.mpr ⟨(k.toNat, i), ?_, ek⟩
      rw [← hL]
      exact List.mem_filterMap.mpr ⟨k.toNat, List.mem_range.mpr (by omega), by rw [this]; rfl⟩
  have nd : (L.map (fun p => ((p.1 : Nat) : Int))).Nodup := by
    have : L.map (fun p => ((p.1 : Nat) : Int)) = (L.map (·.1)).map (fun n => ((n : Nat) : Int)) := by rw [List.map_map]; rfl
    rw [this]
    rw [List.Nodup, List.pairwise_map]
    exact asc.imp (fun z => by omega)
  have ln : L.length = es.size := by
    have a1 := nodup_len nd (fun x hx => (mem x).mp hx)
    have a2 := nodup_len h.nd (fun x hx => (mem x).mpr hx)
    simp only [List.length_map, Array.length_toList] at a1 a2
    omega
  refine ⟨{ mask, place := (L.map (·.1)).toArray, dummies := #[], finger, led, moves, plain }, (L.map (·.2)).toArray, ?_, rfl, rfl, rfl, asc, ?_, ⟨?_, ?_, ?_⟩, ?_, ?_⟩
  · unfold SetTable.laid
    rw [e1, ← hL]; rfl
  · show (L.map (·.1)).toArray.size = _
    rw [List.size_toArray, List.length_map]; exact ln
  · intro e he
    rw [el] at he
    obtain ⟨i, _, hi⟩ := List.mem_filterMap.mp he
    rw [← Array.getElem?_toList] at hi
    exact h.good e (List.mem_of_getElem? hi)
  · rw [el, ks]; exact nd
  · rw [el, ks]; exact fun k hk => h.sm k ((mem k).mp hk)
  · have : ((L.map (·.2)).toArray.filterMap (es[·]?)).toList.length = L.length := by
      have z := congrArg List.length ks
      rw [List.length_map, List.length_map] at z
      rw [el]; exact z
    rw [Array.length_toList] at this
    omega
  · rw [el, ks]; exact mem
end Kw

set_option Elab.async false
set_option linter.all false
set_option maxRecDepth 100000
set_option maxHeartbeats 4000000
/-! set | set, set - set, of small ints. -/
namespace Kw
open PySem PySem.Spec PyProof.Rows L2
theorem above_ok : ((List.range 101).all fun n => decide (8 ≤ SetTable.sizeAbove n) && decide (SetTable.sizeAbove n ≤ 128)) = true := by decide +kernel
theorem above_of {n : Nat} (h : n ≤ 100) : 8 ≤ SetTable.sizeAbove n ∧ SetTable.sizeAbove n ≤ 128 := by
  have z := List.all_eq_true.mp above_ok n (List.mem_range.mpr (by omega))
  rw [Bool.and_eq_true, decide_eq_true_iff, decide_eq_true_iff] at z
  exact z
/-- a set of ints from 0 to 6 -/
def Sml6 (S : Int → Bool) : Prop := ∀ k, S k = true → 0 ≤ k ∧ k < 7
section
variable {P : Program} {w : World} {A : Around} {E : Value → Shared → Prop} {s : Shared} {a : Addr} {S : Int → Bool} {n : Nat}
theorem sm_of {es : Array (Int × Value)} (sm : Sml6 S) (g : ∀ e ∈ es.toList, GoodE e) (nd : (es.toList.map keyOf).Nodup) (hm : ∀ k, S k = true ↔ k ∈ es.toList.map keyOf) : Sm es := ⟨g, nd, fun k hk => sm k ((hm k).mpr hk)⟩
/-- with a table that has no dummies and at least eight slots -/
def SetQ (w : World) (h : Heap) (a : Addr) (S : Int → Bool) (n : Nat) : Prop :=
  ∃ o es ep t, h.get? a = some o ∧ o.ExactSet ∧ o.data = .set es ep t ∧ (∀ e ∈ es.toList, GoodE e) ∧ (es.toList.map keyOf).Nodup ∧ (∀ k, S k = true ↔ k ∈ es.toList.map keyOf) ∧
    es.size < scanBound ∧ t.fits es.size = true ∧ es.size = n ∧ Ris t.place.toList ∧ (w.params.followText "set-order" = true ∨ t.led = true) ∧ 7 ≤ t.mask ∧ t.dummies = #[]
theorem SetQ.r {h : Heap} (R : SetQ w h a S n) : SetR w h a S n := by
  obtain ⟨o, es, ep, t, ho, hx, hd, g, nd, hm, hb, hf, hn, ris, led, _⟩ := R
  exact ⟨o, es, ep, t, ho, hx, hd, g, nd, hm, hb, hf, hn, ris, led⟩
theorem relay_small {wanted : Nat} {Q : Unit → Shared → Prop} (R : SetR w s.heap a S n) (sm : Sml6 S) (hw : wanted ≤ 100) (hQ : ∀ h', Heap.SameBut a s.heap h' → SetQ w h' a S n → Q () { s with heap := h' }) : wpAny (model P w) A (setRelay a wanted) Q E s := by
  obtain ⟨o, es, ep, t, ho, hx, hd, g, nd, hm, hb, hf, hn, ris, led⟩ := R
  have SM := sm_of sm g nd hm
  obtain ⟨b1, b2⟩ := above_of hw
  obtain ⟨t', order, e1, e2, e3, e4, e5, e6, e7, e8, e9⟩ := laid_small (mask := SetTable.sizeAbove wanted - 1) (finger := t.finger) (moves := t.movedTo (SetTable.sizeAbove wanted - 1)) (led := t.led) (plain := t.plain) (by omega) SM
  unfold setRelay
  refine wpAny_bind (wpAny_setState_of ho hd hf ?_)
  dsimp only
  rw [if_neg (show ¬ SetTable.sizeAbove wanted > sizeLine by rw [sizeLine_eq]; omega)]
  have er : t.relaid (es.map (·.1)) wanted = some (t', order) := e1
  refine wpAny_bind ?_
  rw [er]
  show wpAny _ _ (if ((order.filterMap (es[·]?)).size != es.size) = true then _ else _) _ _ _
  rw [if_neg (by rw [e8]; simp)]
  refine wpAny_pure ?_
  dsimp only
  have hb' : (order.filterMap (es[·]?)).size < scanBound := by rw [e8]; exact hb
  have sz := SM.size
  refine wpAny_storeSet_of ho hd ?_ (fits_of_scanBound hb')
  refine hQ _ (Heap.SameBut.update s.heap a _) ⟨_, _, _, t', store_at ho hd, hx, rfl, e7.good, e7.nd, fun k => (hm k).trans (e9 k).symm, hb', ?_, by rw [e8]; exact hn, e5, led.imp id fun z => by rw [e4]; exact z, by rw [e2]; omega, e3⟩
  unfold SetTable.fits SetTable.fill
  rw [e6, e3, e2, e8]
  simp
  omega
theorem room_small {more : Nat} {Q : Unit → Shared → Prop} (R : SetQ w s.heap a S n) (sm : Sml6 S) (hw : more ≤ 7) (hQ : ∀ h', Heap.SameBut a s.heap h' → SetQ w h' a S n → Q () { s with heap := h' }) : wpAny (model P w) A (setRoomFor a more) Q E s := by
  have R' := R
  obtain ⟨o, es, ep, t, ho, hx, hd, g, nd, hm, hb, hf, hn, ris, led, msk, dum⟩ := R
  have SM := sm_of sm g nd hm
  have sz := SM.size
  have ps : t.place.size = es.size := by
    unfold SetTable.fits at hf
    rw [Bool.and_eq_true, beq_iff_eq] at hf
    exact hf.1
  unfold setRoomFor
  refine wpAny_bind (wpAny_setState_of ho hd hf ?_)
  dsimp only
  unfold SetTable.roomFor
  split
  · rename_i wanted heq
    split at heq
    · have e := Option.some.inj heq
      refine relay_small R'.r sm (by rw [← e, ps]; omega) hQ
    · cases heq
  · exact wpAny_pure (hQ s.heap (Heap.SameBut.refl _ _) R')
theorem walk_at {o : Obj} {es : Array (Int × Value)} {ep : Nat} {t : SetTable} {Q : Array (Int × Value) → Shared → Prop} (ho : s.heap.get? a = some o) (hd : o.data = .set es ep t) (hf : t.fits es.size = true) (led : w.params.followText "set-order" = true ∨ t.led = true)
    (h : ∀ (es' : Array (Int × Value)) d, es'.toList.Perm es.toList → Q es' { s with drawn := d }) : wpAny (model P w) A (setWalk a) Q E s := by
  unfold setWalk
  refine wpAny_bind (wpAny_setState_of ho hd hf ?_)
  dsimp only
  refine wpAny_bind (wpAny_byText ?_)
  by_cases hb : w.params.followText "set-order" = true
  · rw [if_pos hb]
    refine wpAny_bind (wpAny_askSetting ?_)
    exact wpAny_pure (h _ s.drawn (pick_perm _ _))
  · rw [if_neg hb]
    have tl : t.led = true := led.resolve_left hb
    show wpAny _ _ (if (!t.plain && decide (es.size > 1)) = true then _ else _) _ _ _
    split
    · refine wpAny_bind (drawOrder_at es.size es.toList s _ (Nat.le_of_eq (by simp)) fun ys d p => ?_)
      exact wpAny_pure (h ys.toArray d p)
    · refine wpAny_bind ?_
      show wpAny _ _ (if (!t.led && decide (es.size > 1)) = true then _ else _) _ _ _
      rw [tl]
      rw [if_neg (by simp)]
      exact wpAny_pure (wpAny_pure (h es s.drawn (List.Perm.refl _)))
theorem quiet_at {l : List Addr} {Q : Bool → Shared → Prop} (hl : ∀ b ∈ l, ∃ S n, SetR w s.heap b S n) (h : Q true s) : wpAny (model P w) A (setsQuiet l) Q E s := by
  unfold setsQuiet
  refine wpAny_bind (wpAny_forIn_list _ (fun rest b s' => b.1 = none ∧ s' = s ∧ ∀ a ∈ rest, ∃ S n, SetR w s.heap a S n) _ ?turn ?fin l _ ⟨rfl, rfl, hl⟩)
  case turn =>
    rintro a rest ⟨b1, b2⟩ s' ⟨hb, rfl, hr⟩
    obtain ⟨S, n, o, es, ep, t, ho, hx, hd, g, nd, hm, hbd, hf, hn, ris, led⟩ := hr a (List.mem_cons_self ..)
    refine wpAny_bind (wpAny_setEntries_of ho hd hf ?_)
    refine wpAny_bind (MeetsSeq2.wpAny_forIn_array _ (fun rest' b s2 => b.1 = none ∧ s2 = s' ∧ ∀ e ∈ rest', GoodE e) _ ?t2 ?f2 es _ ⟨rfl, rfl, g⟩)
    case t2 =>
      rintro ⟨hh, x⟩ rest' ⟨c1, c2⟩ s2 ⟨hc, rfl, hg⟩
      obtain ⟨k, tk, e1, _⟩ := hg _ (List.mem_cons_self ..)
      have e1' : x = Value.int k tk := e1
      subst e1'
      have hc' : c1 = none := hc
      subst hc'
      exact wpAny_pure ⟨rfl, rfl, fun e he => hg e (List.mem_cons_of_mem _ he)⟩
    case f2 =>
      rintro ⟨c1, c2⟩ s2 ⟨hc, rfl, hg⟩
      have hc' : c1 = none := hc
      subst hc'
      exact wpAny_pure ⟨rfl, rfl, fun e he => hr e (List.mem_cons_of_mem _ he)⟩
  case fin =>
    rintro ⟨b1, b2⟩ s' ⟨hb, rfl, hr⟩
    have hb' : b1 = none := hb
    subst hb'
    exact wpAny_pure h
/-- the elements of the set at a, in some order -/
def Els (S : Int → Bool) (n : Nat) (es : Array (Int × Value)) : Prop := (∀ e ∈ es.toList, GoodE e) ∧ (es.toList.map keyOf).Nodup ∧ (∀ k, S k = true ↔ k ∈ es.toList.map keyOf) ∧ es.size = n
theorem Els.perm {es es' : Array (Int × Value)} (h : Els S n es) (p : es'.toList.Perm es.toList) : Els S n es' := by
  obtain ⟨h1, h2, h3, h4⟩ := h
  refine ⟨fun e he => h1 e (p.mem_iff.mp he), (p.map keyOf).nodup_iff.mpr h2, fun k => (h3 k).trans (p.map keyOf).mem_iff.symm, ?_⟩
  rw [← h4, ← Array.length_toList, ← Array.length_toList, p.length_eq]
theorem unseen_at {f : Addr} {Sf : Int → Bool} {nf : Nat} {others : List Addr} {Q : Array (Int × Value) → Shared → Prop} (R : SetR w s.heap a S n) (Rf : SetR w s.heap f Sf nf) (ne : a ≠ f) (ho' : ∀ b ∈ others, ∃ S n, SetR w s.heap b S n)
    (h : ∀ (es' : Array (Int × Value)) h' d, Els S n es' → Heap.SameBut f s.heap h' → SetR w h' f Sf nf → Q es' { s with heap := h', drawn := d }) : wpAny (model P w) A (setWalkUnseen a others (some f)) Q E s := by
  have R' := R
  have Rf' := Rf
  obtain ⟨o, es, ep, t, ho, hx, hd, g, nd, hm, hb, hf, hn, ris, led⟩ := R
  obtain ⟨fo, fes, fep, ft, fho, fhx, fhd, fg, fnd, fhm, fhb, fhf, fhn, fris, fled⟩ := Rf
  have els : Els S n es := ⟨g, nd, hm, hn⟩
  have walk : wpAny (model P w) A (setWalk a) Q E s := walk_at ho hd hf led fun es' d p => h es' s.heap d (els.perm p) (Heap.SameBut.refl _ _) Rf'
  unfold setWalkUnseen
  refine wpAny_bind (wpAny_setState_of ho hd hf ?_)
  dsimp only
  refine wpAny_bind (wpAny_byText ?_)
  split
  · exact walk
  · rename_i hc
    have nbt : w.params.followText "set-order" ≠ true := fun z => hc (by rw [z]; rfl)
    have tl : t.led = true := led.resolve_left nbt
    have fl : ft.led = true := fled.resolve_left nbt
    refine wpAny_bind (quiet_at (fun b hb => ?_) ?_)
    · rcases List.mem_cons.mp hb with z | z
      · rw [z]; exact ⟨S, n, R'⟩
      · exact ho' b z
    · rw [if_neg (by decide)]
      refine wpAny_bind (wpAny_rule ?_)
      refine wpAny_bind (wpAny_setState_of fho fhd fhf ?_)
      dsimp only
      split
      · have ff : ({ ft with led := ft.led && t.led, plain := ft.plain && t.plain } : SetTable).fits fes.size = true := fhf
        refine wpAny_bind (wpAny_storeSet_of fho fhd ?_ (fits_of_scanBound fhb))
        refine wpAny_pure (h es _ s.drawn els (Heap.SameBut.update s.heap f _) ⟨_, fes, _, _, store_at fho fhd, fhx, rfl, fg, fnd, fhm, fhb, ff, fhn, fris, .inr ?_⟩)
        show (ft.led && t.led) = true
        rw [fl, tl]; rfl
      · exact wpAny_pure (h es s.heap s.drawn els (Heap.SameBut.refl _ _) Rf')
theorem road0 {ts to : SetTable} (h0 : ts.fill = 0) : ts.road to = if (ts.mask == to.mask && to.dummies.isEmpty) = true then .slotForSlot else .clean := by
  unfold SetTable.road
  rw [h0]; rfl
/-- into an empty one -/
theorem merge0 {r : Addr} {each : Sem Unit} {Q : Unit → Shared → Prop} (Rr : SetQ w s.heap r (fun _ => false) 0) (Ro : SetR w s.heap a S n) (ne : r ≠ a) (sm : Sml6 S)
    (h : ∀ h', Heap.SameBut r s.heap h' → SetQ w h' r S n → Q () { s with heap := h' }) : wpAny (model P w) A (setMerge r a each) Q E s := by
  have Rr' := Rr
  obtain ⟨o, es, ep, t, ho, hx, hd, g, nd, hm, hb, hf, hn, ris, led⟩ := Ro
  have SM := sm_of sm g nd hm
  have sz := SM.size
  unfold setMerge
  rw [if_neg (by simpa using ne)]
  refine wpAny_bind (wpAny_setState_of ho hd hf ?_)
  dsimp only
  by_cases he : es.isEmpty = true
  · rw [if_pos he]
    have e0 : es = #[] := Array.isEmpty_iff.mp he
    subst e0
    refine wpAny_pure ?_
    have hS : S = fun _ => false := funext fun k => by
      cases z : S k with
      | false => rfl
      | true => have := (hm k).mp z; simp at this
    have hn0 : n = 0 := hn.symm
    subst hS hn0
    exact h s.heap (Heap.SameBut.refl _ _) Rr'
  · rw [if_neg he]
    refine wpAny_bind (room_small Rr' (fun k z => nomatch z) (by omega) fun h1 sb1 R1 => ?_)
    obtain ⟨ro, res, rep, rt, rho, rhx, rhd, rg, rnd, rhm, rhb, rhf, rhn, rris, rled, rmsk, rdum⟩ := R1
    have ho1 : h1.get? a = some o := (sb1.2 a ne.symm).trans ho
    refine wpAny_bind (wpAny_setState_of (s := { s with heap := h1 }) rho rhd rhf ?_)
    dsimp only
    have r0 : rt.fill = 0 := by
      unfold SetTable.fits at rhf
      rw [Bool.and_eq_true, beq_iff_eq] at rhf
      unfold SetTable.fill
      rw [rhf.1, rdum, rhn]; rfl
    rw [road0 r0]
    by_cases hc : (rt.mask == t.mask && t.dummies.isEmpty) = true
    · rw [if_pos hc]
      dsimp only
      rw [Bool.and_eq_true, beq_iff_eq] at hc
      refine wpAny_storeSet_of (s := { s with heap := h1 }) rho rhd ?_ (fits_of_scanBound hb)
      refine h _ (sb1.trans (Heap.SameBut.update h1 r _)) ⟨_, es, _, _, store_at rho rhd, rhx, rfl, g, nd, hm, hb, hf, hn, ris, ?_, by rw [← hc.1]; exact rmsk, Array.isEmpty_iff.mp hc.2⟩
      rcases led with z | z
      · exact .inl z
      · rcases rled with y | y
        · exact .inl y
        · exact .inr (by show (rt.led && t.led) = true; rw [y, z]; rfl)
    · rw [if_neg hc]
      dsimp only
      obtain ⟨t', order, e1, e2, e3, e4, e5, e6, e7, e8, e9⟩ := laid_small (mask := rt.mask) (finger := rt.finger) (moves := rt.moves) (led := rt.led && t.led) (plain := rt.plain && t.plain) rmsk SM
      refine wpAny_bind ?_
      rw [e1]
      show wpAny _ _ (if ((order.filterMap (es[·]?)).size != es.size) = true then _ else _) _ _ _
      rw [if_neg (by rw [e8]; simp)]
      refine wpAny_pure ?_
      dsimp only
      have hb' : (order.filterMap (es[·]?)).size < scanBound := by rw [e8]; exact hb
      refine wpAny_storeSet_of (s := { s with heap := h1 }) rho rhd ?_ (fits_of_scanBound hb')
      refine h _ (sb1.trans (Heap.SameBut.update h1 r _)) ⟨_, _, _, t', store_at rho rhd, rhx, rfl, e7.good, e7.nd, fun k => (hm k).trans (e9 k).symm, hb', ?_, by rw [e8]; exact hn, e5, ?_, by rw [e2]; exact rmsk, e3⟩
      · unfold SetTable.fits SetTable.fill
        rw [e6, e3, e2, e8]
        simp
        omega
      · rcases led with z | z
        · exact .inl z
        · rcases rled with y | y
          · exact .inl y
          · exact .inr (by rw [e4, y, z]; rfl)
/-- into any one -/
theorem merge1 {r : Addr} {Sr : Int → Bool} {nr : Nat} {each : Sem Unit} {Q : Unit → Shared → Prop} (Rr : SetQ w s.heap r Sr nr) (Ro : SetR w s.heap a S n) (ne : r ≠ a) (smr : Sml6 Sr) (sm : Sml6 S)
    (heach : ∀ (s' : Shared) (Q' : Unit → Shared → Prop), (∀ o, s.heap.get? a = some o → s'.heap.get? a = some o) → Q' () s' → wpAny (model P w) A each Q' E s')
    (h : ∀ h' d c, Heap.SameBut r s.heap h' → SetR w h' r (fun k => Sr k || S k) c → c ≤ 20 → Q () { s with heap := h', drawn := d }) : wpAny (model P w) A (setMerge r a each) Q E s := by
  have szr : nr ≤ 7 := by
    obtain ⟨o, es, ep, t, ho, hx, hd, g, nd, hm, hb, hf, hn, _⟩ := Rr
    rw [← hn]; exact (sm_of smr g nd hm).size
  by_cases h0 : nr = 0
  · subst h0
    have e0 : Sr = fun _ => false := by
      obtain ⟨o, es, ep, t, ho, hx, hd, g, nd, hm, hb, hf, hn, _⟩ := Rr
      funext k
      cases z : Sr k with
      | false => rfl
      | true =>
        have y := (hm k).mp z
        have : es.toList = [] := List.length_eq_zero_iff.mp (by rw [Array.length_toList]; exact hn)
        rw [this] at y; simp at y
    subst e0
    have sz : n ≤ 7 := by
      obtain ⟨o, es, ep, t, ho, hx, hd, g, nd, hm, hb, hf, hn, _⟩ := Ro
      rw [← hn]; exact (sm_of sm g nd hm).size
    refine merge0 Rr Ro ne sm fun h' sb R => ?_
    have e1 : (fun k => false || S k) = S := by funext k; rfl
    exact h h' s.drawn n sb (by rw [e1]; exact R.r) (by omega)
  · have Ro' := Ro
    obtain ⟨o, es, ep, t, ho, hx, hd, g, nd, hm, hb, hf, hn, ris, led⟩ := Ro
    have SM := sm_of sm g nd hm
    have sz := SM.size
    unfold setMerge
    rw [if_neg (by simpa using ne)]
    refine wpAny_bind (wpAny_setState_of ho hd hf ?_)
    dsimp only
    by_cases he : es.isEmpty = true
    · rw [if_pos he]
      have e0 : es = #[] := Array.isEmpty_iff.mp he
      subst e0
      refine wpAny_pure ?_
      have hS : S = fun _ => false := funext fun k => by
        cases z : S k with
        | false => rfl
        | true => have := (hm k).mp z; simp at this
      subst hS
      have e1 : (fun k => Sr k || false) = Sr := by funext k; exact Bool.or_false _
      exact h s.heap s.drawn nr (Heap.SameBut.refl _ _) (by rw [e1]; exact Rr.r) (by omega)
    · rw [if_neg he]
      refine wpAny_bind (room_small Rr smr (by omega) fun h1 sb1 R1 => ?_)
      have R1r := R1.r
      obtain ⟨ro, res, rep, rt, rho, rhx, rhd, rg, rnd, rhm, rhb, rhf, rhn, rris, rled, rmsk, rdum⟩ := R1
      have ho1 : h1.get? a = some o := (sb1.2 a ne.symm).trans ho
      refine wpAny_bind (wpAny_setState_of (s := { s with heap := h1 }) rho rhd rhf ?_)
      dsimp only
      have rf : rt.road t = .oneByOne := by
        unfold SetTable.road
        rw [if_pos]
        unfold SetTable.fits at rhf
        rw [Bool.and_eq_true, beq_iff_eq] at rhf
        unfold SetTable.fill
        rw [rhf.1, rhn, rdum]
        simp
        exact h0
      rw [rf]
      dsimp only
      have Ro1 : SetR w h1 a S n := Ro'.at fun o' z => (sb1.2 a ne.symm).trans z
      refine wpAny_bind (unseen_at (s := { s with heap := h1 }) Ro1 R1r ne.symm (fun b hb => by rw [List.mem_singleton.mp hb]; exact ⟨_, _, R1r⟩) fun es' h2 d el sb2 R2 => ?_)
      obtain ⟨eg, en, em, esz⟩ := el
      have sb12 := sb1.trans sb2
      refine wpAny_bind (MeetsSeq2.wpAny_forIn_array _ (fun rest b s' => ∃ h' S' c, s' = { s with heap := h', drawn := d } ∧ Heap.SameBut r s.heap h' ∧ SetR w h' r S' c ∧ c + rest.length ≤ 14 ∧ (∀ e ∈ rest, GoodE e) ∧ ∀ k, (S' k = true ∨ k ∈ rest.map keyOf) ↔ (Sr k = true ∨ S k = true)) _ ?turn ?fin es' _ ⟨h2, Sr, nr, rfl, sb12, R2, by rw [Array.length_toList, esz, ← hn]; omega, eg, fun k => by rw [em k]⟩)
      case turn =>
        rintro ⟨hh, x⟩ rest b s' ⟨h', S', c, rfl, sb, R', hc, hg, hk⟩
        obtain ⟨k, tk, e1, e2⟩ := hg _ (List.mem_cons_self ..)
        have e1' : x = Value.int k tk := e1
        have e2' : hh = (intKind P w).hash k := e2
        subst e1' e2'
        rw [List.length_cons] at hc
        refine wpAny_bind (wpAny_holding (setR_add_hashed (s := { s with heap := h', drawn := d }) R' (by unfold scanBound; omega) fun h3 sb3 R3 => ?_))
        have sb' := sb.trans sb3
        have ho3 : h3.get? a = some o := (sb'.2 a ne.symm).trans ho
        refine wpAny_bind (heach _ _ (fun o' z => (sb'.2 a ne.symm).trans z) ?_)
        refine wpAny_bind (wpAny_setState_of (s := { s with heap := h3, drawn := d }) ho3 hd hf ?_)
        dsimp only
        rw [if_neg (by simp)]
        refine wpAny_pure ⟨h3, _, _, rfl, sb', R3, ?_, fun e he => hg e (List.mem_cons_of_mem _ he), fun j => ?_⟩
        · split <;> omega
        · rw [← hk j, Bool.or_eq_true, decide_eq_true_iff, List.map_cons, List.mem_cons]
          have ek : keyOf ((intKind P w).hash k, Value.int k tk) = k := rfl
          rw [ek]
          constructor
          · rintro ((z | z) | z)
            · exact .inl z
            · exact .inr (.inl z)
            · exact .inr (.inr z)
          · rintro (z | z | z)
            · exact .inl (.inl z)
            · exact .inl (.inr z)
            · exact .inr z
      case fin =>
        rintro b s' ⟨h', S', c, rfl, sb, R', hc, hg, hk⟩
        refine wpAny_pure ?_
        have eS : S' = fun k => Sr k || S k := by
          funext k
          have z := hk k
          simp only [List.map_nil, List.not_mem_nil, or_false] at z
          rw [Bool.eq_iff_iff, z, Bool.or_eq_true]
        rw [eS] at R'
        exact h h' d c sb R' (by omega)
end
end Kw

set_option Elab.async false
set_option linter.all false
set_option maxRecDepth 100000
set_option maxHeartbeats 4000000
namespace Kw
open PySem PySem.Spec PyProof.Rows L2
section
variable {P : Program} {w : World} {A : Around} {E : Value → Shared → Prop} {s : Shared} {l r : Addr} {S T : Int → Bool} {n m : Nat}
theorem set_ty (R : SetR w s.heap l S n) : s.TypeIs (.ref l) "set" := by
  obtain ⟨o, es, ep, t, ho, hx, _⟩ := R
  exact ⟨o, ho, hx.1⟩
theorem any_set {Q : Bool → Shared → Prop} (R : SetR w s.heap l S n) (h : Q true s) : wpAny (model P w) A (Builtin.Frozenset.isAnySet (.ref l)) Q E s := by
  unfold Builtin.Frozenset.isAnySet orM
  refine wpAny_bind (wpAny_isInstance (set_ty R) PySem.F.sub_set_set ?_)
  exact wpAny_pure h
theorem both_sets {Q : Bool → Shared → Prop} (Rl : SetR w s.heap l S n) (Rr : SetR w s.heap r T m) (h : Q true s) : wpAny (model P w) A (Builtin.Frozenset.isAnySet (.ref l) <&&> Builtin.Frozenset.isAnySet (.ref r)) Q E s := by
  unfold andM
  exact wpAny_bind (any_set Rl (any_set Rr h))
theorem fresh_q {h : Heap} : SetQ w (h.push { cls := .type "set", dict := none, data := .set #[] 0 (.fresh 0 0 (!w.params.followText "set-order")) }) h.objs.size (fun _ => false) 0 := by
  refine ⟨_, #[], 0, _, Heap.get?_push_size _ rfl, ⟨rfl, rfl, rfl⟩, rfl, (fun e he => by simp at he), (by simp), (fun k => by simp), (by decide), (by rfl), rfl, List.Pairwise.nil, ?_, Nat.le_refl 7, rfl⟩
  show _ ∨ (!w.params.followText "set-order") = true
  cases w.params.followText "set-order" <;> simp
theorem new_set_at {Q : Value → Shared → Prop} (h : Q (.ref s.heap.objs.size) { s with heap := s.heap.push { cls := .type "set", dict := none, data := .set #[] 0 (.fresh 0 0 (!w.params.followText "set-order")) } }) : wpAny (model P w) A (newSet (.type "set")) Q E s := by
  unfold newSet
  refine wpAny_bind (wpAny_byText ?_)
  simp only [newObj]
  exact wpAny_bind (wpAny_alloc (wpAny_pure h))
theorem copy_at {Q : Value → Shared → Prop} (R : SetR w s.heap l S n) (sm : Sml6 S)
    (h : ∀ h', (∀ b o, s.heap.get? b = some o → h'.get? b = some o) → SetQ w h' s.heap.objs.size S n → Q (.ref s.heap.objs.size) { s with heap := h' }) : wpAny (model P w) A (Builtin.Frozenset.copyOf l) Q E s := by
  unfold Builtin.Frozenset.copyOf Builtin.Frozenset.baseOf
  refine wpAny_bind (wpAny_bind (wpAny_isInstance (set_ty R) PySem.F.sub_set_set ?_))
  refine wpAny_pure ?_
  refine wpAny_bind ?_
  unfold newSet
  refine wpAny_bind (wpAny_byText ?_)
  have ll : l < s.heap.objs.size := R.lt
  have fin : wpAny (model P w) A (Builtin.Frozenset.addrOf (.ref s.heap.objs.size) >>= fun x => setMerge x l >>= fun _ => pure (Value.ref s.heap.objs.size)) Q E { s with heap := s.heap.push { cls := .type "set", dict := none, data := .set #[] 0 (.fresh 0 0 (!w.params.followText "set-order")) } } := by
    refine wpAny_bind (wpAny_pure ?_)
    refine wpAny_bind (merge0 (s := { s with heap := _ }) fresh_q (R.at fun o z => Heap.get?_push_of_some _ z) (Nat.ne_of_gt ll) sm fun h' sb R' => ?_)
    refine wpAny_pure (h h' (fun b o z => ?_) R')
    exact (sb.2 b (Nat.ne_of_lt (Heap.lt_size z))).trans (Heap.get?_push_of_some _ z)
  simp only [newObj]
  refine wpAny_bind (wpAny_alloc (wpAny_pure ?_))
  exact fin
theorem epoch_same {was : Nat} {id : String} {Q : Unit → Shared → Prop} {o : Obj} {es : Array (Int × Value)} {t : SetTable} (ho : s.heap.get? l = some o) (hd : o.data = .set es was t) (hf : t.fits es.size = true) (h : Q () s) : wpAny (model P w) A (Builtin.Frozenset.unchanged id l was) Q E s := by
  unfold Builtin.Frozenset.unchanged
  refine wpAny_bind (wpAny_setEpoch_of ho hd hf ?_)
  rw [if_neg (by simp)]
  exact wpAny_pure h
theorem or_body {Q : Value → Shared → Prop} (Rl : SetR w s.heap l S n) (Rr : SetR w s.heap r T m) (ne : l ≠ r) (sl : Sml6 S) (sr : Sml6 T)
    (h : ∀ h' d c, (∀ b o, s.heap.get? b = some o → h'.get? b = some o) → SetR w h' s.heap.objs.size (fun k => S k || T k) c → c ≤ 20 → Q (.ref s.heap.objs.size) { s with heap := h', drawn := d }) :
    wpAny (model P w) A (Builtin.«frozenset.__or__» ⟨[.ref l, .ref r], []⟩) (fun fin s' => ∃ v, fin = .done (.ret v) ∧ Q v s') E s := by
  refine wpAny_bind (m := Builtin.Frozenset.slot1 "__or__" ⟨[.ref l, .ref r], []⟩) ?_
  refine wpAny_of_eq (a := (Value.ref l, Value.ref r)) rfl ?_
  dsimp only
  refine wpAny_bind (both_sets Rl Rr ?_)
  refine wp_if_neg (by decide) ?_
  refine wpAny_bind (m := Builtin.Frozenset.addrOf (.ref l)) (wpAny_pure ?_)
  refine wpAny_bind ?_
  refine wpAny_bind (m := Builtin.Frozenset.copyOf l) (copy_at Rl sl fun h1 k1 R1 => ?_)
  have lr : r < s.heap.objs.size := Rr.lt
  have nr : (Value.ref r != Value.ref l) = true := by
    rw [bne_iff_ne]; exact fun z => ne (Value.ref.inj z).symm
  have Rr1 : SetR w h1 r T m := Rr.at fun o z => k1 _ _ z
  have big : h1.objs.size > s.heap.objs.size := by
    obtain ⟨o, _, _, _, ho, _⟩ := R1
    exact Heap.lt_size ho
  refine wp_if_pos nr ?_
  refine wpAny_bind (m := Builtin.Frozenset.addrOf (.ref s.heap.objs.size)) (wpAny_pure ?_)
  refine wpAny_bind (wpAny_holding ?_)
  unfold Builtin.Frozenset.updateFrom
  refine wpAny_bind (any_set (s := { s with heap := h1 }) Rr1 ?_)
  refine wp_if_pos rfl ?_
  refine wpAny_bind (m := Builtin.Frozenset.addrOf (.ref r)) (wpAny_pure ?_)
  unfold Builtin.Frozenset.merge
  obtain ⟨ro, res, rep, rt, rho, rhx, rhd, rg, rnd, rhm, rhb, rhf, rhn, rris, rled⟩ := id Rr1
  refine wpAny_bind (wpAny_setEpoch_of (s := { s with heap := h1 }) rho rhd rhf ?_)
  refine merge1 (s := { s with heap := h1 }) R1 Rr1 (Nat.ne_of_gt lr) sl sr (fun s' Q' ks q => epoch_same (ks _ rho) rhd rhf q) fun h2 d c sb R2 hc => ?_
  refine wpAny_pure (wpAny_pure ⟨_, rfl, h h2 d c (fun b o z => ?_) R2 hc⟩)
  exact (sb.2 b (Nat.ne_of_lt (Heap.lt_size z))).trans (k1 _ _ z)
theorem unseen_few {others : List Addr} {f : Option Addr} {Q : Array (Int × Value) → Shared → Prop} (R : SetR w s.heap l S n) (hn : n ≤ 1) (h : ∀ (es' : Array (Int × Value)) d, Els S n es' → Q es' { s with drawn := d }) : wpAny (model P w) A (setWalkUnseen l others f) Q E s := by
  obtain ⟨o, es, ep, t, ho, hx, hd, g, nd, hm, hb, hf, hsz, ris, led⟩ := R
  unfold setWalkUnseen
  refine wpAny_bind (wpAny_setState_of ho hd hf ?_)
  dsimp only
  refine wpAny_bind (wpAny_byText ?_)
  refine wp_if_pos (by rw [hsz, decide_eq_true hn, Bool.or_true]) ?_
  exact walk_at ho hd hf led fun es' d p => h es' d (Els.perm ⟨g, nd, hm, hsz⟩ p)
theorem size_at {Q : Nat → Shared → Prop} (R : SetR w s.heap l S n) (h : Q n s) : wpAny (model P w) A (Builtin.Frozenset.sizeOf l) Q E s := by
  obtain ⟨o, es, ep, t, ho, hx, hd, g, nd, hm, hb, hf, hn, ris, led⟩ := R
  unfold Builtin.Frozenset.sizeOf
  refine wpAny_bind (wpAny_setEntries_of ho hd hf (wpAny_pure ?_))
  rw [hn]; exact h
theorem sub_body {Q : Value → Shared → Prop} (Rl : SetR w s.heap l S n) (Rr : SetR w s.heap r T m) (ne : l ≠ r) (sl : Sml6 S) (sr : Sml6 T)
    (h : ∀ h' d c, (∀ b o, s.heap.get? b = some o → h'.get? b = some o) → SetR w h' s.heap.objs.size (fun k => S k && !T k) c → c ≤ 20 → Q (.ref s.heap.objs.size) { s with heap := h', drawn := d }) :
    wpAny (model P w) A (Builtin.«frozenset.__sub__» ⟨[.ref l, .ref r], []⟩) (fun fin s' => ∃ v, fin = .done (.ret v) ∧ Q v s') E s := by
  have szl : n ≤ 7 := by
    obtain ⟨o, es, ep, t, ho, hx, hd, g, nd, hm, hb, hf, hn, _⟩ := Rl
    rw [← hn]; exact (sm_of sl g nd hm).size
  have lr : r < s.heap.objs.size := Rr.lt
  have ll : l < s.heap.objs.size := Rl.lt
  refine wpAny_bind (m := Builtin.Frozenset.slot1 "__sub__" ⟨[.ref l, .ref r], []⟩) ?_
  refine wpAny_of_eq (a := (Value.ref l, Value.ref r)) rfl ?_
  dsimp only
  refine wpAny_bind (both_sets Rl Rr ?_)
  refine wp_if_neg (by decide) ?_
  refine wpAny_bind (m := Builtin.Frozenset.addrOf (.ref l)) (wpAny_pure ?_)
  refine wpAny_bind ?_
  unfold Builtin.Frozenset.difference
  dsimp only
  refine wpAny_bind (any_set Rr ?_)
  refine wp_if_neg (by decide) ?_
  refine wpAny_bind (m := Builtin.Frozenset.addrOf (.ref r)) (wpAny_pure ?_)
  refine wp_if_neg (show ¬ (!true && (r == sysModules)) = true by simp) ?_
  refine wp_if_pos rfl ?_
  refine wpAny_bind (size_at Rr ?_)
  refine wpAny_bind (size_at Rl ?_)
  by_cases big : n / 4 > m
  · refine wp_if_pos big ?_
    have m0 : m = 0 := by omega
    subst m0
    have hT : T = fun _ => false := by
      obtain ⟨o, es, ep, t, ho, hx, hd, g, nd, hm, hb, hf, hn, _⟩ := Rr
      funext k
      cases z : T k with
      | false => rfl
      | true =>
        have y := (hm k).mp z
        have : es.toList = [] := List.length_eq_zero_iff.mp (by rw [Array.length_toList]; exact hn)
        rw [this] at y; simp at y
    subst hT
    refine wpAny_bind (wpAny_rule ?_)
    refine wpAny_bind (copy_at Rl sl fun h1 k1 R1 => ?_)
    refine wpAny_bind (m := Builtin.Frozenset.addrOf (.ref s.heap.objs.size)) (wpAny_pure ?_)
    have Rr1 : SetR w h1 r (fun _ => false) 0 := Rr.at fun o z => k1 _ _ z
    have nr : (Value.ref r == Value.ref s.heap.objs.size) = false := beq_eq_false_iff_ne.mpr fun z => Nat.ne_of_lt lr (Value.ref.inj z)
    refine wpAny_bind (wpAny_holding ?_)
    unfold Builtin.Frozenset.differenceUpdate
    refine wp_if_neg (show ¬ (Value.ref r == Value.ref s.heap.objs.size) = true by rw [nr]; decide) ?_
    refine wpAny_bind (any_set (s := { s with heap := h1 }) Rr1 ?_)
    refine wp_if_pos rfl ?_
    refine wpAny_bind (m := Builtin.Frozenset.addrOf (.ref r)) (wpAny_pure ?_)
    refine wpAny_bind (size_at (s := { s with heap := h1 }) Rr1 ?_)
    refine wpAny_bind (size_at (s := { s with heap := h1 }) R1.r ?_)
    refine wp_if_neg (by simp) ?_
    obtain ⟨ro, res, rep, rt, rho, rhx, rhd, rg, rnd, rhm, rhb, rhf, rhn, rris, rled⟩ := id Rr1
    refine wpAny_bind (wpAny_setEpoch_of (s := { s with heap := h1 }) rho rhd rhf ?_)
    refine wpAny_bind (wpAny_holding ?_)
    refine wpAny_bind (unseen_few (s := { s with heap := h1 }) Rr1 (by decide) fun es' d el => ?_)
    have e0 : es' = #[] := Array.size_eq_zero_iff.mp el.2.2.2
    subst e0
    refine wpAny_pure ?_
    unfold setTidy
    obtain ⟨lo, les, lep, lt, lho, lhx, lhd, lg, lnd, lhm, lhb, lhf, lhn, lris, lled, lmsk, ldum⟩ := id R1
    refine wpAny_bind (wpAny_setState_of (s := { s with heap := h1, drawn := d }) lho lhd lhf ?_)
    dsimp only
    have td : lt.tooManyDummies = false := by
      unfold SetTable.tooManyDummies
      rw [ldum]; simp
    refine wp_if_neg (by rw [td]; decide) ?_
    have eS : (fun k => S k && !false) = S := by funext k; exact Bool.and_true _
    refine wpAny_pure (wpAny_pure (wpAny_pure ⟨_, rfl, h h1 d n k1 (by rw [eS]; exact R1.r) (by omega)⟩))
  · refine wp_if_neg big ?_
    unfold Builtin.Frozenset.baseOf
    refine wpAny_bind (wpAny_bind (wpAny_isInstance (set_ty Rl) PySem.F.sub_set_set ?_))
    refine wpAny_pure ?_
    refine wpAny_bind (m := newSet (.type "set")) (new_set_at ?_)
    refine wpAny_bind (m := Builtin.Frozenset.addrOf (.ref s.heap.objs.size)) (wpAny_pure ?_)
    have fq := fresh_q (w := w) (h := s.heap)
    have kp : ∀ b o, s.heap.get? b = some o → (s.heap.push { cls := .type "set", dict := none, data := .set #[] 0 (.fresh 0 0 (!w.params.followText "set-order")) }).get? b = some o := fun b o z => Heap.get?_push_of_some _ z
    generalize s.heap.push { cls := .type "set", dict := none, data := .set #[] 0 (.fresh 0 0 (!w.params.followText "set-order")) } = h1 at fq kp ⊢
    have Rl1 : SetR w h1 l S n := Rl.at fun o z => kp _ _ z
    have Rr1 : SetR w h1 r T m := Rr.at fun o z => kp _ _ z
    obtain ⟨lo, les, lep, lt, lho, lhx, lhd, lg, lnd, lhm, lhb, lhf, lhn, lris, lled⟩ := id Rl1
    refine wpAny_bind (wpAny_setEpoch_of (s := { s with heap := h1 }) lho lhd lhf ?_)
    refine wpAny_bind (wpAny_holding ?_)
    refine wpAny_bind (unseen_at (s := { s with heap := h1 }) (a := l) Rl1 fq.r (Nat.ne_of_lt ll) (fun b hb => ?_) fun es' h2 d el sb2 R2 => ?_)
    · rcases List.mem_cons.mp hb with z | z
      · rw [z]; exact ⟨_, _, Rr1⟩
      · rw [List.mem_singleton.mp z]; exact ⟨_, _, fq.r⟩
    obtain ⟨eg, en, em, esz⟩ := el
    refine wpAny_bind (MeetsSeq2.wpAny_forIn_array _ (fun rest b s' => ∃ h' S' c, s' = { s with heap := h', drawn := d } ∧ Heap.SameBut s.heap.objs.size h1 h' ∧ SetR w h' s.heap.objs.size S' c ∧ c + rest.length ≤ 14 ∧ (∀ e ∈ rest, GoodE e) ∧ (∀ k, S' k = true → T k = false) ∧ ∀ k, T k = false → ((S' k = true ∨ k ∈ rest.map keyOf) ↔ S k = true)) _ ?turn ?fin es' _ ⟨h2, _, 0, rfl, sb2, R2, by rw [Array.length_toList, esz]; omega, eg, (fun k z => (nomatch z)), fun k _ => by rw [em k]; simp⟩)
    case turn =>
      rintro ⟨hh, x⟩ rest b s' ⟨h', S', c, rfl, sb, R', hc, hg, hT, hk⟩
      obtain ⟨k, tk, e1, e2⟩ := hg _ (List.mem_cons_self ..)
      have e1' : x = Value.int k tk := e1
      have e2' : hh = (intKind P w).hash k := e2
      subst e1' e2'
      have ek : keyOf ((intKind P w).hash k, Value.int k tk) = k := rfl
      rw [List.length_cons] at hc
      have Rr2 : SetR w h' r T m := Rr1.at fun o z => (sb.2 r (Nat.ne_of_lt lr)).trans z
      have lho2 : h'.get? l = some lo := (sb.2 l (Nat.ne_of_lt ll)).trans lho
      refine wpAny_bind (wpAny_holding ?_)
      refine wp_if_pos rfl ?_
      refine wpAny_bind (wpAny_setFind_of (s := { s with heap := h', drawn := d }) (knd := intKind P w) (intKind_is P w k tk) rfl Rr2.setOf fun f hf' => ?_)
      by_cases hTk : T k = true
      · refine wp_if_neg (by rw [hf', hTk]; decide) ?_
        refine wpAny_pure ?_
        refine wpAny_bind (epoch_same (s := { s with heap := h', drawn := d }) lho2 lhd lhf ?_)
        refine wpAny_pure ⟨h', S', c, rfl, sb, R', by omega, fun e he => hg e (List.mem_cons_of_mem _ he), hT, fun j hj => ?_⟩
        rw [← hk j hj, List.map_cons, List.mem_cons, ek]
        constructor
        · rintro (z | z)
          · exact .inl z
          · exact .inr (.inr z)
        · rintro (z | z | z)
          · exact .inl z
          · rw [z, hTk] at hj; exact nomatch hj
          · exact .inr z
      · rw [Bool.not_eq_true] at hTk
        refine wp_if_pos (by rw [hf', hTk]; rfl) ?_
        refine wpAny_bind (setR_add_hashed (s := { s with heap := h', drawn := d }) R' (by unfold scanBound; omega) fun h3 sb3 R3 => ?_)
        have sb' := sb.trans sb3
        refine wpAny_pure ?_
        refine wpAny_bind (epoch_same (s := { s with heap := h3, drawn := d }) ((sb'.2 l (Nat.ne_of_lt ll)).trans lho) lhd lhf ?_)
        refine wpAny_pure ⟨h3, _, _, rfl, sb', R3, by split <;> omega, fun e he => hg e (List.mem_cons_of_mem _ he), fun j hj => ?_, fun j hj => ?_⟩
        · rw [Bool.or_eq_true, decide_eq_true_iff] at hj
          rcases hj with z | z
          · exact hT j z
          · rw [z]; exact hTk
        · rw [← hk j hj, List.map_cons, List.mem_cons, ek, Bool.or_eq_true, decide_eq_true_iff]
          constructor
          · rintro ((z | z) | z)
            · exact .inl z
            · exact .inr (.inl z)
            · exact .inr (.inr z)
          · rintro (z | z | z)
            · exact .inl (.inl z)
            · exact .inl (.inr z)
            · exact .inr z
    case fin =>
      rintro b s' ⟨h', S', c, rfl, sb, R', hc, hg, hT, hk⟩
      have eS : S' = fun k => S k && !T k := by
        funext k
        cases hTk : T k with
        | true =>
          cases z : S' k with
          | false => simp
          | true => have := hT k z; rw [hTk] at this; exact nomatch this
        | false =>
          have z := hk k hTk
          simp only [List.map_nil, List.not_mem_nil, or_false] at z
          rw [Bool.eq_iff_iff, z]; simp
      rw [eS] at R'
      refine wpAny_pure (wpAny_pure (wpAny_pure ⟨_, rfl, h h' d c (fun b o z => ?_) R' (by omega)⟩))
      exact (sb.2 b (Nat.ne_of_lt (Heap.lt_size z))).trans (kp _ _ z)
end
section
variable {X : Cx}
theorem entry_sor : entryFor table "set.__or__" = some Builtin.«frozenset.__or__» :=
  entryFor_alias (id' := "frozenset.__or__") (by kernel_rfl) rfl (by decide +kernel) (by kernel_rfl)
theorem entry_ssub : entryFor table "set.__sub__" = some Builtin.«frozenset.__sub__» :=
  entryFor_alias (id' := "frozenset.__sub__") (by kernel_rfl) rfl (by decide +kernel) (by kernel_rfl)
/-- s | t, two sets of small ints -/
def rOrS (w : World) (bin : Bool → Bool → Bool) : R2 := fun x y H Q => ∃ (a b : Addr) (S T : Int → Bool) (n m : Nat), x = .ref a ∧ y = .ref b ∧ a ≠ b ∧ H a = some (SetO w a S n) ∧ H b = some (SetO w b T m) ∧ Sml6 S ∧ Sml6 T ∧
  ∀ p c, H p = none → c ≤ 20 → Q (.ref p) (upd H p (SetO w p (fun k => bin (S k) (T k)) c))
theorem op_orS : OpR X (binaryOp .BitOr) (rOrS X.w fun a b => a || b) := by
  intro pins s σ H x y v u Q I rx ry h
  obtain ⟨a, b, S, T, n, m, rfl, rfl, ne, ha, hb, sS, sT, q⟩ := h
  cases (show v = Value.ref a from rx)
  cases (show u = Value.ref b from ry)
  have Ra := setO_get I ha
  have Rb := setO_get I hb
  refine wpAny_binaryOp_same (set_ty Ra) (set_ty Rb) PySem.F.fills_set_or PySem.F.slot_set_or ?_
  refine wpAny_call (codeAny_call_builtin PySem.F.slot_set_or.plain entry_sor (PySem.F.slot_set_or.check _ _ _ _ _ _ _ _ (set_ty Ra) (PySem.F.args_set_or_2 _ _) ?_))
  refine wpAny_mono (or_body (Q := fun v s' => v ≠ .notImplemented ∧ EP X pins σ Q v s') Ra Rb ne sS sT fun h' d c k R hc => ⟨(fun z => nomatch z), .ref s.heap.objs.size, _, ?_, rfl, q _ c (I.hok.fresh (Nat.le_refl _)) hc⟩) (fun fin s' z => ?_) fun _ _ z => z
  · exact I.call (ch := []) (Un.laid k (Nat.le_refl _) (I.hok.fresh (Nat.le_refl _))) (I.hok.laid k (Nat.le_refl _) (setO_new R)) I.bare (fun _ z => nomatch z)
  · obtain ⟨v, rfl, z⟩ := z
    exact z
theorem op_subS : OpR X (binaryOp .Sub) (rOrS X.w fun a b => a && !b) := by
  intro pins s σ H x y v u Q I rx ry h
  obtain ⟨a, b, S, T, n, m, rfl, rfl, ne, ha, hb, sS, sT, q⟩ := h
  cases (show v = Value.ref a from rx)
  cases (show u = Value.ref b from ry)
  have Ra := setO_get I ha
  have Rb := setO_get I hb
  refine wpAny_binaryOp_same (set_ty Ra) (set_ty Rb) PySem.F.fills_set_sub PySem.F.slot_set_sub ?_
  refine wpAny_call (codeAny_call_builtin PySem.F.slot_set_sub.plain entry_ssub (PySem.F.slot_set_sub.check _ _ _ _ _ _ _ _ (set_ty Ra) (PySem.F.args_set_sub_2 _ _) ?_))
  refine wpAny_mono (sub_body (Q := fun v s' => v ≠ .notImplemented ∧ EP X pins σ Q v s') Ra Rb ne sS sT fun h' d c k R hc => ⟨(fun z => nomatch z), .ref s.heap.objs.size, _, ?_, rfl, q _ c (I.hok.fresh (Nat.le_refl _)) hc⟩) (fun fin s' z => ?_) fun _ _ z => z
  · exact I.call (ch := []) (Un.laid k (Nat.le_refl _) (I.hok.fresh (Nat.le_refl _))) (I.hok.laid k (Nat.le_refl _) (setO_new R)) I.bare (fun _ z => nomatch z)
  · obtain ⟨v, rfl, z⟩ := z
    exact z
end
end Kw

set_option Elab.async false
set_option linter.all false
set_option maxRecDepth 100000
set_option maxHeartbeats 4000000
namespace Kc
open PySem PySem.Spec PyProof.Rows L2 Kg Kd Kr Kf
theorem ps_imp {X : Cx} {st : Stmt} {t t' : TS} (h : PS X st t) (i : ∀ D σ H, t' D σ H → t D σ H) : PS X st t' := ⟨fun pins s σ H D I z => h.run pins s σ H D I (i D σ H z)⟩
/-! ### rules that name the written part, for the blocks of comprehensions -/
theorem op_inK {X : Cx} {K : PySem.W.Frag} (h : X.K = K) : OpR X (compareOp .In) (rIn K false) := by subst h; exact op_in_seq
theorem op_notInK {X : Cx} {K : PySem.W.Frag} (h : X.K = K) : OpR X (compareOp .NotIn) (rIn K true) := by subst h; exact op_notIn_seq
theorem ix_tupK {X : Cx} {K : PySem.W.Frag} (h : X.K = K) : IxR X (rIxT K) := by subst h; exact ix_tup
theorem ix_listK {X : Cx} {K : PySem.W.Frag} (h : X.K = K) : IxR X (rIxL K) := by subst h; exact ix_list
theorem pe_fldK {X : Cx} {K : PySem.W.Frag} {e : Expr} {f : Str} {pos : Pos} {ta : TE} (h : X.K = K) (he : PE X e ta) (hb : attributeBase e f X.env (eval e X.env) = eval e X.env) : PE X (.Attribute e f pos) (tFld K ta f) := by subst h; exact pe_fld he hb
def rLenK (K : PySem.W.Frag) : List V → Hp → VK → Prop := fun xs H Q => ∃ p ys, xs = [.ref p] ∧ (SqL K H p ys ∨ SqT K H p ys) ∧ Q (.int (ys.length : Nat)) H
theorem call_lenK {X : Cx} {K : PySem.W.Frag} (h : X.K = K) : CallR X (.builtin "len") (rLenK K) := by
  subst h
  exact call_len_seq
/-! ### numbers in tuples -/
theorem inV_iV (j : Nat) : ∀ l : List Nat, inV (.int (j : Nat)) (l.map iV) = decide (j ∈ l)
  | [] => by simp [inV]
  | a :: l => by
    have z := inV_iV j l
    unfold inV at z ⊢
    rw [List.map_cons, List.any_cons, z]
    have e : eqV (iV a) (.int (j : Nat)) = decide (j = a) := by
      show (((a : Nat) : Int) == (j : Nat)) = _
      by_cases c : j = a
      · subst c; simp
      · have c2 : ¬ ((a : Nat) : Int) = (j : Nat) := by omega
        simp [c, c2]
    rw [e]
    by_cases c : j = a
    · simp [c]
    · simp [c]
theorem flat_iV : ∀ l : List Nat, (l.map iV).all flatV = true
  | [] => rfl
  | a :: l => by rw [List.map_cons, List.all_cons, flat_iV l]; rfl
theorem rgf_succ (P : Nat → Bool) (i : Nat) : (List.range (i + 1)).filter P = (List.range i).filter P ++ (if P i = true then [i] else []) := by
  rw [List.range_succ, List.filter_append]
  congr 1
  by_cases c : P i = true
  · simp [c]
  · simp [c]
theorem rgf_len (P : Nat → Bool) (i : Nat) : ((List.range i).filter P).length ≤ i := by
  have := List.length_filter_le P (List.range i)
  rwa [List.length_range] at this
/-- [i for i in range(n) if P(i)] where nothing that stands is changed -/
theorem lc_filt {n : Nat} {g : TG} {tt : TT} {te : TE} {vs : List Nat} {σ : L2.St} {H1 : Hp} {D : Addr} {Qd : Hp → Prop} (P : Nat → Bool) (nD : H1 D = none) (hn : n ≤ 900)
    (hs : ∀ (i : Nat) (H : Hp), i < n → Same H1 H → ∀ (R : V → Hp → Prop) (R0 : Hp → Prop), (∀ H', Same H H' → (P i = true → R (iV i) H') ∧ (P i = false → R0 H')) →
      g (.int (0 + (i : Nat))) (wipe σ vs) H fun σ2 H2 => wipe σ2 vs = wipe σ vs ∧ tt σ2 H2 fun b H3 => if b = true then te σ2 H3 R else R0 H3)
    (hd : ∀ H, Same H1 H → H D = some (.lst (((List.range n).filter P).map iV)) → Qd H) :
    ∃ W : Nat → Nat → Hp → Prop, (∃ m, W 0 m (upd H1 D (.lst []))) ∧ ∀ i m H, W i m H →
      ((Itr 0 n).stop i H ∧ Qd H) ∨ ((Itr 0 n).go i H ∧ ∃ Nx : Hp → Prop, (∀ H', Nx H' → ∃ m', m' < m ∧ W (i + 1) m' H') ∧ ∀ x H', (Itr 0 n).yld i H x H' → g x (wipe σ vs) H' fun σ2 H2 => wipe σ2 vs = wipe σ vs ∧ tt σ2 H2 fun b H3 =>
        if b = true then te σ2 H3 fun y H4 => ∃ acc, H4 D = some (.lst acc) ∧ acc.length < sizeLine ∧ Nx (upd H4 D (.lst (acc ++ [y]))) else Nx H3) := by
  refine lc_range (lo := 0) (n := n) (fun i H => Same H1 H ∧ H D = some (.lst (((List.range i).filter P).map iV))) ⟨same_new nD, upd_same⟩ (fun i H hi p => ?_) (fun H p => hd H p.1 p.2)
  refine hs i H hi p.1 _ _ (fun H' s' => ⟨fun c => ?_, fun c => ?_⟩)
  · refine ⟨_, s' _ _ p.2, ?_, fun b o z => ?_, ?_⟩
    · rw [List.length_map]
      have := rgf_len P i
      exact small1000 (by omega)
    · rw [upd_ne (ne_of_none z nD)]; exact s' _ _ (p.1 _ _ z)
    · rw [upd_same, rgf_succ, if_pos c, List.map_append]; rfl
  · refine ⟨p.1.trans s', ?_⟩
    rw [rgf_succ, if_neg (by rw [c]; exact Bool.false_ne_true), List.append_nil]
    exact s' _ _ p.2
/-! ### the parts of kinds -/
theorem tu_elders {H : Hp} {v : V} {es : List (List Nat)} (h : Tu H v (pdE es)) : ∃ a xs, v = .ref a ∧ H a = some (.tup xs) ∧ xs.length = es.length ∧ TuAll H xs (es.map pdI) := by
  unfold pdE at h
  cases h with
  | @tup a xs _ h1 h2 h3 => exact ⟨a, xs, rfl, h1, by rw [h3.length, List.length_map], h3⟩
theorem tus_at {H : Hp} {xs : List V} {es : List (List Nat)} (h : TuAll H xs (es.map pdI)) {i : Nat} (hi : i < es.length) : ∃ b, xs[i]? = some (.ref b) ∧ H b = some (.tup ((es.getD i []).map iV)) ∧ Tu H (.ref b) (pdI (es.getD i [])) := by
  have e : es[i]? = some (es.getD i []) := by rw [List.getD_eq_getElem?_getD, List.getElem?_eq_getElem hi]; rfl
  obtain ⟨v, h1, h2⟩ := h.get' (i := i) (d := pdI (es.getD i [])) (get_map e)
  obtain ⟨b, rfl, h3, _⟩ := tu_inv h2
  exact ⟨b, h1, h3, h2⟩
theorem getD_lots {es : List (List Nat)} {k : Nat} (hk : k < es.length) : (lotsT es).getD k [] = lot es k := by
  unfold lotsT
  rw [List.getD_eq_getElem?_getD, List.getElem?_map, List.getElem?_range hk]; rfl
theorem len_lots (es : List (List Nat)) : (lotsT es).length = es.length := by
  unfold lotsT
  rw [List.length_map, List.length_range]
theorem tab_at {H : Hp} {t : V} {es : List (List Nat)} (h : Tu H t (pdE (lotsT es))) {k : Nat} (hk : k < es.length) : ∃ a xs b, t = .ref a ∧ H a = some (.tup xs) ∧ xs[k]? = some (.ref b) ∧ H b = some (.tup ((lot es k).map iV)) ∧ Tu H (.ref b) (pdI (lot es k)) := by
  obtain ⟨a, xs, rfl, ha, _, hA⟩ := tu_elders h
  obtain ⟨b, h1, h2, h3⟩ := tus_at hA (i := k) (by rw [len_lots]; exact hk)
  rw [getD_lots hk] at h2 h3
  exact ⟨a, xs, b, rfl, ha, h1, h2, h3⟩
/-- the kinds of which k is an elder -/
def hei (es : List (List Nat)) (k : Nat) : List Nat := (List.range es.length).filter (fun i => decide (k ∈ es.getD i []))
/-- the kinds below n that are not in cl -/
def dif (n : Nat) (cl : List Nat) : List Nat := (List.range n).filter (fun i => !decide (i ∈ cl))
end Kc

set_option Elab.async false
set_option linter.all false
set_option maxRecDepth 100000
set_option maxHeartbeats 4000000
/-! Rows that are chosen; truths in lists. -/
namespace Kf
open PySem PySem.Spec PyProof.Rows L2 Kg Kd
theorem inV_fl : ∀ l : List Bool, inV (.bl false) (l.map V.bl) = !l.all id
  | [] => rfl
  | a :: l => by
    have z := inV_fl l
    unfold inV at z ⊢
    rw [List.map_cons, List.any_cons, List.all_cons, z]
    cases a <;> rfl
theorem flat_bls : ∀ l : List Bool, (l.map V.bl).all flatV = true
  | [] => rfl
  | a :: l => by rw [List.map_cons, List.all_cons, flat_bls l]; rfl
theorem pi_tupK {X : Cx} {K : PySem.W.Frag} {tg e : Expr} {te : TE} (h : X.K = K) (he : PE X e te) : PI X tg e (iTup K te) := by subst h; exact pi_tup he
/-- the first row that holds, from a place on -/
theorem chosen_from {lot : List Nat} : ∀ {rs : List Kf.Row} {i : Nat}, (∀ j, j < i → ∀ r, rs[j]? = some r → holds lot r.1 = false) → (∀ r, rs[i]? = some r → holds lot r.1 = true → chosenR lot rs = some i) ∧ (rs.length ≤ i → chosenR lot rs = none)
  | rs, i, h => by
    constructor
    · intro r hr ho
      unfold chosenR
      rw [List.findIdx?_eq_some_iff_getElem]
      obtain ⟨hl, e⟩ := List.getElem?_eq_some_iff.mp hr
      refine ⟨hl, by rw [e]; exact ho, fun j hj => ?_⟩
      have := h j hj rs[j] (List.getElem?_eq_getElem (by omega))
      rw [this]; simp
    · intro hl
      unfold chosenR
      rw [List.findIdx?_eq_none_iff]
      intro r hr
      obtain ⟨j, hj⟩ := List.getElem?_of_mem hr
      exact h j (by have := (List.getElem?_eq_some_iff.mp hj).1; omega) r hj
theorem answerR_chosen (lot : List Nat) (rs : List Kf.Row) : (∃ k r, chosenR lot rs = some k ∧ rs[k]? = some r ∧ answerR lot rs = r.2) ∨ (chosenR lot rs = none ∧ answerR lot rs = 0) := by
  unfold answerR chosenR
  cases e : rs.findIdx? (fun r => holds lot r.1) with
  | none =>
    refine .inr ⟨rfl, ?_⟩
    rw [List.findIdx?_eq_none_iff] at e
    rw [List.find?_eq_none.mpr (fun x hx => by rw [e x hx]; simp)]
    rfl
  | some k =>
    rw [List.findIdx?_eq_some_iff_getElem] at e
    obtain ⟨hk, h1, h2⟩ := e
    refine .inl ⟨k, rs[k], rfl, List.getElem?_eq_getElem hk, ?_⟩
    have : rs.find? (fun r => holds lot r.1) = some rs[k] := by
      rw [List.find?_eq_some_iff_getElem]
      exact ⟨h1, k, hk, rfl, fun j hj => by have := h2 j hj; simpa using this⟩
    rw [this]; rfl
/-- an index, or None -/
def oV : Option Nat → V
  | some k => .int ((k : Nat) : Int)
  | none => .non
end Kf

set_option Elab.async false
set_option linter.all false
set_option maxRecDepth 100000
set_option maxHeartbeats 4000000
/-! How many lots there are, at most. -/
namespace Kf
open PySem PySem.Spec PyProof.Rows L2 Kg Kd
theorem nodup_sub {α : Type} [DecidableEq α] : ∀ {l m : List α}, l.Nodup → (∀ x ∈ l, x ∈ m) → l.length ≤ m.length
  | [], _, _, _ => Nat.zero_le _
  | a :: l, m, h, s => by
    obtain ⟨h1, h2⟩ := List.nodup_cons.mp h
    have ha := s a (List.mem_cons_self ..)
    have hl := nodup_sub (l := l) (m := m.erase a) h2 (fun x hx => (List.mem_erase_of_ne (fun z => h1 (by rw [← z]; exact hx))).mpr (s x (List.mem_cons_of_mem _ hx)))
    rw [List.length_erase_of_mem ha] at hl
    have : 0 < m.length := List.length_pos_of_mem ha
    rw [List.length_cons]; omega
theorem nodup_ord {α : Type} {lt : α → α → Bool} (irr : ∀ a, lt a a = false) {l : List α} (h : l.Pairwise (fun a b => lt a b = true)) : l.Nodup :=
  h.imp fun {a b} z e => by subst e; rw [irr] at z; cases z
theorem som_in {n : Nat} (n6 : n ≤ 6) {l : List Nat} (h : Som n l) : l ∈ (List.range 64).map (ksOf n) := by
  obtain ⟨c, hc, e⟩ := ksOf_all h
  have : 2 ^ n ≤ 2 ^ 6 := Nat.pow_le_pow_right (by decide) n6
  exact List.mem_map.mpr ⟨c, List.mem_range.mpr (by omega), e⟩
theorem IsLots.len {es : List (List Nat)} {cl ho : List Nat} {sv : Bool} {ls : List (List Nat)} (n6 : es.length ≤ 6) (h : IsLots es cl ho sv ls) : ls.length ≤ 512 := by
  have som := fun {l : List Nat} (hl : l ∈ ls) => (h.som hl).1
  obtain ⟨A, B, rfl, h⟩ := h
  have hA : A.length ≤ 64 := by
    have z := nodup_sub (m := (List.range 64).map (ksOf es.length)) (nodup_ord lxN_irrefl h.oa) (fun x hx => som_in n6 (som (List.mem_append_left _ hx)))
    rw [List.length_map, List.length_range] at z
    exact z
  have hB : B.length ≤ 448 := by
    have z := nodup_sub (m := (List.range 7).flatMap fun m => ((List.range 64).map (ksOf es.length)).map fun l => (m, l)) (nodup_ord lpN_irrefl h.ob) (fun x hx => by
      have s := som_in n6 (som (List.mem_append_right A (List.mem_map.mpr ⟨x, hx, rfl⟩)))
      obtain ⟨_, ⟨ks, _, k2, _, _, k5⟩, _⟩ := (h.mb x).mp hx
      have := k2.len
      exact List.mem_flatMap.mpr ⟨x.1, List.mem_range.mpr (by omega), List.mem_map.mpr ⟨x.2, s, rfl⟩⟩)
    have e : ((List.range 7).flatMap fun m => ((List.range 64).map (ksOf es.length)).map fun l => (m, l)).length = 448 := by
      rw [List.length_flatMap]
      simp only [List.length_map, List.length_range]
      decide
    rw [e] at z
    exact z
  rw [List.length_append, List.length_map]; omega
end Kf

set_option Elab.async false
set_option linter.all false
set_option maxRecDepth 100000
set_option maxHeartbeats 4000000
/-! Parts of a tuple, elders of one new kind, lots made of them. -/
namespace Kf
open PySem PySem.Spec PyProof.Rows L2 Kg Kd
/-! ### all parts -/
def prtF (acc : List (List Nat)) (l : List Nat) : List (List Nat) := l.foldl (fun acc i => acc ++ acc.map (fun p => p ++ [i])) acc
def prt (l : List Nat) : List (List Nat) := prtF [[]] l
theorem prtF_cons (acc : List (List Nat)) (i : Nat) (l : List Nat) : prtF acc (i :: l) = prtF (acc ++ acc.map (fun p => p ++ [i])) l := rfl
theorem prt_take {l : List Nat} {i x : Nat} (h : l[i]? = some x) : prt (l.take (i + 1)) = prt (l.take i) ++ (prt (l.take i)).map (fun p => p ++ [x]) := by
  unfold prt prtF
  rw [List.take_add_one, h, List.foldl_append]
  rfl
theorem prtF_len : ∀ (l : List Nat) (acc : List (List Nat)), (prtF acc l).length = acc.length * 2 ^ l.length
  | [], acc => by simp [prtF]
  | i :: l, acc => by
    rw [prtF_cons, prtF_len l, List.length_append, List.length_map, List.length_cons, Nat.pow_succ]
    rw [← Nat.two_mul, Nat.mul_comm 2, Nat.mul_assoc, Nat.mul_comm 2]
theorem prt_len (l : List Nat) : (prt l).length = 2 ^ l.length := by
  unfold prt
  rw [prtF_len]
  simp
theorem prtF_mem {x : List Nat} : ∀ (l : List Nat) (acc : List (List Nat)), x ∈ prtF acc l ↔ ∃ p ∈ acc, ∃ s, s.Sublist l ∧ x = p ++ s
  | [], acc => by
    constructor
    · intro h; exact ⟨x, h, [], List.Sublist.refl _, by simp⟩
    · rintro ⟨p, hp, s, hs, e⟩
      rw [List.sublist_nil.mp hs, List.append_nil] at e
      rw [e]; exact hp
  | i :: l, acc => by
    rw [prtF_cons, prtF_mem l]
    constructor
    · rintro ⟨p, hp, s, hs, e⟩
      rcases List.mem_append.mp hp with h | h
      · exact ⟨p, h, s, hs.cons i, e⟩
      · obtain ⟨q, hq, rfl⟩ := List.mem_map.mp h
        exact ⟨q, hq, i :: s, hs.cons_cons i, by rw [e]; simp⟩
    · rintro ⟨p, hp, s, hs, e⟩
      cases hs with
      | cons _ h => exact ⟨p, List.mem_append_left _ hp, s, h, e⟩
      | @cons_cons s' _ _ h => exact ⟨p ++ [i], List.mem_append_right _ (List.mem_map.mpr ⟨p, hp, rfl⟩), s', h, by rw [e]; simp⟩
theorem prt_mem {l x : List Nat} : x ∈ prt l ↔ x.Sublist l := by
  unfold prt
  rw [prtF_mem]
  constructor
  · rintro ⟨p, hp, s, hs, e⟩
    rw [List.mem_singleton.mp hp] at e
    rw [e]; exact hs
  · intro h; exact ⟨[], List.mem_singleton.mpr rfl, x, h, rfl⟩
theorem prtF_nodup : ∀ (l : List Nat) (acc : List (List Nat)), l.Pairwise (· < ·) → acc.Nodup → (∀ p ∈ acc, ∀ x ∈ p, ∀ y ∈ l, x < y) → (prtF acc l).Nodup
  | [], acc, _, h, _ => h
  | i :: l, acc, hl, h, hb => by
    rw [List.pairwise_cons] at hl
    rw [prtF_cons]
    refine prtF_nodup l _ hl.2 ?_ ?_
    · refine List.nodup_append.mpr ⟨h, List.pairwise_map.mpr (h.imp fun ne e => ne (List.append_cancel_right e)), ?_⟩
      intro p hp q hq e
      obtain ⟨r, hr, rfl⟩ := List.mem_map.mp hq
      have : i ∈ p := by rw [e]; simp
      have := hb p hp i this i (List.mem_cons_self ..)
      omega
    · intro p hp x hx y hy
      rcases List.mem_append.mp hp with z | z
      · exact hb p z x hx y (List.mem_cons_of_mem _ hy)
      · obtain ⟨r, hr, rfl⟩ := List.mem_map.mp z
        rcases List.mem_append.mp hx with w | w
        · exact hb r hr x w y (List.mem_cons_of_mem _ hy)
        · rw [List.mem_singleton.mp w]; exact hl.1 y hy
theorem prt_nodup {l : List Nat} (h : l.Pairwise (· < ·)) : (prt l).Nodup := prtF_nodup l _ h (by simp) (fun p hp x hx => by rw [List.mem_singleton.mp hp] at hx; exact absurd hx (by simp))
theorem sub_asc : ∀ {l x : List Nat}, l.Pairwise (· < ·) → (x.Sublist l ↔ x.Pairwise (· < ·) ∧ ∀ y ∈ x, y ∈ l) := by
  intro l
  induction l with
  | nil =>
    intro x _
    constructor
    · intro h; rw [List.sublist_nil.mp h]; exact ⟨List.Pairwise.nil, fun y hy => hy⟩
    · rintro ⟨_, h⟩
      cases x with
      | nil => exact List.Sublist.refl _
      | cons a r => exact absurd (h a (List.mem_cons_self ..)) (by simp)
  | cons a l ih =>
    intro x hl
    constructor
    · intro h
      exact ⟨hl.sublist h, fun y hy => h.subset hy⟩
    · rintro ⟨hx, h⟩
      rw [List.pairwise_cons] at hl
      cases x with
      | nil => exact List.nil_sublist _
      | cons b r =>
        rw [List.pairwise_cons] at hx
        have hr : ∀ y ∈ r, y ∈ l := fun y hy => by
          rcases List.mem_cons.mp (h y (List.mem_cons_of_mem _ hy)) with e | e
          · have h1 := hx.1 y hy
            rcases List.mem_cons.mp (h b (List.mem_cons_self ..)) with e2 | e2
            · omega
            · have := hl.1 b e2; omega
          · exact e
        rcases List.mem_cons.mp (h b (List.mem_cons_self ..)) with e | e
        · rw [e]
          exact ((ih hl.2).mpr ⟨hx.2, hr⟩).cons_cons a
        · refine ((ih hl.2).mpr ⟨List.pairwise_cons.mpr hx, fun y hy => ?_⟩).cons a
          rcases List.mem_cons.mp hy with z | z
          · rw [z]; exact e
          · exact hr y z
abbrev ltL (a b : List Nat) : Prop := lpN (a.length, a) (b.length, b) = true
/-- all parts, the shortest first, then ascending -/
structure IsParts (l : List Nat) (ps : List (List Nat)) : Prop where
  ord : ps.Pairwise ltL
  mem : ∀ x, x ∈ ps ↔ x.Sublist l
theorem lpN_le {p q : Nat × List Nat} (h : lpN p q = true) : p.1 ≤ q.1 := by
  have z : Ku.lx (((p.1 : Nat) : Int) :: ci p.2) (((q.1 : Nat) : Int) :: ci q.2) = true := h
  rw [Ku.lx_cons] at z
  by_cases c : ((p.1 : Nat) : Int) = ((q.1 : Nat) : Int)
  · omega
  · rw [if_neg c] at z
    have := of_decide_eq_true z
    omega
theorem ltL_uniq {l m : List (List Nat)} (hl : l.Pairwise ltL) (hm : m.Pairwise ltL) (h : ∀ x, x ∈ l ↔ x ∈ m) : l = m :=
  ord_uniq (lt := fun a b => lpN (a.length, a) (b.length, b)) (fun a => lpN_irrefl _) (fun a b z => lpN_asym z) hl hm h
theorem IsParts.uniq {l : List Nat} {ps qs : List (List Nat)} (h : IsParts l ps) (k : IsParts l qs) : ps = qs := ltL_uniq h.ord k.ord fun x => (h.mem x).trans (k.mem x).symm
theorem IsParts.nodup {l : List Nat} {ps : List (List Nat)} (h : IsParts l ps) : ps.Nodup := h.ord.imp fun z e => by rw [e] at z; rw [ltL, lpN_irrefl] at z; cases z
theorem IsParts.len {l : List Nat} {ps : List (List Nat)} (h : IsParts l ps) : ps.length ≤ 2 ^ l.length := by
  rw [← prt_len l]
  exact nodup_sub h.nodup fun x hx => prt_mem.mpr ((h.mem x).mp hx)
/-! ### the elders of one new kind -/
def opn (n : Nat) (cl : List Nat) : List Nat := (List.range n).filter (fun i => !decide (i ∈ cl))
theorem opn_mem {n : Nat} {cl : List Nat} {x : Nat} : x ∈ opn n cl ↔ x < n ∧ x ∉ cl := by
  unfold opn
  rw [List.mem_filter, List.mem_range, Bool.not_eq_true', decide_eq_false_iff_not]
theorem opn_asc (n : Nat) (cl : List Nat) : (opn n cl).Pairwise (· < ·) := rg_filter
structure IsSing (n : Nat) (cl : List Nat) (sv : Bool) (sg : List (List Nat)) : Prop where
  ord : sg.Pairwise ltL
  mem : ∀ ks, ks ∈ sg ↔ (ks ≠ [] ∧ Som n ks ∧ rt cl sv ks = true)
theorem IsSing.uniq {n : Nat} {cl : List Nat} {sv : Bool} {ps qs : List (List Nat)} (h : IsSing n cl sv ps) (k : IsSing n cl sv qs) : ps = qs := ltL_uniq h.ord k.ord fun x => (h.mem x).trans (k.mem x).symm
theorem rt_iff {cl ks : List Nat} {sv : Bool} : rt cl sv ks = true ↔ (∀ k ∈ ks, k ∉ cl) ∧ (ks.length = 1 ∨ sv = true) := by
  unfold rt
  rw [Bool.and_eq_true, Bool.or_eq_true, decide_eq_true_iff, List.isEmpty_iff]
  refine and_congr_left' ?_
  rw [List.filter_eq_nil_iff]
  constructor
  · intro h k hk c; exact h k hk (decide_eq_true c)
  · intro h k hk c; exact h k hk (of_decide_eq_true c)
theorem sing_parts {n : Nat} {cl : List Nat} {ps : List (List Nat)} (h : IsParts (opn n cl) ps) : IsSing n cl true (ps.filter fun p => decide (0 < p.length)) := by
  refine ⟨h.ord.filter _, fun ks => ?_⟩
  rw [List.mem_filter, h.mem, sub_asc (opn_asc n cl), decide_eq_true_iff, rt_iff]
  constructor
  · rintro ⟨⟨h1, h2⟩, h3⟩
    exact ⟨fun e => by rw [e] at h3; simp at h3, ⟨h1, fun x hx => (opn_mem.mp (h2 x hx)).1⟩, fun k hk => (opn_mem.mp (h2 k hk)).2, .inr rfl⟩
  · rintro ⟨h1, h2, h3, _⟩
    exact ⟨⟨h2.asc, fun y hy => opn_mem.mpr ⟨h2.low y hy, h3 y hy⟩⟩, List.length_pos_iff.mpr h1⟩
theorem sing_one {n : Nat} {cl : List Nat} : IsSing n cl false ((opn n cl).map fun k => [k]) := by
  refine ⟨List.pairwise_map.mpr ((opn_asc n cl).imp fun {a b} h => ?_), fun ks => ?_⟩
  · show Ku.lx [1, ((a : Nat) : Int)] [1, ((b : Nat) : Int)] = true
    rw [Ku.lx_cons, if_pos rfl, Ku.lx_cons, if_neg (by omega)]
    exact decide_eq_true (by omega)
  · rw [List.mem_map, rt_iff]
    constructor
    · rintro ⟨k, hk, rfl⟩
      obtain ⟨h1, h2⟩ := opn_mem.mp hk
      exact ⟨by simp, ⟨by simp, fun x hx => by rw [List.mem_singleton.mp hx]; exact h1⟩, fun j hj => by rw [List.mem_singleton.mp hj]; exact h2, .inl rfl⟩
    · rintro ⟨h1, h2, h3, h4⟩
      rcases h4 with h4 | h4
      · match ks, h4 with
        | [k], _ => exact ⟨k, opn_mem.mpr ⟨h2.low k (List.mem_singleton.mpr rfl), h3 k (List.mem_singleton.mpr rfl)⟩, rfl⟩
      · cases h4
theorem IsSing.len {n : Nat} {cl : List Nat} {sv : Bool} {sg : List (List Nat)} (n6 : n ≤ 6) (h : IsSing n cl sv sg) : sg.length ≤ 64 := by
  have nd : sg.Nodup := h.ord.imp fun z e => by rw [e] at z; rw [ltL, lpN_irrefl] at z; cases z
  have z := nodup_sub nd (m := (List.range 64).map (ksOf n)) fun x hx => som_in n6 ((h.mem x).mp hx).2.1
  rwa [List.length_map, List.length_range] at z
theorem IsSing.six {n : Nat} {cl : List Nat} {sv : Bool} {sg : List (List Nat)} (n6 : n ≤ 6) (h : IsSing n cl sv sg) {ks : List Nat} (hk : ks ∈ sg) : ks.length ≤ 6 := by
  have := ((h.mem ks).mp hk).2.1.len; omega
/-! ### the late lots -/
def mS (es : List (List Nat)) (ho : List Nat) (sg : List (List Nat)) (l : List Nat) : Option Nat := if kn es ho l = true then none else (sg.find? (fun ks => decide (lotS es ks = l))).map List.length
theorem mS_nil (es : List (List Nat)) (ho : List Nat) : mS es ho [] = fun _ => none := by
  funext l
  unfold mS
  split <;> rfl
theorem mS_snoc {es : List (List Nat)} {ho : List Nat} {sg : List (List Nat)} {ks : List Nat} (l : List Nat) : mS es ho (sg ++ [ks]) l = if kn es ho (lotS es ks) = false ∧ mS es ho sg (lotS es ks) = none ∧ l = lotS es ks then some ks.length else mS es ho sg l := by
  by_cases c : kn es ho (lotS es ks) = false ∧ mS es ho sg (lotS es ks) = none ∧ l = lotS es ks
  · obtain ⟨c1, c2, rfl⟩ := c
    rw [if_pos ⟨c1, c2, rfl⟩]
    unfold mS at c2 ⊢
    rw [if_neg (by rw [c1]; exact Bool.false_ne_true)] at c2 ⊢
    rw [List.find?_append]
    rw [Option.map_eq_none_iff] at c2
    rw [c2]
    simp
  · rw [if_neg c]
    unfold mS
    by_cases k : kn es ho l = true
    · rw [if_pos k, if_pos k]
    · rw [if_neg k, if_neg k, List.find?_append]
      by_cases e : l = lotS es ks
      · subst e
        have c1 : kn es ho (lotS es ks) = false := Bool.not_eq_true _ ▸ k
        have c2 : ¬ mS es ho sg (lotS es ks) = none := fun z => c ⟨c1, z, rfl⟩
        unfold mS at c2
        rw [if_neg k, Option.map_eq_none_iff] at c2
        cases z : sg.find? (fun ks' => decide (lotS es ks' = lotS es ks)) with
        | none => exact absurd z c2
        | some v => rfl
      · cases z : sg.find? (fun ks' => decide (lotS es ks' = l)) with
        | some v => rfl
        | none => simp [Ne.symm e]
theorem find_first {α : Type} {p : α → Bool} {R : α → α → Prop} : ∀ {l : List α} {a : α}, l.Pairwise R → l.find? p = some a → ∀ b ∈ l, p b = true → b = a ∨ R a b
  | [], _, _, h, _, _, _ => by simp at h
  | c :: l, a, hl, h, b, hb, pb => by
    rw [List.pairwise_cons] at hl
    rw [List.find?_cons] at h
    cases pc : p c with
    | true =>
      rw [pc] at h
      have e : c = a := Option.some.inj h
      subst e
      rcases List.mem_cons.mp hb with z | z
      · exact .inl z
      · exact .inr (hl.1 b z)
    | false =>
      rw [pc] at h
      rcases List.mem_cons.mp hb with z | z
      · rw [z, pc] at pb; cases pb
      · exact find_first hl.2 h b z pb
theorem mS_late {es : List (List Nat)} {cl ho : List Nat} {sv : Bool} {sg : List (List Nat)} (S : IsSing es.length cl sv sg) (l : List Nat) (m : Nat) : mS es ho sg l = some m ↔ Late es cl ho sv (m, l) := by
  unfold mS
  by_cases k : kn es ho l = true
  · rw [if_pos k]
    constructor
    · intro h; cases h
    · intro h; have := h.1; rw [show kn es ho (m, l).2 = kn es ho l from rfl, k] at this; cases this
  · rw [if_neg k]
    have k' : kn es ho l = false := Bool.not_eq_true _ ▸ k
    constructor
    · intro h
      obtain ⟨ks, h1, h2⟩ := Option.map_eq_some_iff.mp h
      have hm := (S.mem ks).mp (List.mem_of_find?_eq_some h1)
      have hl : lotS es ks = l := of_decide_eq_true (List.find?_some (p := fun ks => decide (lotS es ks = l)) h1)
      refine ⟨k', ⟨ks, hm.1, hm.2.1, hm.2.2, hl, h2⟩, fun ks' a1 a2 a3 a4 => ?_⟩
      rcases find_first S.ord h1 ks' ((S.mem ks').mpr ⟨a1, a2, a3⟩) (decide_eq_true a4) with z | z
      · rw [z, h2]; exact Nat.le_refl _
      · have := lpN_le z
        show m ≤ ks'.length
        rw [← h2]; exact this
    · rintro ⟨_, ⟨ks, a1, a2, a3, a4, a5⟩, mn⟩
      have hk := (S.mem ks).mpr ⟨a1, a2, a3⟩
      cases z : sg.find? (fun ks => decide (lotS es ks = l)) with
      | none => exact absurd (decide_eq_true a4) (List.find?_eq_none.mp z ks hk)
      | some k0 =>
        have hm := (S.mem k0).mp (List.mem_of_find?_eq_some z)
        have hl : lotS es k0 = l := of_decide_eq_true (List.find?_some (p := fun ks => decide (lotS es ks = l)) z)
        have m1 := mn k0 hm.1 hm.2.1 hm.2.2 hl
        have a5' : ks.length = m := a5
        have m1' : m ≤ k0.length := m1
        rcases find_first S.ord z ks hk (decide_eq_true a4) with y | y
        · rw [← y]; exact congrArg some a5'
        · have := lpN_le y
          show some k0.length = some m
          congr 1
          have t : k0.length ≤ ks.length := this
          omega
/-! ### the lots of new kinds -/
def tab0 (es : List (List Nat)) : List (List Nat) := (List.range es.length).map (lot es)
def jn (n : Nat) (ls : List (List Nat)) : List Nat := (List.range n).filter (fun j => ls.any (fun l => decide (j ∈ l)))
theorem jn_som (n : Nat) (ls : List (List Nat)) : Som n (jn n ls) := Som.filter
def tabX (es ext : List (List Nat)) : List (List Nat) := ext.foldl (fun tab el => tab ++ [jn es.length (el.map fun e => tab.getD e [])]) (tab0 es)
theorem tab0_len (es : List (List Nat)) : (tab0 es).length = es.length := by unfold tab0; simp
theorem tabX_snoc (es ext : List (List Nat)) (el : List Nat) : tabX es (ext ++ [el]) = tabX es ext ++ [jn es.length (el.map fun e => (tabX es ext).getD e [])] := by
  unfold tabX
  rw [List.foldl_append]; rfl
theorem tabX_take {es ext : List (List Nat)} {i : Nat} {el : List Nat} (h : ext[i]? = some el) : tabX es (ext.take (i + 1)) = tabX es (ext.take i) ++ [jn es.length (el.map fun e => (tabX es (ext.take i)).getD e [])] := by
  rw [List.take_add_one, h]
  exact tabX_snoc ..
theorem tabX_len (es : List (List Nat)) : ∀ ext : List (List Nat), (tabX es ext).length = es.length + ext.length := by
  have key : ∀ (ext tab : List (List Nat)), (ext.foldl (fun tab el => tab ++ [jn es.length (el.map fun e => tab.getD e [])]) tab).length = tab.length + ext.length := by
    intro ext
    induction ext with
    | nil => intro tab; simp
    | cons a r ih =>
      intro tab
      rw [List.foldl_cons, ih, List.length_append, List.length_singleton, List.length_cons]; omega
  intro ext
  have := key ext (tab0 es)
  rw [tab0_len] at this
  exact this
theorem tabX_som (es : List (List Nat)) : ∀ ext : List (List Nat), ∀ l ∈ tabX es ext, Som es.length l := by
  have key : ∀ (ext tab : List (List Nat)), (∀ l ∈ tab, Som es.length l) → ∀ l ∈ ext.foldl (fun tab el => tab ++ [jn es.length (el.map fun e => tab.getD e [])]) tab, Som es.length l := by
    intro ext
    induction ext with
    | nil => intro tab h; exact h
    | cons a r ih =>
      intro tab h
      refine ih _ fun l hl => ?_
      rcases List.mem_append.mp hl with z | z
      · exact h l z
      · rw [List.mem_singleton.mp z]; exact jn_som ..
  intro ext
  refine key ext _ fun l hl => ?_
  obtain ⟨k, _, rfl⟩ := List.mem_map.mp hl
  exact lot_som es k
theorem tab0_get {es : List (List Nat)} {k : Nat} (h : k < es.length) : (tab0 es)[k]? = some (lot es k) := by
  unfold tab0
  rw [List.getElem?_map, List.getElem?_range h]; rfl
theorem jn_lotS {es : List (List Nat)} {ks : List Nat} (h : ∀ k ∈ ks, k < es.length) : jn es.length (ks.map fun e => (tab0 es).getD e []) = lotS es ks := by
  unfold jn lotS
  refine List.filter_congr fun j _ => ?_
  rw [List.any_map, Bool.eq_iff_iff, List.any_eq_true, List.any_eq_true]
  refine exists_congr fun k => and_congr_right fun hk => ?_
  show decide (j ∈ (tab0 es).getD k []) = true ↔ _
  rw [List.getD_eq_getElem?_getD, tab0_get (h k hk), decide_eq_true_iff]
  exact lot_mem (h k hk)
theorem tabX_one {es : List (List Nat)} {ks : List Nat} (h : ∀ k ∈ ks, k < es.length) : (tabX es [ks])[es.length]? = some (lotS es ks) := by
  have e := tabX_snoc es [] ks
  rw [List.nil_append] at e
  have e0 : tabX es [] = tab0 es := rfl
  rw [e, e0, jn_lotS h, List.getElem?_append_right (by rw [tab0_len]; exact Nat.le_refl _), tab0_len, Nat.sub_self]; rfl
theorem lot_inj {es : List (List Nat)} {k j : Nat} (hk : k < es.length) (hj : j < es.length) (h : lot es k = lot es j) : k = j := by
  have h1 : k ∈ lot es j := by rw [← h]; exact (lot_mem hk).mpr (abv_self es k)
  have h2 : j ∈ lot es k := by rw [h]; exact (lot_mem hj).mpr (abv_self es j)
  have := abv_le es j k ((lot_mem hj).mp h1)
  have := abv_le es k j ((lot_mem hk).mp h2)
  omega
end Kf

set_option Elab.async false
set_option linter.all false
set_option maxRecDepth 100000
set_option maxHeartbeats 4000000
/-! sorted(xs, key=lambda x: ..): the lambda of one parameter, made and called. -/
namespace Km
open PySem PySem.Spec PyProof.Rows L2 Kg Kd LamX
/-! ### the lambda's names: one parameter, captured ones and globals -/
structure LamS1 (sc scope : Scope) (a : Str) : Prop where
  kind : scope.kind = .function
  co : scope.isCoroutine = false
  gen : scope.isGenerator = false
  par : scope.names.lookup a = some .local
  own : ∀ y ∈ scope.names, y.2 ≠ .cell ∧ (y.2 = .local → y.1 = a)
  free : ∀ y ∈ scope.names, y.2 = .free → sc.names.lookup y.1 = some .cell ∨ sc.names.lookup y.1 = some .free
def lamS1B (sc scope : Scope) (a : Str) : Bool :=
  decide (scope.kind = .function) && !scope.isCoroutine && !scope.isGenerator && decide (scope.names.lookup a = some .local) && scope.names.all fun y => !decide (y.2 = .cell) && (!decide (y.2 = .local) || decide (y.1 = a)) && (!decide (y.2 = .free) || decide (sc.names.lookup y.1 = some .cell) || decide (sc.names.lookup y.1 = some .free))
theorem lamS1_by {sc scope : Scope} {a : Str} (h : lamS1B sc scope a = true) : LamS1 sc scope a := by
  unfold lamS1B at h
  simp only [Bool.and_eq_true, Bool.or_eq_true, Bool.not_eq_true', decide_eq_true_eq, decide_eq_false_iff_not, List.all_eq_true] at h
  obtain ⟨⟨⟨⟨h1, h2⟩, h3⟩, h4⟩, h5⟩ := h
  refine ⟨h1, h2, h3, h4, fun y hy => ⟨(h5 y hy).1.1, fun e => ?_⟩, fun y hy e => ?_⟩
  · rcases (h5 y hy).1.2 with z | z
    · exact absurd e z
    · exact z
  · rcases (h5 y hy).2 with (z | z) | z
    · exact absurd e z
    · exact .inl z
    · exact .inr z
theorem LamS1.has {X : Cx} {scope : Scope} {a : Str} (L : LamS1 X.env.scope scope a) (ok : X.Ok) : ∀ y ∈ scope.names, y.2 = .free → ∃ c, X.env.cells.lookup y.1 = some c := fun y hy e => by
  rcases L.free y hy e with k | k
  · exact ok.has _ (.inl k)
  · exact ok.has _ (.inr k)
/-- the context of the lambda's body -/
def lamCx1 (X : Cx) (a : Str) (A : Around) (outer : List Env) (s : Shared) (H : Hp) (scope : Scope) (f c' : Addr) : Cx :=
  { lamCx X A outer s H E0 scope f c' with
    N := a :: X.N
    xe := fun e s' => wpAny (model X.prog X.w) (A.deeper (lamEnv X scope s.heap.objs.size f c')) (leaving (lamEnv X scope s.heap.objs.size f c') e) (fun _ s'' => CX0 outer H s E0 e s'') (fun e' s'' => CX0 outer H s E0 e' s'') s' }
section
variable {X : Cx} {pins : List (Addr × Obj)} {σ : L2.St} {H : Hp} {s : Shared}
/-- a captured name is a cell of the def -/
theorem cap_back {scope : Scope} {a y : Str} {c : Addr} (L : LamS1 X.env.scope scope a) (ok : X.Ok) (h : (cloFrom X.env.cells scope.names []).lookup y = some c) : X.env.cells.lookup y = some c := by
  have z := cloFrom_mem (PySem.mem_of_lookup h)
  rcases z with z | ⟨z1, z2⟩
  · exact nomatch z
  · obtain ⟨d, hd⟩ := L.has ok _ z1 rfl
    have hd' : X.env.cells.lookup y = some d := hd
    rw [hd'] at z2
    exact hd'.trans (congrArg some z2.symm)
theorem cap_has {scope : Scope} {y : Str} (h : scope.names.lookup y = some .free) : ∃ c, (cloFrom X.env.cells scope.names []).lookup y = some c :=
  mem_lookup (cloFrom_has (PySem.mem_of_lookup h))
/-- the lambda's body begins: x stands under its parameter's name, the captured names as they stood -/
theorem lam_start1 {A : Around} {scope : Scope} {a : Str} {f c' : Addr} {g : Heap} {tk : Nat} {x : V} {u : Value} (I : Inv X pins σ H s) (L : LamS1 X.env.scope scope a) (na : a ∉ X.N) (e0 : Env0 X.prog X.w X.K X.mg X.base A X.stack s H) (hd : A.handled = none) (rx : RelV x u)
    (hns : g.Ns s.heap.objs.size fun y => ([(a, u)] : List (Str × Value)).reverse.lookup y) (kp : ∀ d o, s.heap.get? d = some o → g.get? d = some o) :
    Inv (lamCx1 X a A X.stack s H scope f c') [] (some x :: σ) H { s with heap := g, toks := tk } := by
  have none_ex : ∀ d : Addr, ¬ d ∈ (lamCx1 X a A X.stack s H scope f c').ex := fun d z => by
    have z : d ∈ ([] : List Addr) := z
    exact nomatch z
  have cellG : ∀ (d : Addr) (v : Option Value), s.heap.IsCell d v → g.IsCell d v := fun d v z => by
    obtain ⟨o, h1, h2⟩ := z
    exact ⟨o, kp _ _ h1, h2⟩
  have OK : (lamCx1 X a A X.stack s H scope f c').Ok := {
    mod := e0.mod
    kind := L.kind
    glob := rfl
    blt := rfl
    above := Nat.le_refl _
    inj := fun y z c h1 h2 => I.ok.inj y z c (cap_back L I.ok h1) (cap_back L I.ok h2)
    has := fun y hy => by
      rcases hy with z | z
      · exact absurd rfl (L.own (y, .cell) (PySem.mem_of_lookup z)).1
      · exact cap_has z
    cab := fun y c z _ => nomatch (show false = true from z)
    hd := fun _ => hd
    frames := Around.frames_deeper e0.frames
    stk := .inr ⟨rfl, rfl⟩
    exf := fun d z => (none_ex d z).elim
    bs := e0.bs
    bsz := e0.bsz
    noex := fun d _ _ => none_ex d
    exfs := fun d z => (none_ex d z).elim
    funs := e0.funs
    frf := e0.frf }
  have loc : ∀ (i : Nat) (y : Str) (v : V), (a :: X.N)[i]? = some y → (some x :: σ)[i]? = some (some v) → Vis scope y → ∃ r, RelV v r ∧ Look (lamEnv X scope s.heap.objs.size f c') g (fun y => ([(a, u)] : List (Str × Value)).reverse.lookup y) y r := by
    intro i y v n1 n2 vis
    match i, n1, n2 with
    | 0, n1, n2 =>
      have n1 : a = y := Option.some.inj n1
      have n2 : x = v := Option.some.inj (Option.some.inj n2)
      subst n1 n2
      exact ⟨u, rx, .inl ⟨L.par, by simp⟩⟩
    | i + 1, n1, n2 =>
      have n1 : X.N[i]? = some y := by simpa using n1
      have n2 : σ[i]? = some (some v) := by simpa using n2
      rcases vis with z | z | z
      · exact absurd (by rw [← (L.own (y, .local) (PySem.mem_of_lookup z)).2 rfl]; exact List.mem_of_getElem? n1) na
      · exact absurd rfl (L.own (y, .cell) (PySem.mem_of_lookup z)).1
      · obtain ⟨m, _, old⟩ := I.loc
        have up := L.free (y, .free) (PySem.mem_of_lookup z) rfl
        obtain ⟨r, h1, h2⟩ := old i y v n1 n2 (.inr up)
        obtain ⟨d, hd'⟩ := cap_has (X := X) z
        refine ⟨r, h1, .inr ⟨.inr z, d, hd', ?_⟩⟩
        rcases h2 with ⟨y1, _⟩ | ⟨_, d', y2, y3⟩
        · have y1 : X.env.scope.names.lookup y = some .local := y1
          rcases up with y4 | y4
          · have y4 : X.env.scope.names.lookup y = some .cell := y4
            rw [y1] at y4; cases y4
          · have y4 : X.env.scope.names.lookup y = some .free := y4
            rw [y1] at y4; cases y4
        · have e := (cap_back L I.ok hd').symm.trans y2
          rw [Option.some.inj e]
          exact cellG _ _ y3
  exact {
    ok := OK
    os := rfl
    bare := e0.bare
    base := Un.kept kp
    loc := ⟨_, hns, loc⟩
    cell := fun y c h => by
      obtain ⟨v, z⟩ := I.cell y c (cap_back L I.ok h)
      exact ⟨v, cellG _ _ z⟩
    free := e0.hok.fresh (Nat.le_refl _)
    freeC := fun y c h => I.freeC y c (cap_back L I.ok h)
    pin := fun q hq => nomatch (show q ∈ ([] : List (Addr × Obj)) from hq)
    hok := e0.hok.kept kp
    len := by show σ.length + 1 = X.N.length + 1; rw [I.len] }
/-- the lambda called with one value -/
theorem lam_call {A : Around} {scope : Scope} {a : Str} {f c' : Addr} {pm ctv : Value} {params : Arguments} {body : Expr} {k : Nat} {tb : TE} {Q : VK} {x : V} {u : Value}
    (I : Inv X pins σ H s) (L : LamS1 X.env.scope scope a) (na : a ∉ X.N) (hf : s.heap.get? f = some (PySem.W.kla_obj "<lambda>" (X.env.qual ++ "<lambda>") params body scope (cloFrom X.env.cells scope.names []) pm c' ctv))
    (hc : H c' = some (CodeO c' (X.env.qual ++ "<lambda>"))) (e0 : Env0 X.prog X.w X.K X.mg X.base A X.stack s H) (hr : Room (k + 1) A) (rx : RelV x u)
    (hbind : bindArgs (PySem.W.kla_fn "<lambda>" (X.env.qual ++ "<lambda>") params body scope (cloFrom X.env.cells scope.names []) pm (.ref c') ctv) ⟨[u], []⟩ = pure [(a, u)])
    (hbody : ∀ (A : Around) (s : Shared) (H : Hp), Room k (A.deeper (lamEnv X scope s.heap.objs.size f c')) → PE (lamCx1 X a A X.stack s H scope f c') body tb) (ht : tb (some x :: σ) H Q) :
    codeAny (model X.prog X.w) A (.call (.ref f) ⟨[u], []⟩) (fun r s' => match r with | .ok (.ret v) => EP X pins σ Q v s' | .ok _ => False | .error e => False) s := by
  obtain ⟨⟨oc, vs, t, hoc, hdc, hvc⟩, _, _⟩ := I.hok c' _ hc
  have rc : codeAny (model X.prog X.w) A (.call (.ref f) ⟨[u], []⟩) (CR CX0 X.stack X.prog X.w H s Q E0) s := by
    refine PySem.W.kla_callFunE hr.depth hf rfl L.co L.gen rfl ⟨c', oc, vs, t, rfl, hoc, hdc, hvc⟩ ?_
    rw [hbind]
    refine wpAny_pure (wpAny_newFunctionEnv (fun y hy => (L.own y hy).1) (fun y hy => ?_) (fun h₁ hns hsb => ⟨I.nolimit.fresh _ hsb, ?_⟩) L.kind)
    · rw [List.mem_singleton] at hy
      subst hy
      exact L.par
    show codeAny _ _ (.expr body (lamEnv X scope s.heap.objs.size f c')) _ _
    have kp : ∀ b o, s.heap.get? b = some o → h₁.get? b = some o := fun b o e => hsb.extBut b o (Nat.ne_of_lt (Heap.lt_size e)) (Heap.get?_push_of_some _ e)
    have J := lam_start1 (tk := s.toks + ([(a, u)] : List (Str × Value)).length) (f := f) (c' := c') I L na e0 hr.hd rx hns kp
    refine PySem.W.kla_codeExpr (wpAny_mono ((hbody _ s H (hr.deeper _)).run [] _ _ H Q J ht) (fun v s' hq => ?_) fun e s' hq => ?_)
    · obtain ⟨w', H', J', rv, q⟩ := hq
      exact ⟨w', H', J'.os, J'.bare, J'.base, J'.hok, rv, q⟩
    · exact hq
  refine codeAny_mono rc fun r s' hq => ?_
  cases r with
  | error e => exact (show False from hq).elim
  | ok fl =>
    cases fl with
    | ret u => exact I.after hq
    | next => exact False.elim hq
    | brk => exact False.elim hq
    | cont => exact False.elim hq
end
end Km

set_option Elab.async false
set_option linter.all false
set_option maxRecDepth 100000
set_option maxHeartbeats 4000000
/-! sorted(xs, key=..): the keys are pairs of an int and a tuple of ints. -/
namespace Km
open PySem PySem.Spec PyProof.Rows L2 Kg Kd LamX SrtO Srt Ku
section
variable {prog : Program} {w : World} {A : Around} {E : Value → Shared → Prop} {s : Shared}
theorem nt_cmpK {kv : Value → Int × List Int} (hu : A.units + 1 < cLine) : SrtO.Cmp prog w A s (tuples' true) (fun p => IsNT s.heap p.1 (kv p.2)) (fun p q => lp (kv p.2) (kv q.2)) := by
  intro p q h1 h2
  have h1 : IsNT s.heap p.1 (kv p.2) := h1
  have h2 : IsNT s.heap q.1 (kv q.2) := h2
  show wpAny (model prog w) A (keyLt' (tuples' true) p.1 q.1) (fun r s' => s' = s ∧ r = lp (kv p.2) (kv q.2)) (fun _ _ => False) s
  generalize kv p.2 = x at h1 ⊢
  generalize kv q.2 = y at h2 ⊢
  obtain ⟨a, o, t, b, n, e, ho, hc, hd, hb⟩ := h1
  obtain ⟨a', o', t', b', n', e', ho', hc', hd', hb'⟩ := h2
  rw [e, e']
  refine PySem.W.kat_lt ho hd ho' hd' ?_
  show PySem.W.KatLex prog w A true (decide (2 < 2)) _ [(.int x.1 t, .int y.1 t'), (.ref b, .ref b')] 0 s
  refine PySem.W.kat_cons (SeqAt.EqAt.int_int x.1 t y.1 t' prog w _ _ ?_)
  refine PySem.W.kat_go (fun e1 => ?_) (fun e1 => ?_)
  · have ex : x.1 = y.1 := by simpa using e1
    have el : lp x y = lx x.2 y.2 := by unfold lp; rw [lx_cons, if_pos ex]
    rw [el]
    refine PySem.W.kat_yes (PySem.W.kat_cons (eqAt_tup hb hb' hu prog w _ _ ?_))
    refine PySem.W.kat_go (fun e2 => ?_) (fun e2 => ?_)
    · have ey := of_decide_eq_true e2
      exact PySem.W.kat_yes (PySem.W.kat_nil ⟨rfl, by rw [ey, lx_irrefl]; rfl⟩)
    · obtain ⟨c, xs, ec, tc, ic⟩ := hb
      obtain ⟨c', xs', ec', tc', ic'⟩ := hb'
      cases ec
      cases ec'
      exact PySem.W.kat_no (PySem.W.kat_one _ _ (HT.lt_tupInts tc tc' ic ic' (by omega) ⟨rfl, rfl⟩))
  · have ex : ¬ x.1 = y.1 := by simpa using e1
    have el : lp x y = decide (x.1 < y.1) := by unfold lp; rw [lx_cons, if_neg ex]
    rw [el]
    exact PySem.W.kat_no (TS.oneLt_ints _ ⟨rfl, rfl⟩)
/-- the end of the sort -/
theorem key_tail {p kS : Addr} {keys : Array Value} {e e1 : Nat} {st : SortSt} {R : PySem.Fin → Shared → Prop} (hk : s.heap.get? kS = some (seqObj "list" keys e)) (hp : s.heap.get? p = some (seqObj "list" #[] e1)) (hne : kS ≠ p) (hks : keys.size ≤ sizeLine) (has : (arrOf st).size ≤ sizeLine) (hfl : failedOf st = none)
    (h : ∀ tk, R (.done (.ret .none)) { s with heap := (s.heap.update kS (Obj.mapSeq fun _ => (#[] : Array Value))).update p (Obj.mapSeq fun _ => (arrOf st).map (·.2)), toks := tk }) :
    wpAny (model prog w) A (ksk_tail p false e1 (.ref kS) st) R E s := by
  have s1 := Heap.SameBut.update s.heap kS (Obj.mapSeq fun _ => (#[] : Array Value))
  have hp1 : (s.heap.update kS (Obj.mapSeq fun _ => (#[] : Array Value))).get? p = some (seqObj "list" #[] e1) := (s1.2 p hne.symm).trans hp
  unfold ksk_tail
  try dsimp only
  refine wpAny_bind (listUpdate_at hk rfl ?_ hks (Nat.zero_le _))
  refine wpAny_bind (wpAny_letGo ?_)
  refine wpAny_bind (seqEpoch_at hp1 rfl ?_)
  refine wpAny_bind (listUpdate_at hp1 rfl ?_ (Nat.zero_le _) (by simp only [Bool.false_eq_true, if_false, Array.size_map]; omega))
  rw [hfl]
  simp only [bne_self_eq_false, Bool.false_eq_true, if_false]
  exact wpAny_pure (h _)
/-- the sort of the pairs -/
theorem key_end {p kS : Addr} {keys vs : List Value} {e e1 : Nat} {kv : Value → Int × List Int} {R : PySem.Fin → Shared → Prop} (hu : A.units + 1 < cLine) (hk : s.heap.get? kS = some (seqObj "list" keys.toArray e)) (hp : s.heap.get? p = some (seqObj "list" #[] e1)) (hne : kS ≠ p) (hl : keys.length = vs.length) (hz : vs.length ≤ sizeLine)
    (hK : ∀ q ∈ keys.zip vs, IsNT s.heap q.1 (kv q.2))
    (h : ∀ (ps : List Keyed) tk, Srtd (fun p q => lp (kv p.2) (kv q.2)) ps → Stb (fun p q => lp (kv p.2) (kv q.2)) ps (keys.zip vs) →
      R (.done (.ret .none)) { s with heap := (s.heap.update kS (Obj.mapSeq fun _ => (#[] : Array Value))).update p (Obj.mapSeq fun _ => (ps.map (·.2)).toArray), toks := tk }) :
    wpAny (model prog w) A (ksk_end p false vs.toArray e1 (.ref kS) keys.toArray) R E s := by
  have ez : (keys.toArray.zip vs.toArray).toList = keys.zip vs := by simp
  have hzl : (keys.zip vs).length = vs.length := by rw [List.length_zip, hl, Nat.min_self]
  have fin : ∀ st : SortSt, failedOf st = none → Srtd (fun p q : Keyed => lp (kv p.2) (kv q.2)) (arrOf st).toList → Stb (fun p q : Keyed => lp (kv p.2) (kv q.2)) (arrOf st).toList (keys.zip vs) → wpAny (model prog w) A (ksk_tail p false e1 (.ref kS) st) R E s := by
    intro st hf h1 h2
    have hsz : (arrOf st).size = vs.length := by rw [← Array.length_toList, h2.len, hzl]
    refine key_tail hk hp hne (by rw [List.size_toArray, hl]; exact hz) (by rw [hsz]; exact hz) hf fun tk => ?_
    have z := h (arrOf st).toList tk h1 h2
    have ea : ((arrOf st).toList.map (·.2)).toArray = (arrOf st).map (·.2) := by
      apply Array.ext'
      simp
    rw [ea] at z
    exact z
  unfold ksk_end
  simp only [Bool.false_eq_true, if_false]
  by_cases h2 : vs.toArray.size < 2
  · rw [if_pos h2, if_pos h2]
    refine wpAny_bind (wpAny_pure ?_)
    rw [StateT.run_pure]
    refine wpAny_bind (wpAny_pure ?_)
    try dsimp only
    refine fin (SortSt.mk' general' (keys.toArray.zip vs.toArray) #[] 7 none) rfl ?_ ?_
    · show Srtd _ (keys.toArray.zip vs.toArray).toList
      rw [ez]
      rw [List.size_toArray] at h2
      match hq : keys.zip vs, hzl with
      | [], _ => exact List.Pairwise.nil
      | [x], _ => exact List.pairwise_singleton _ _
      | x :: y :: r, hh => rw [List.length_cons, List.length_cons] at hh; omega
    · show Stb _ (keys.toArray.zip vs.toArray).toList _
      rw [ez]; exact Stb.refl _
  · rw [if_neg h2, if_neg h2]
    rw [List.size_toArray] at h2
    have kt : ∃ fs, PySem.W.KatTups s.heap keys fs ∧ fs.length = keys.length ∧ ∀ f, f ∈ fs → ∃ n t, f = Value.int n t := by
      have go : ∀ (ks us : List Value), ks.length = us.length → (∀ q ∈ ks.zip us, IsNT s.heap q.1 (kv q.2)) → ∃ fs, PySem.W.KatTups s.heap ks fs ∧ fs.length = ks.length ∧ ∀ f, f ∈ fs → ∃ n t, f = Value.int n t := by
        intro ks
        induction ks with
        | nil => exact fun us _ _ => ⟨[], PySem.W.KatTups.nil, rfl, fun f hf => by simp at hf⟩
        | cons v ks ih =>
          intro us hl x
          cases us with
          | nil => simp at hl
          | cons u us =>
            obtain ⟨fs, kk, hl', hi⟩ := ih us (by simpa using hl) fun q hq => x q (List.mem_cons_of_mem _ hq)
            obtain ⟨a, o, t, b, n, e, ho, hc, hd, _⟩ := x (v, u) (List.mem_cons_self ..)
            have e : v = .ref a := e
            rw [e]
            refine ⟨.int (kv u).1 t :: fs, PySem.W.KatTups.cons ho hc hd rfl kk, by simp [hl'], ?_⟩
            intro f hf
            rcases List.mem_cons.mp hf with rfl | hf
            · exact ⟨_, t, rfl⟩
            · exact hi f hf
      exact go keys vs hl hK
    obtain ⟨fs, f1, f2, f3⟩ := kt
    refine wpAny_bind (PySem.W.kat_kind (T := .type "int") f1 (by omega) (fun f hm => ?_) (by rfl) ?_)
    · obtain ⟨x, t, rfl⟩ := f3 f hm
      exact PySem.W.Looks.now
    have ei : (Value.type "int" != Value.type "tuple") = true := by first | decide +kernel | rfl | decide
    rw [ei]
    have O : Swo (fun p q : Keyed => lp (kv p.2) (kv q.2)) := swo_lp (α := Keyed) (fun p => kv p.2)
    refine wpAny_bind (wpAny_mono (wpS_sortO (st0 := SortSt.mk' (tuples' true) (keys.toArray.zip vs.toArray) #[] 7 none)
      (Q := fun _ st' => Srtd (fun p q : Keyed => lp (kv p.2) (kv q.2)) (arrOf st').toList ∧ Stb (fun p q : Keyed => lp (kv p.2) (kv q.2)) (arrOf st').toList (keys.toArray.zip vs.toArray).toList ∧ failedOf st' = none) O (nt_cmpK hu) rfl
        (fun q hq => hK q (by rw [← ez]; exact hq)) rfl rfl fun st' a1 a2 a3 => ⟨a1, a2, a3⟩) ?_ fun _ _ e => e)
    rintro ⟨⟨⟩, st'⟩ s' ⟨rfl, hp1, hp2, hf⟩
    try dsimp only
    rw [ez] at hp2
    exact fin st' hf hp1 hp2
end
end Km

set_option Elab.async false
set_option linter.all false
set_option maxRecDepth 100000
set_option maxHeartbeats 4000000
namespace Km
open PySem PySem.Spec PyProof.Rows L2 Kg Kd LamX SrtO Srt Ku
/-- what is a key of x -/
def KeyV (K : PySem.W.Frag) (H : Hp) (v : V) (p : Int × List Int) : Prop := ∃ t b, v = .ref t ∧ H t = some (.tup [.int p.1, .ref b]) ∧ SqT K H b (p.2.map V.int)
theorem KeyV.same {K : PySem.W.Frag} {H H' : Hp} {v : V} {p : Int × List Int} (h : KeyV K H v p) (t : ∀ a xs, H a = some (.tup xs) → H' a = some (.tup xs)) (q : ∀ a xs, SqT K H a xs → SqT K H' a xs) : KeyV K H' v p := by
  obtain ⟨a, b, e, h1, h2⟩ := h
  exact ⟨a, b, e, t _ _ h1, q _ _ h2⟩
theorem sqt_keep {K : PySem.W.Frag} {H H' : Hp} {a : Addr} {xs : List V} (h : SqT K H a xs) (k : ∀ b o, H b = some o → (∀ ys, o ≠ .lst ys) → H' b = some o) : SqT K H' a xs := by
  rcases h with h | h
  · refine .inl ?_
    rcases h with h | ⟨o, h⟩
    · exact .inl (k _ _ h (fun ys z => nomatch z))
    · exact .inr ⟨o, k _ _ h (fun ys z => nomatch z)⟩
  · exact .inr h
section
variable {X : Cx} {pins : List (Addr × Obj)} {σ : L2.St} {H : Hp} {s : Shared}
theorem isNT_of (I : Inv X pins σ H s) {v : V} {u : Value} {p : Int × List Int} (h : KeyV X.K H v p) (r : RelV v u) : IsNT s.heap u p := by
  obtain ⟨t, b, rfl, ht, hb⟩ := h
  cases (show u = Value.ref t from r)
  obtain ⟨_, its2, r2, o, ho, hc, n, hd'⟩ := I.hok _ _ ht
  obtain ⟨u1, u2, rfl, ri, rj⟩ := vals2 r2
  obtain ⟨t1, rfl⟩ := ri
  cases (show u2 = Value.ref b from rj)
  exact ⟨t, o, t1, b, n, rfl, ho, hc, hd', tupI_raw I hb⟩
/-- an object that is not tracked, made since the def began, is written and tracked from then on -/
theorem inv_take {p : Addr} {o : Obj} {u : HO} {h' : Heap} {t' : Nat} (I : Inv X pins σ H s) (hp : s.heap.get? p = some o) (hn : H p = none) (h0 : X.s_0.heap.objs.size ≤ p) (hL : p ≠ X.env.locals) (hcl : ∀ v, o.data ≠ .cell v) (hpn : ∀ q ∈ X.pn ++ pins, q.1 ≠ p)
    (k : ∀ b v, b ≠ p → s.heap.get? b = some v → h'.get? b = some v) (hs : Heap.SameBut p s.heap h') (hob : ObjOk X.prog X.w (upd H p u) h' p u) (hq : ∃ v, h'.get? p = some v) : Inv X pins σ (upd H p u) { s with heap := h', toks := t' } := by
  have ne : ∀ b v, H b = some v → b ≠ p := fun b v e z => by rw [z, hn] at e; cases e
  refine I.step (g' := s.gens) (d' := s.drawn) (ch := [p]) (fun b hb => ?_) (fun b v _ _ hb e n => k b v (fun z => hb (by rw [z]; exact List.mem_singleton.mpr rfl)) e) (fun b v _ _ hb e n => ⟨v.slots, k b v (fun z => hb (by rw [z]; exact List.mem_singleton.mpr rfl)) e⟩)
    (fun b v hb e n => by rw [upd_ne (fun z => hb (by rw [z]; exact List.mem_singleton.mpr rfl))]; exact n) (fun b v hb e => ⟨v, k b v (fun z => hb (by rw [z]; exact List.mem_singleton.mpr rfl)) e⟩) (fun b xs e => by rw [upd_ne (ne b _ e)]; exact e) (fun b x v e => by rw [upd_ne (ne b _ e)]; exact e) (fun b ps e => ⟨#[], by rw [upd_ne (ne b _ e), e]; simp⟩)
    (fun m hm => hm.sameBut hs hL.symm) (fun b v e => ?_) I.bare
  · rw [List.mem_singleton] at hb
    subst hb
    refine ⟨.inr h0, hL, fun x c e z => ?_, hpn⟩
    obtain ⟨w', oc, ho, hd⟩ := I.cell x c e
    rw [z, hp] at ho
    cases ho
    exact hcl _ hd
  · by_cases hb : b = p
    · subst hb
      rw [upd_same] at e
      cases e
      exact hob
    · rw [upd_ne hb] at e
      refine (I.hok b v e).stay (fun c w' hc q => k c w' ?_ q) (fun c q => by rw [upd_ne (ne c _ q)]; exact q) fun c xs q => by rw [upd_ne (ne c _ q)]; exact q
      rcases hc with z | z
      · rw [z]; exact hb
      · exact ne c _ z
theorem vals_at {xs : List V} {us : List Value} (r : Vals xs us) {i : Nat} {u : Value} (h : us[i]? = some u) : ∃ x, xs[i]? = some x ∧ RelV x u := by
  induction r generalizing i with
  | nil => simp at h
  | cons a t ih =>
    cases i with
    | zero =>
      simp at h
      subst h
      exact ⟨_, rfl, a⟩
    | succ i => exact ih (by simpa using h)
/-- the keys are made, the pairs sorted -/
theorem key_rest {p kS f : Addr} {fo : Obj} {e1 : Nat} {A : Around} {vs : List Value} {xs : List V} {k : V → Int × List Int} {R : PySem.Fin → Shared → Prop} {E : Value → Shared → Prop} (hu : A.units + 1 < cLine)
    (I : Inv X ((p, seqObj "list" #[] e1) :: (f, fo) :: pins) σ H s) (hkS : H kS = some (.lst [])) {Hb : Hp} (sb : Same Hb H) (nkS : Hb kS = none) (nP : Hb p = none) (h0 : X.s_0.heap.objs.size ≤ p) (hpn : ∀ q ∈ X.pn ++ ((f, fo) :: pins), q.1 ≠ p)
    (rv : Vals xs vs) (hx : ∀ x ∈ xs, ∃ a, x = V.ref a) (hz : xs.length ≤ 900)
    (call_ : ∀ (x : V) (u : Value) (H1 : Hp) (s1 : Shared), x ∈ xs → RelV x u → Inv X ((p, seqObj "list" #[] e1) :: (f, fo) :: pins) σ H1 s1 → Same Hb H1 →
      wpAny (model X.prog X.w) A (call (.ref f) [u]) (EP X ((p, seqObj "list" #[] e1) :: (f, fo) :: pins) σ (fun v H2 => Same H1 H2 ∧ KeyV X.K H2 v (k x))) (fun _ _ => False) s1)
    (done : ∀ ys H' s', Inv X ((f, fo) :: pins) σ H' s' → Same Hb H' → H' p = some (.lst ys) → Srtd (fun x y => lp (k x) (k y)) ys → Stb (fun x y => lp (k x) (k y)) ys xs → R (.done (.ret .none)) s') :
    wpAny (model X.prog X.w) A (ksk_rest p (.ref f) false vs.toArray e1 (.ref kS)) R E s := by
  obtain ⟨b1, b2⟩ := refs_back rv hx
  have vl : vs.length = xs.length := rv.length.symm
  unfold ksk_rest
  refine wpAny_bind (wpAny_rule ?_)
  first
    | rw [List.forIn_toArray]
    | (rw [← Array.forIn_toList]; simp only [List.toList_toArray])
    | rw [← Array.forIn_toList]
  refine wpAny_bind (ksk_fold (fun i s' => ∃ (H' : Hp) (ks : List V), Inv X ((p, seqObj "list" #[] e1) :: (f, fo) :: pins) σ H' s' ∧ Same Hb H' ∧ H' kS = some (.lst ks) ∧ ks.length = i ∧ ∀ (j : Nat) v x, ks[j]? = some v → xs[j]? = some x → KeyV X.K H' v (k x)) vs 0 s
    ⟨H, [], I, sb, hkS, rfl, fun j v x h => by simp at h⟩ ?step ?done)
  case step =>
    rintro j u s' hu' ⟨H', ks, I', sb', hk', kl, kk⟩
    simp only [Nat.zero_add] at kl ⊢
    obtain ⟨x, hxj, rx⟩ := vals_at rv hu'
    have hj : j < vs.length := (List.getElem?_eq_some_iff.mp hu').1
    refine wpAny_bind (wpAny_attempt (wpAny_mono (call_ x u H' s' (List.mem_of_getElem? hxj) rx I' sb') (fun w s2 he => ?_) fun _ _ hF => hF.elim))
    obtain ⟨v, H2, I2, rw2, s2', kv2⟩ := he
    try dsimp only
    have hk2 := s2' _ _ hk'
    obtain ⟨z, its, n, ri, ho⟩ := (show ObjOk X.prog X.w H2 s2.heap kS (.lst ks) from I2.hok _ _ hk2)
    have il : its.length = ks.length := ri.length.symm
    obtain ⟨c2, hc2⟩ : ∃ c2, (s2.heap.update kS (Obj.mapSeq (·.push w))).get? kS = some (seqObj "list" (its.toArray.push w) c2) := ⟨_, get?_update_seq ho (·.push w)⟩
    refine wpAny_bind (listUpdate_at ho rfl ?_ (by rw [List.size_toArray, il]; exact z) (by rw [Array.size_push, List.size_toArray, il]; omega))
    have ea : (its ++ [w]).toArray = its.toArray.push w := by simp
    have small : (ks ++ [v]).length ≤ sizeLine := by
      rw [List.length_append, List.length_singleton]
      exact Nat.le_of_lt (small1000 (by omega))
    refine wpAny_pure ⟨rfl, upd H2 kS (.lst (ks ++ [v])), ks ++ [v], I2.write (x := kS) (e := kS) (t' := s2.toks) (by rw [hk2]; trivial) (.inl rfl) (fun b v' hb e => by rw [Heap.get?_update_ne _ _ _ _ hb]; exact e) ⟨_, hc2⟩ ⟨small, its ++ [w], c2, ri.append (.cons rw2 .nil), by rw [ea]; exact hc2⟩, fun b o e => ?_, upd_same, by rw [List.length_append, kl]; rfl, fun i v' x' h1 h2 => ?_⟩
    · rw [upd_ne (ne_of_none e nkS)]; exact s2' _ _ (sb' _ _ e)
    · have tupk : ∀ a ys, H2 a = some (.tup ys) → upd H2 kS (.lst (ks ++ [v])) a = some (.tup ys) := fun a ys e => by
        rw [upd_ne (fun z => by rw [z, hk2] at e; cases e)]; exact e
      have sqk : ∀ a ys, SqT X.K H2 a ys → SqT X.K (upd H2 kS (.lst (ks ++ [v]))) a ys := fun a ys e => sqt_keep e fun b o e' no => by
        rw [upd_ne (fun z => no ks (by rw [z, hk2] at e'; exact (Option.some.inj e').symm))]; exact e'
      by_cases c : i < ks.length
      · rw [List.getElem?_append_left c] at h1
        exact ((kk i v' x' h1 h2).same (fun a ys e => s2' _ _ e) (fun a ys e => sqt_keep e fun b o e' _ => s2' _ _ e')).same tupk sqk
      · have ei : i = ks.length := by
          have := (List.getElem?_eq_some_iff.mp h1).1
          rw [List.length_append, List.length_singleton] at this
          omega
        subst ei
        rw [List.getElem?_append_right (Nat.le_refl _), Nat.sub_self] at h1
        cases h1
        rw [kl, hxj] at h2
        cases h2
        exact kv2.same tupk sqk
  case done =>
    rintro s' ⟨H', ks, I', sb', hk', kl, kk⟩
    rw [Nat.zero_add] at kl
    obtain ⟨z, its, n, ri, ho⟩ := (show ObjOk X.prog X.w H' s'.heap kS (.lst ks) from I'.hok _ _ hk')
    have il : its.length = ks.length := ri.length.symm
    obtain ⟨pp1, pp2, pp3, pp4, pp5⟩ := I'.pin (p, seqObj "list" #[] e1) (List.mem_append_right _ (List.mem_cons_self ..))
    have hne : kS ≠ p := fun z => by rw [z] at hk'; rw [pp2] at hk'; cases hk'
    try dsimp only
    refine wpAny_bind (listItems_at ho rfl ?_)
    refine key_end (kv := fun u => k (backV u)) hu ho pp1 hne (by omega) (by rw [vl]; exact Nat.le_of_lt (small1000 (by omega))) (fun q hq => ?_) (fun ps tk h1 h2 => ?_)
    · obtain ⟨j, hj⟩ := List.mem_iff_getElem?.mp hq
      rw [List.getElem?_zip_eq_some] at hj
      obtain ⟨v, hv, rvv⟩ := vals_at ri hj.1
      obtain ⟨x, hxx, rxx⟩ := vals_at rv hj.2
      have e := kk j v x hv hxx
      have ex : x = backV q.2 := by
        rw [b1, List.getElem?_map, hj.2] at hxx
        exact (Option.some.inj hxx).symm
      rw [ex] at e
      exact isNT_of I' e rvv
    · -- the sorted list
      have zl : (its.zip vs).length = vs.length := by rw [List.length_zip]; omega
      have I1 : Inv X ((f, fo) :: pins) σ (upd H' kS (.lst [])) { s' with heap := s'.heap.update kS (Obj.mapSeq fun _ => (#[] : Array Value)), toks := tk } := by
        obtain ⟨c2, hc2⟩ : ∃ c2, (s'.heap.update kS (Obj.mapSeq fun _ => (#[] : Array Value))).get? kS = some (seqObj "list" #[] c2) := ⟨_, get?_update_seq ho (fun _ => #[])⟩
        exact (I'.pins_of (pins' := (f, fo) :: pins) fun q hq => I'.pin q (List.mem_append_right _ (List.mem_cons_of_mem _ hq))).write (x := kS) (e := kS) (t' := tk) (by rw [hk']; trivial) (.inl rfl) (fun b v' hb e => by rw [Heap.get?_update_ne _ _ _ _ hb]; exact e) ⟨_, hc2⟩ ⟨Nat.zero_le _, [], c2, .nil, hc2⟩
      have hp1 : (s'.heap.update kS (Obj.mapSeq fun _ => (#[] : Array Value))).get? p = some (seqObj "list" #[] e1) := by rw [Heap.get?_update_ne _ _ _ _ hne.symm]; exact pp1
      have O : Swo (fun x y : V => lp (k x) (k y)) := swo_lp k
      have g1 : Srtd (fun x y => lp (k x) (k y)) (ps.map fun q : Keyed => backV q.2) := srtd_map h1
      have g2 : Stb (fun x y => lp (k x) (k y)) (ps.map fun q : Keyed => backV q.2) xs := by
        have z := Stb.map O (fun q : Keyed => backV q.2) h2
        have e : (its.zip vs).map (fun q : Keyed => backV q.2) = xs := by
          rw [b1]
          have : (its.zip vs).map (fun q : Keyed => backV q.2) = ((its.zip vs).map Prod.snd).map backV := by rw [List.map_map]; rfl
          rw [this, List.map_snd_zip (by omega)]
        rw [e] at z
        exact z
      have hv3 : ∀ u ∈ ps.map (·.2), ∃ a, u = Value.ref a := fun u hu => by
        obtain ⟨q, hq, rfl⟩ := List.mem_map.mp hu
        exact b2 _ (List.of_mem_zip (h2.perm.mem_iff.mp hq)).2
      obtain ⟨c3, hc3⟩ : ∃ c3, ((s'.heap.update kS (Obj.mapSeq fun _ => (#[] : Array Value))).update p (Obj.mapSeq fun _ => (ps.map (·.2)).toArray)).get? p = some (seqObj "list" (ps.map (·.2)).toArray c3) := ⟨_, get?_update_seq hp1 (fun _ => (ps.map (·.2)).toArray)⟩
      have np1 : upd H' kS (.lst []) p = none := by rw [upd_ne hne.symm]; exact pp2
      have em : ps.map (fun q : Keyed => backV q.2) = (ps.map (·.2)).map backV := by rw [List.map_map]; rfl
      have I2 := inv_take (p := p) (u := .lst (ps.map fun q : Keyed => backV q.2)) (t' := tk) (h' := (s'.heap.update kS (Obj.mapSeq fun _ => (#[] : Array Value))).update p (Obj.mapSeq fun _ => (ps.map (·.2)).toArray)) I1 hp1 np1 h0 pp3 (fun v z => nomatch z) hpn
        (fun b v hb e => by rw [Heap.get?_update_ne _ _ _ _ hb]; exact e) (Heap.SameBut.update ..) ⟨by rw [g2.len]; exact Nat.le_of_lt (small1000 (by omega)), _, c3, by rw [em]; exact vals_back hv3, hc3⟩ ⟨_, hc3⟩
      refine done _ _ _ I2 (fun b o e => ?_) upd_same g1 g2
      rw [upd_ne (ne_of_none e nP), upd_ne (ne_of_none e nkS)]
      exact sb' _ _ e
end
end Km

set_option Elab.async false
set_option linter.all false
set_option maxRecDepth 100000
set_option maxHeartbeats 4000000
namespace Km
open PySem PySem.Spec PyProof.Rows L2 Kg Kd LamX SrtO Srt Ku
section
variable {X : Cx} {pins : List (Addr × Obj)} {σ : L2.St} {H : Hp} {s : Shared}
theorem fs_sub {b : Addr} (I : Inv X pins σ H s) (h : b ∈ X.fs) : b ∈ frs X.stack := by
  rcases I.ok.stk with e | ⟨e, hf⟩
  · rw [e]; exact h
  · rw [e]
    show b ∈ List.filterMap (·.frame) (X.env :: X.outer)
    rw [List.filterMap_cons, hf]
    exact List.mem_cons_of_mem _ h
/-- what is tracked is there -/
theorem ok_there {P : Program} {w : World} {h : Heap} {a : Addr} {o : HO} (x : ObjOk P w H h a o) : ∃ ob, h.get? a = some ob := by
  cases o with
  | lst xs => obtain ⟨_, _, _, _, z⟩ := x; exact ⟨_, z⟩
  | tup xs => obtain ⟨_, _, _, ob, z, _⟩ := x; exact ⟨ob, z⟩
  | dK kvs => obtain ⟨_, _, _, _, ob, _, _, z, _⟩ := x; exact ⟨ob, z⟩
  | dT kvs => obtain ⟨_, _, _, _, ob, _, _, z, _⟩ := x; exact ⟨ob, z⟩
  | set S n => obtain ⟨ob, _, _, _, z, _⟩ := x; exact ⟨ob, z⟩
  | ins C dx fs => obtain ⟨_, _, _, z, _⟩ := x; exact ⟨_, z⟩
  | own y => exact x
  | xd fs => obtain ⟨_, ⟨ob, _, _, z, _⟩, _⟩ := x; exact ⟨ob, z⟩
  | rng lo hi => obtain ⟨_, _, _, z⟩ := x; exact ⟨_, z⟩
  | frz ob u => exact ⟨ob, x.1⟩
  | tbl ps => exact ⟨_, x⟩
  | met f y => exact ⟨_, x⟩
  | ext φ => exact x.2.1
/-- sorted(l, key=f) -/
theorem sorted_key {f l : Addr} {fo : Obj} {vs : List Value} {xs : List V} {k : V → Int × List Int} {Q : VK} {E : Value → Shared → Prop} (hu : X.A.units + 64 < cLine)
    (I : Inv X pins σ H s) (hf : s.heap.get? f = some fo) (hfn : H f = none) (hfs : f ∉ frs X.stack) (hfc : ∀ v, fo.data ≠ .cell v) (hfL : f ≠ X.env.locals)
    (rv : Vals xs vs) (hx : ∀ x ∈ xs, ∃ a, x = V.ref a) (hz : xs.length ≤ 900)
    (hcol : ∀ (Q : List Value → Shared → Prop), (∀ (h' : Heap) (tk : Nat), (∀ b o, s.heap.get? b = some o → h'.get? b = some o) → Q vs { s with heap := h', toks := tk }) → wpAny (model X.prog X.w) X.A.in1 (collect (.ref l)) Q (fun e s' => E e s') s)
    (call_ : ∀ (p : Addr × Obj) (x : V) (u : Value) (H1 : Hp) (s1 : Shared), x ∈ xs → RelV x u → Inv X (p :: (f, fo) :: pins) σ H1 s1 → Same H H1 →
      wpAny (model X.prog X.w) X.A.in1.in1 (call (.ref f) [u]) (EP X (p :: (f, fo) :: pins) σ (fun v H2 => Same H1 H2 ∧ KeyV X.K H2 v (k x))) (fun _ _ => False) s1)
    (q : ∀ ys p H', Srtd (fun x y => lp (k x) (k y)) ys → Stb (fun x y => lp (k x) (k y)) ys xs → Same H H' → H p = none → H' p = some (.lst ys) → Q (.ref p) H') :
    wpAny (model X.prog X.w) X.A (call (.builtin "sorted") [.ref l] [(Str.ofString "key", .ref f)]) (EP X pins σ Q) E s := by
  have vl : vs.length = xs.length := rv.length.symm
  have hz' : vs.length ≤ sizeLine := by rw [vl]; exact Nat.le_of_lt (small1000 (by omega))
  refine call_function_entry_kw kind_sorted plain_sorted entry_sorted (ksk_s1 _ _) ?_
  unfold Builtin.«sorted»
  refine wpAny_bind (m := checkCount "sorted" 1 1 _) (wpAny_pure ?_)
  refine wpAny_bind (hcol _ fun h' tk kp' => ?_)
  refine wpAny_bind (wpAny_newList ?_ hz')
  have hoL : (h'.push (seqObj "list" vs.toArray 0)).get? h'.objs.size = some (seqObj "list" vs.toArray 0) := Heap.get?_push_size _ rfl
  show wpAny _ _ _ _ _ { s with heap := h'.push (seqObj "list" vs.toArray 0), toks := tk }
  refine wpAny_bind (wpAny_holding (wpAny_call_entry_kw slot_list_sort ⟨_, hoL, rfl⟩ entry_list_sort ?_ (ksk_l1 _ _)))
  rw [ksk_t1]
  obtain ⟨e1, ho1⟩ : ∃ e1, ((h'.push (seqObj "list" vs.toArray 0)).update h'.objs.size (Obj.mapSeq fun _ => (#[] : Array Value))).get? h'.objs.size = some (seqObj "list" #[] e1) := ⟨_, get?_update_seq hoL fun _ => #[]⟩
  unfold ksk_tree
  refine wpAny_bind (listItems_at hoL rfl ?_)
  refine wpAny_bind (listUpdate_at hoL rfl ?_ (by rw [List.size_toArray]; exact hz') (Nat.zero_le _))
  refine wpAny_bind (seqEpoch_at ho1 rfl ?_)
  refine wpAny_bind (wpAny_newTuple ?_ (by show vs.length ≤ _; exact hz'))
  refine wpAny_bind (wpAny_newList ?_ (Nat.zero_le _))
  refine wpAny_holding ?_
  generalize hP : h'.objs.size = p at hoL ho1 ⊢
  generalize hA : (h'.push (seqObj "list" vs.toArray 0)).update p (Obj.mapSeq fun _ => (#[] : Array Value)) = hAA at ho1 ⊢
  have szA : hAA.objs.size = p + 1 := by rw [← hA, Heap.size_update, size_push', hP]
  have kpA : ∀ b o, s.heap.get? b = some o → hAA.get? b = some o := fun b o e => by
    have lt := Heap.lt_size (kp' b o e)
    rw [← hA, Heap.get?_update_ne _ _ _ _ (Nat.ne_of_lt (by rw [hP] at lt; exact lt))]
    exact Heap.get?_push_of_some _ (kp' b o e)
  have hk2 : (hAA.push (seqObj "tuple" vs.toArray 0)).objs.size = p + 2 := by rw [size_push', szA]
  have kp1 : ∀ b o, s.heap.get? b = some o → ((hAA.push (seqObj "tuple" vs.toArray 0)).push (seqObj "list" #[] 0)).get? b = some o := fun b o e => Heap.get?_push_of_some _ (Heap.get?_push_of_some _ (kpA b o e))
  have off : ∀ b o, s.heap.get? b = some o → b < p := fun b o z => by
    have lt := Heap.lt_size (kp' b o z)
    rw [hP] at lt
    exact lt
  have far : ∀ b, p ≤ b → H b = none := fun b hb => by
    cases z : H b with
    | none => rfl
    | some u =>
      obtain ⟨ob, z2⟩ := ok_there (I.hok b u z)
      exact absurd (Nat.lt_of_lt_of_le (off b ob z2) hb) (Nat.lt_irrefl _)
  have locp : X.env.locals < p := by
    obtain ⟨m, ⟨o, es, ep, z, _⟩, _⟩ := I.loc
    exact off _ _ z
  have s0p : X.s_0.heap.objs.size ≤ p := Nat.le_trans I.ok.above (Nat.le_of_lt locp)
  have nofs : p ∉ X.fs := fun z => by
    obtain ⟨_, o, z2, _⟩ := I.ok.funs.mem z
    exact absurd (Nat.lt_of_lt_of_le (Heap.lt_size z2) s0p) (Nat.lt_irrefl _)
  have nP : H p = none := far p (Nat.le_refl _)
  have nK : H (p + 2) = none := far (p + 2) (Nat.le_add_right _ _)
  have I0 : Inv X ((f, fo) :: pins) σ H s := I.pins_of (pins' := (f, fo) :: pins) fun r hr => by
    rcases List.mem_cons.mp hr with z | z
    · rw [z]
      exact ⟨hf, hfn, hfL, fun y => hfs (fs_sub I y), hfc⟩
    · exact I.pin r (List.mem_append_right _ z)
  have pinp : ∀ b, p ≤ b → ∀ r ∈ X.pn ++ ((f, fo) :: pins), r.1 ≠ b := fun b hb r hr z => by
    have lt := off _ _ (I0.pin r hr).1
    rw [z] at lt
    exact absurd (Nat.lt_of_lt_of_le lt hb) (Nat.lt_irrefl _)
  have hkS : ((hAA.push (seqObj "tuple" vs.toArray 0)).push (seqObj "list" #[] 0)).get? (p + 2) = some (seqObj "list" #[] 0) := by rw [← hk2]; exact Heap.get?_push_size _ rfl
  have I1 : Inv X ((f, fo) :: pins) σ (upd H (p + 2) (.lst [])) { s with heap := (hAA.push (seqObj "tuple" vs.toArray 0)).push (seqObj "list" #[] 0), toks := tk } :=
    inv_take (s := { s with heap := (hAA.push (seqObj "tuple" vs.toArray 0)).push (seqObj "list" #[] 0), toks := tk }) (o := seqObj "list" #[] 0) (p := p + 2) (t' := tk) (h' := (hAA.push (seqObj "tuple" vs.toArray 0)).push (seqObj "list" #[] 0)) (I0.kept (t' := tk) kp1) hkS nK (Nat.le_trans s0p (Nat.le_add_right _ _)) (Nat.ne_of_gt (Nat.lt_of_lt_of_le locp (Nat.le_add_right _ _))) (fun v z => nomatch z) (pinp _ (Nat.le_add_right _ _)) (fun b v _ z => z) ⟨rfl, fun b _ => rfl⟩ ⟨Nat.zero_le _, [], 0, .nil, hkS⟩ ⟨_, hkS⟩
  have hpn := pinp p (Nat.le_refl _)
  have I2 : Inv X ((p, seqObj "list" #[] e1) :: (f, fo) :: pins) σ (upd H (p + 2) (.lst [])) { s with heap := (hAA.push (seqObj "tuple" vs.toArray 0)).push (seqObj "list" #[] 0), toks := tk } := I1.pins_of fun r hr => by
    rcases List.mem_cons.mp hr with z | z
    · rw [z]
      exact ⟨Heap.get?_push_of_some _ (Heap.get?_push_of_some _ ho1), by rw [upd_ne (by show p ≠ p + 2; omega)]; exact nP, Nat.ne_of_gt locp, nofs, fun v z => nomatch z⟩
    · exact I1.pin r (List.mem_append_right _ z)
  rw [hk2]
  refine key_rest (k := k) (xs := xs) (p := p) (kS := p + 2) (in2_units hu) I2 upd_same (Hb := H) (same_new nK) nK nP s0p hpn rv hx hz (fun x u H1 s1 hm rx J sm => call_ _ x u H1 s1 hm rx J sm) fun ys H' s' J sm hp hs hb => ⟨_, rfl, ?_⟩
  exact wpAny_pure ⟨_, rfl, .ref p, H', J.pins_of (pins' := pins) fun r hr => J.pin r (List.mem_append_right _ (List.mem_cons_of_mem _ hr)), rfl, q ys p H' hs hb sm nP hp⟩
end
end Km

set_option Elab.async false
set_option linter.all false
set_option maxRecDepth 100000
set_option maxHeartbeats 4000000
namespace Km
open PySem PySem.Spec PyProof.Rows L2 Kg Kd LamX SrtO Srt Ku
/-- sorted(e, key=lambda a: body), e a list -/
def tSortLam (K : PySem.W.Frag) (T : List (Addr × Str)) (t : TA) (tb : TE) : TE := fun σ H Q => t σ H fun us H1 => ∃ (l : Addr) (xs : List V) (k : V → Int × List Int), us = [.ref l] ∧ H1 l = some (.lst xs) ∧ (∀ x ∈ xs, ∃ a, x = V.ref a) ∧ xs.length ≤ 900 ∧ Tabs T H1 ∧
  (∀ H2, ExtN H1 H2 → ∀ x ∈ xs, tb (some x :: σ) H2 (fun v H3 => Same H2 H3 ∧ KeyV K H3 v (k x))) ∧
  ∀ ys p H', Srtd (fun x y => lp (k x) (k y)) ys → Stb (fun x y => lp (k x) (k y)) ys xs → ExtN H1 H' → Tabs T H' → H' p = some (.lst ys) → Q (.ref p) H'
section
variable {X : Cx}
theorem pe_sortLam {T : List (Addr × Str)} {c P : Addr} {k : Nat} {a : Str} {e : Expr} {params : Arguments} {body : Expr} {scope : Scope} {t : TA} {tb : TE} {p1 lpos kpos pos : Pos} (hg : Gl X "sorted") (hm : X.mg "sorted" = none) (hv : bootBuiltins "sorted" = some (.builtin "sorted")) (ha : PA X [e] t)
    (TB : TabB X.base X.mg c P) (hcode : X.env.code = .ref c) (hmT : (P, X.env.qual ++ "<lambda>") ∈ T) (hu : ∀ p ∈ T, p.1 = P → p.2 = X.env.qual ++ "<lambda>") (hr : Room (k + 3) X.A) (L : LamS1 X.env.scope scope a) (na : a ∉ X.N) (hdef : defaultsOf params X.env = ([], []))
    (hbind : ∀ (q : Str) (cl : List (Str × Addr)) (pm cv ctv u : Value), bindArgs (PySem.W.kla_fn "<lambda>" q params body scope cl pm cv ctv) ⟨[u], []⟩ = pure [(a, u)])
    (hbody : ∀ (A : Around) (s : Shared) (H : Hp) (f c' : Addr), Room k (A.deeper (lamEnv X scope s.heap.objs.size f c')) → PE (lamCx1 X a A X.stack s H scope f c') body tb)
    (he : backTo pos (starEach [e] X.env) = (false, eval e X.env) :: backTo pos (starEach [] X.env) := by rfl) (hpl : (backTo pos (starEach [e] X.env)).any (·.1) = false := by rfl) :
    PE X (.Call (.Name "sorted" p1) [e] [⟨some "key", .Lambda params body scope lpos, kpos⟩] pos) (tSortLam X.K T t tb) := by
  refine ⟨fun pins s σ H Q I h => ?_⟩
  refine wpAny_Call_Name_kw (ld_blt I hg hm hv ?_ (by decide) (by decide))
  refine PyProof.Rows.callWith_kw (thn (ha.run pos pins s σ H _ I h) fun us s1 ⟨vs, H1, I1, r1, q1⟩ => ?_) he hpl rfl rfl
  obtain ⟨l, xs, kf, rfl, hl, hx, hz, hT, hk, q⟩ := q1
  obtain ⟨u, rfl, ru⟩ := vals1 r1
  cases (show u = Value.ref l from ru)
  show wpAny _ _ (evalAll [(do let v ← eval (.Lambda params body scope lpos) X.env; standAt pos; pure v)]) _ _ s1
  refine wpAny_evalAll_cons (wpAny_bind (lam_make2 I1 TB hcode hmT hu hT hdef (L.has I1.ok) fun f c' pm ctv H2 s2 I2 eN T2 hf hfn hfs hco => wpAny_bind (wpAny_standAt (wpAny_pure (wpAny_evalAll_nil ?_)))))
  show wpAny _ _ (call (.builtin "sorted") [.ref l] [(Str.ofString "key", .ref f)]) _ _ s2
  have hl2 := eN _ _ hl (fun ps z => nomatch z)
  obtain ⟨its, rv, hL, hz2⟩ := I2.list (SqL.of hl2)
  have fL : f ≠ X.env.locals := fun z => by
    obtain ⟨m, ⟨o, es, ep, ho, hd, _⟩, _⟩ := I2.loc
    rw [← z, hf] at ho
    cases ho
    cases hd
  have hr1 : Room (k + 1) X.A.in1.in1 := Room.in1 (Room.in1 hr)
  refine sorted_key (k := kf) hr.units I2 hf hfn hfs (fun v z => nomatch z) fL rv hx hz (fun R hR => collect_list hL.isList (hR _ s2.toks (fun b o e => ?_)) (by rw [← rv.length]; exact hz2)) (fun p x u H3 s3 hm3 rx J sm => ?_) (fun ys p H' g1 g2 sm np hp => ?_)
  · have lt := Heap.lt_size e
    rw [Heap.get?_update_ne _ _ _ _ (Nat.ne_of_lt lt)]
    exact Heap.get?_push_of_some _ e
  · have hf3 := (J.pin (f, _) (List.mem_append_right _ (List.mem_cons_of_mem _ (List.mem_cons_self ..)))).1
    exact wpAny_call (lam_call J L na hf3 (sm _ _ hco) J.env0.in1.in1 hr1 rx (hbind _ _ _ _ _ _) (fun A s H hr' => hbody A s H f c' hr') (hk H3 (eN.trans (.of sm)) x hm3))
  · exact q ys p H' g1 g2 (eN.trans (.of sm)) (T2.ext sm) hp
end
end Km

set_option Elab.async false
set_option linter.all false
set_option maxRecDepth 100000
set_option maxHeartbeats 4000000
namespace Km
open PySem PySem.Spec PyProof.Rows L2 Kg Kd LamX SrtO Srt Ku
/-- sorted(e, key=lambda a: body), e a dict whose keys are tuples -/
def tSortLamD (K : PySem.W.Frag) (T : List (Addr × Str)) (t : TA) (tb : TE) : TE := fun σ H Q => t σ H fun us H1 => ∃ (d : Addr) (kvs : List (List Key × V)), us = [.ref d] ∧ H1 d = some (.dT kvs) ∧ kvs.length ≤ 900 ∧ Tabs T H1 ∧
  ∀ H2 bs, ExtN H1 H2 → Tabs T H2 → IsKeys H2 kvs bs → ∃ k : V → Int × List Int, (∀ H3, Same H2 H3 → ∀ x ∈ bs.map V.ref, tb (some x :: σ) H3 (fun v H4 => Same H3 H4 ∧ KeyV K H4 v (k x))) ∧
  ∀ ys p H', Srtd (fun x y => lp (k x) (k y)) ys → Stb (fun x y => lp (k x) (k y)) ys (bs.map V.ref) → Same H2 H' → Tabs T H' → H' p = some (.lst ys) → Q (.ref p) H'
theorem vals_refs : ∀ bs : List Addr, Vals (bs.map V.ref) (bs.map Value.ref)
  | [] => .nil
  | _ :: bs => .cons rfl (vals_refs bs)
section
variable {X : Cx}
theorem pe_sortLamD {T : List (Addr × Str)} {c P : Addr} {k : Nat} {a : Str} {e : Expr} {params : Arguments} {body : Expr} {scope : Scope} {t : TA} {tb : TE} {p1 lpos kpos pos : Pos} (hc : X.calm = true) (hg : Gl X "sorted") (hm : X.mg "sorted" = none) (hv : bootBuiltins "sorted" = some (.builtin "sorted")) (ha : PA X [e] t)
    (TB : TabB X.base X.mg c P) (hcode : X.env.code = .ref c) (hmT : (P, X.env.qual ++ "<lambda>") ∈ T) (hu : ∀ p ∈ T, p.1 = P → p.2 = X.env.qual ++ "<lambda>") (hr : Room (k + 3) X.A) (L : LamS1 X.env.scope scope a) (na : a ∉ X.N) (hdef : defaultsOf params X.env = ([], []))
    (hbind : ∀ (q : Str) (cl : List (Str × Addr)) (pm cv ctv u : Value), bindArgs (PySem.W.kla_fn "<lambda>" q params body scope cl pm cv ctv) ⟨[u], []⟩ = pure [(a, u)])
    (hbody : ∀ (A : Around) (s : Shared) (H : Hp) (f c' : Addr), Room k (A.deeper (lamEnv X scope s.heap.objs.size f c')) → PE (lamCx1 X a A X.stack s H scope f c') body tb)
    (he : backTo pos (starEach [e] X.env) = (false, eval e X.env) :: backTo pos (starEach [] X.env) := by rfl) (hpl : (backTo pos (starEach [e] X.env)).any (·.1) = false := by rfl) :
    PE X (.Call (.Name "sorted" p1) [e] [⟨some "key", .Lambda params body scope lpos, kpos⟩] pos) (tSortLamD X.K T t tb) := by
  refine ⟨fun pins s σ H Q I h => ?_⟩
  refine wpAny_Call_Name_kw (ld_blt I hg hm hv ?_ (by decide) (by decide))
  refine PyProof.Rows.callWith_kw (thn (ha.run pos pins s σ H _ I h) fun us s1 ⟨vs, H1, I1, r1, q1⟩ => ?_) he hpl rfl rfl
  obtain ⟨d, kvs, rfl, hd, hz, hT, q⟩ := q1
  obtain ⟨u, rfl, ru⟩ := vals1 r1
  cases (show u = Value.ref d from ru)
  show wpAny _ _ (evalAll [(do let v ← eval (.Lambda params body scope lpos) X.env; standAt pos; pure v)]) _ _ s1
  refine wpAny_evalAll_cons (wpAny_bind (lam_make2 I1 TB hcode hmT hu hT hdef (L.has I1.ok) fun f c' pm ctv H2 s2 I2 eN T2 hf hfn hfs hco => wpAny_bind (wpAny_standAt (wpAny_pure (wpAny_evalAll_nil ?_)))))
  show wpAny _ _ (call (.builtin "sorted") [.ref d] [(Str.ofString "key", .ref f)]) _ _ s2
  have hd2 := eN _ _ hd (fun ps z => nomatch z)
  obtain ⟨z, lo, ks, pr, o, es, ep, ho, hx, hdt, hes, hn⟩ := (show ObjOk X.prog X.w H2 s2.heap d (.dT kvs) from I2.hok _ _ hd2)
  have l1 : es.size = ks.length := size_of_entries hes
  have l2 : kvs.length = ks.length := Paired.length pr
  obtain ⟨kf, hk, q⟩ := q H2 (ks.map fun x => x.2.1) eN T2 (isKeys_of pr)
  have fL : f ≠ X.env.locals := fun z => by
    obtain ⟨m, ⟨o, es, ep, ho, hd, _⟩, _⟩ := I2.loc
    rw [← z, hf] at ho
    cases ho
    cases hd
  have hr1 : Room (k + 1) X.A.in1.in1 := Room.in1 (Room.in1 hr)
  refine sorted_key (k := kf) (xs := (ks.map fun x => x.2.1).map V.ref) (vs := (ks.map fun x => x.2.1).map Value.ref) hr.units I2 hf hfn hfs (fun v z => nomatch z) fL (vals_refs _) (fun x hm => by obtain ⟨b, _, rfl⟩ := List.mem_map.mp hm; exact ⟨b, rfl⟩) (by rw [List.length_map, List.length_map]; omega)
    (fun R hR => PySem.W.kdu_collect (A := X.A.in1) (kdl_raw lo hx hdt) (I2.ok.hd hc) ho (by omega) fun h' tk acc kp it => ?_) (fun p x u H3 s3 hm3 rx J sm => ?_) (fun ys p H' g1 g2 sm np hp => q ys p H' g1 g2 sm (T2.ext sm) hp)
  · have ea : acc.toList = (ks.map fun x => x.2.1).map Value.ref := by
      rw [List.map_map]
      have hl : acc.toList.length = ks.length := by rw [Array.length_toList, it.1]; exact l1
      apply List.ext_getElem?
      intro j
      rw [List.getElem?_map]
      by_cases hj : j < ks.length
      · have h1 : acc.toList[j]? = some acc.toList[j] := List.getElem?_eq_getElem (by omega)
        obtain ⟨en, hen, hv⟩ := it.2 j acc.toList[j] (by rw [← Array.getElem?_toList]; exact h1)
        have qe := entry_at hes j
        rw [hen, List.getElem?_eq_getElem hj] at qe
        have e2 : en = entryOfKey (tupleKind (mixKind X.prog X.w)) ks[j] := Option.some.inj qe
        rw [h1, List.getElem?_eq_getElem hj, hv, e2]
        rfl
      · rw [List.getElem?_eq_none (by omega), List.getElem?_eq_none (by omega)]
        rfl
    rw [ea]
    exact hR h' tk kp
  · have hf3 := (J.pin (f, _) (List.mem_append_right _ (List.mem_cons_of_mem _ (List.mem_cons_self ..)))).1
    exact wpAny_call (lam_call J L na hf3 (sm _ _ hco) J.env0.in1.in1 hr1 rx (hbind _ _ _ _ _ _) (fun A s H hr' => hbody A s H f c' hr') (hk H3 sm x hm3))
end
end Km

set_option Elab.async false
set_option linter.all false
set_option maxRecDepth 100000
set_option maxHeartbeats 4000000
namespace Km
open PySem PySem.Spec PyProof.Rows L2 Kg Kd LamX
/-- a def by its body, its code object told -/
theorem okC {P : Program} {w : World} {K : PySem.W.Frag} {mg : Str → Option Value} {base : Heap} {x qual : Str} {st : Stmt} {f : Addr} {fd : FuncData} {N ps : List Str} {k : Nat} {sp : Sp} (F : Fun K x qual st f fd) (S : FnScope N ps (defScope st)) (len : ∀ vs H Q E, sp vs H Q E → vs.length = ps.length)
    (body : ∀ (A : Around) (outer : List Env) (s : Shared) (H : Hp) (vs : List V) (Q : VK) (E : XK), Room k (A.deeper (envOfC qual (defScope st) s.heap.objs.size f fd.code)) → sp vs H Q E →
      ∃ t, PSs (cxOf CX0 P w K mg base N qual (defScope st) f fd.code A outer s H E).nox (defBody st) t ∧ t { nx := fun _ H' => Q .non H', rt := Q } (start N vs) H) : FnOk P w K mg base CX0 (k + 1) f fd ps sp := by
  obtain ⟨z1, z2, z3, z4, z5, z6, z7, z8, z9, e, h1, h2⟩ := F.ex
  subst e
  refine fn_of h1 h2 S len fun A outer s H vs Q E r p => ?_
  obtain ⟨t, b1, b2⟩ := body A outer s H vs Q E r p
  exact ⟨t, b1.nox, b2⟩
end Km

set_option Elab.async false
set_option linter.all false
set_option maxRecDepth 100000
set_option maxHeartbeats 4000000
/-! Comprehensions over tuples, lists and ranges in which nothing that stands is changed. -/
namespace Kf
open PySem PySem.Spec PyProof.Rows L2 Kg Kd
theorem rgm_succ (P : Nat → Bool) (f : Nat → V) (i : Nat) : ((List.range (i + 1)).filter P).map f = ((List.range i).filter P).map f ++ (if P i = true then [f i] else []) := by
  rw [List.range_succ, List.filter_append, List.map_append]
  congr 1
  by_cases c : P i = true
  · simp [c]
  · simp [c]
theorem rgm_len (P : Nat → Bool) (f : Nat → V) (i : Nat) : (((List.range i).filter P).map f).length ≤ i := by
  have := List.length_filter_le P (List.range i)
  rw [List.length_map]
  rwa [List.length_range] at this
section
variable {K : PySem.W.Frag} {a : Addr} {xs : List V} {g : TG} {tt : TT} {te : TE} {vs : List Nat} {σ : L2.St} {H1 : Hp} {D : Addr} {Qd : Hp → Prop} {n : Nat}
/-- what one turn asks -/
def FmTurn (P : Nat → Bool) (f : Nat → V) (g : TG) (tt : TT) (te : TE) (vs : List Nat) (σ : L2.St) (H1 : Hp) (i : Nat) (x : V) : Prop :=
  ∀ (H : Hp), Same H1 H → ∀ (R : V → Hp → Prop) (R0 : Hp → Prop), (∀ H', Same H H' → (P i = true → R (f i) H') ∧ (P i = false → R0 H')) →
    g x (wipe σ vs) H fun σ2 H2 => wipe σ2 vs = wipe σ vs ∧ tt σ2 H2 fun b H3 => if b = true then te σ2 H3 R else R0 H3
theorem fm_step {P : Nat → Bool} {f : Nat → V} {i : Nat} {x : V} {H : Hp} (nD : H1 D = none) (hn : i < 900) (p : Same H1 H ∧ H D = some (.lst (((List.range i).filter P).map f))) (hs : FmTurn P f g tt te vs σ H1 i x) :
    g x (wipe σ vs) H fun σ2 H2 => wipe σ2 vs = wipe σ vs ∧ tt σ2 H2 fun b H3 =>
      if b = true then te σ2 H3 fun y H4 => ∃ acc, H4 D = some (.lst acc) ∧ acc.length < sizeLine ∧ (Same H1 (upd H4 D (.lst (acc ++ [y]))) ∧ (upd H4 D (.lst (acc ++ [y]))) D = some (.lst (((List.range (i + 1)).filter P).map f))) else (Same H1 H3 ∧ H3 D = some (.lst (((List.range (i + 1)).filter P).map f))) := by
  refine hs H p.1 _ _ (fun H' s' => ⟨fun c => ?_, fun c => ?_⟩)
  · refine ⟨_, s' _ _ p.2, ?_, fun b o z => ?_, ?_⟩
    · have := rgm_len P f i
      exact small1000 (by omega)
    · rw [upd_ne (ne_of_none z nD)]; exact s' _ _ (p.1 _ _ z)
    · rw [upd_same, rgm_succ, if_pos c]
  · refine ⟨p.1.trans s', ?_⟩
    rw [rgm_succ, if_neg (by rw [c]; exact Bool.false_ne_true), List.append_nil]
    exact s' _ _ p.2
theorem lc_tfm (P : Nat → Bool) (f : Nat → V) (nD : H1 D = none) (hn : xs.length ≤ 900) (ha : H1 a = some (.tup xs)) (hs : ∀ (i : Nat) (x : V), xs[i]? = some x → FmTurn P f g tt te vs σ H1 i x)
    (hd : ∀ H, Same H1 H → H D = some (.lst (((List.range xs.length).filter P).map f)) → Qd H) :
    ∃ W : Nat → Nat → Hp → Prop, (∃ m, W 0 m (upd H1 D (.lst []))) ∧ ∀ i m H, W i m H →
      ((Itt K a).stop i H ∧ Qd H) ∨ ((Itt K a).go i H ∧ ∃ Nx : Hp → Prop, (∀ H', Nx H' → ∃ m', m' < m ∧ W (i + 1) m' H') ∧ ∀ x H', (Itt K a).yld i H x H' → g x (wipe σ vs) H' fun σ2 H2 => wipe σ2 vs = wipe σ vs ∧ tt σ2 H2 fun b H3 =>
        if b = true then te σ2 H3 fun y H4 => ∃ acc, H4 D = some (.lst acc) ∧ acc.length < sizeLine ∧ Nx (upd H4 D (.lst (acc ++ [y]))) else Nx H3) :=
  lc_tup (K := K) (a := a) (xs := xs) (fun i H => Same H1 H ∧ H D = some (.lst (((List.range i).filter P).map f))) ⟨same_new nD, upd_same⟩ (fun i H _ p => SqT.of (p.1 _ _ ha))
    (fun i x H hx p => fm_step nD (by have := (List.getElem?_eq_some_iff.mp hx).1; omega) p (hs i x hx)) (fun H p => hd H p.1 p.2)
theorem lc_lfm (P : Nat → Bool) (f : Nat → V) (nD : H1 D = none) (hn : xs.length ≤ 900) (ha : H1 a = some (.lst xs)) (hs : ∀ (i : Nat) (x : V), xs[i]? = some x → FmTurn P f g tt te vs σ H1 i x)
    (hd : ∀ H, Same H1 H → H D = some (.lst (((List.range xs.length).filter P).map f)) → Qd H) :
    ∃ W : Nat → Nat → Hp → Prop, (∃ m, W 0 m (upd H1 D (.lst []))) ∧ ∀ i m H, W i m H →
      ((Itl K a).stop i H ∧ Qd H) ∨ ((Itl K a).go i H ∧ ∃ Nx : Hp → Prop, (∀ H', Nx H' → ∃ m', m' < m ∧ W (i + 1) m' H') ∧ ∀ x H', (Itl K a).yld i H x H' → g x (wipe σ vs) H' fun σ2 H2 => wipe σ2 vs = wipe σ vs ∧ tt σ2 H2 fun b H3 =>
        if b = true then te σ2 H3 fun y H4 => ∃ acc, H4 D = some (.lst acc) ∧ acc.length < sizeLine ∧ Nx (upd H4 D (.lst (acc ++ [y]))) else Nx H3) :=
  lc_list (K := K) (a := a) (xs := xs) (fun i H => Same H1 H ∧ H D = some (.lst (((List.range i).filter P).map f))) ⟨same_new nD, upd_same⟩ (fun i H _ p => SqL.of (p.1 _ _ ha))
    (fun i x H hx p => fm_step nD (by have := (List.getElem?_eq_some_iff.mp hx).1; omega) p (hs i x hx)) (fun H p => hd H p.1 p.2)
theorem lc_rfm (P : Nat → Bool) (f : Nat → V) (nD : H1 D = none) (hn : n ≤ 900) (hs : ∀ (i : Nat), i < n → FmTurn P f g tt te vs σ H1 i (.int (0 + (i : Nat))))
    (hd : ∀ H, Same H1 H → H D = some (.lst (((List.range n).filter P).map f)) → Qd H) :
    ∃ W : Nat → Nat → Hp → Prop, (∃ m, W 0 m (upd H1 D (.lst []))) ∧ ∀ i m H, W i m H →
      ((Itr 0 n).stop i H ∧ Qd H) ∨ ((Itr 0 n).go i H ∧ ∃ Nx : Hp → Prop, (∀ H', Nx H' → ∃ m', m' < m ∧ W (i + 1) m' H') ∧ ∀ x H', (Itr 0 n).yld i H x H' → g x (wipe σ vs) H' fun σ2 H2 => wipe σ2 vs = wipe σ vs ∧ tt σ2 H2 fun b H3 =>
        if b = true then te σ2 H3 fun y H4 => ∃ acc, H4 D = some (.lst acc) ∧ acc.length < sizeLine ∧ Nx (upd H4 D (.lst (acc ++ [y]))) else Nx H3) :=
  lc_range (lo := 0) (n := n) (fun i H => Same H1 H ∧ H D = some (.lst (((List.range i).filter P).map f))) ⟨same_new nD, upd_same⟩
    (fun i H hi p => fm_step nD (by omega) p (hs i hi)) (fun H p => hd H p.1 p.2)
def all1 : Nat → Bool := fun _ => true
theorem rg_all1 (n : Nat) : (List.range n).filter all1 = List.range n := List.filter_eq_self.mpr fun _ _ => rfl
/-- a turn without a test -/
theorem fm_one {f : Nat → V} {i : Nat} {x : V} (mono : ∀ {x σ H A B}, (∀ s h, A s h → B s h) → g x σ H A → g x σ H B) (hs : ∀ (H : Hp), Same H1 H → ∀ (R : V → Hp → Prop), (∀ H', Same H H' → R (f i) H') → g x (wipe σ vs) H fun σ2 H2 => wipe σ2 vs = wipe σ vs ∧ te σ2 H2 R) : FmTurn all1 f g tYes te vs σ H1 i x :=
  fun H s R R0 h => mono (fun s2 h2 z => ⟨z.1, by
    have e : tYes s2 h2 (fun b H3 => if b = true then te s2 H3 R else R0 H3) = (if true = true then te s2 h2 R else R0 h2) := rfl
    rw [e, if_pos rfl]; exact z.2⟩) (hs H s R (fun H' s' => (h H' s').1 rfl))
theorem gName_mono' {i : Nat} {x : V} {σ : L2.St} {H : Hp} {A B : L2.St → Hp → Prop} (h : ∀ s h, A s h → B s h) (z : gName i x σ H A) : gName i x σ H B := h _ _ z
/-- the items of a list, by their places -/
theorem rg_map {α : Type} {l : List α} {f : Nat → V} {v : α → V} (h : ∀ i x, l[i]? = some x → f i = v x) : (List.range l.length).map f = l.map v := by
  apply List.ext_getElem?
  intro i
  rw [List.getElem?_map, List.getElem?_map]
  by_cases c : i < l.length
  · rw [List.getElem?_range c, List.getElem?_eq_getElem c]
    show some (f i) = some (v l[i])
    rw [h i l[i] (List.getElem?_eq_getElem c)]
  · rw [List.getElem?_eq_none (by rw [List.length_range]; omega), List.getElem?_eq_none (by omega)]; rfl
theorem rg_filt {α : Type} {f : Nat → V} {v : α → V} {P : Nat → Bool} {Q : α → Bool} : ∀ {l : List α}, (∀ i x, l[i]? = some x → P i = Q x ∧ f i = v x) → ((List.range l.length).filter P).map f = (l.filter Q).map v := by
  intro l h
  have key : ∀ m, m ≤ l.length → ((List.range m).filter P).map f = ((l.take m).filter Q).map v := by
    intro m
    induction m with
    | zero => intro _; simp
    | succ m ih =>
      intro hm
      obtain ⟨e1, e2⟩ := h m l[m] (List.getElem?_eq_getElem (by omega))
      rw [rgm_succ, ih (by omega), List.take_add_one, List.getElem?_eq_getElem (show m < l.length by omega), List.filter_append, List.map_append]
      congr 1
      by_cases c : P m = true
      · rw [if_pos c]
        rw [e1] at c
        simp [c, e2]
      · rw [if_neg c]
        rw [e1] at c
        simp [c]
  have := key l.length (Nat.le_refl _)
  rwa [List.take_length] at this
end
end Kf

set_option Elab.async false
set_option linter.all false
set_option maxRecDepth 100000
set_option maxHeartbeats 4000000
/-! Heaps of which all but the tables stays. -/
namespace Kf
open PySem PySem.Spec PyProof.Rows L2 Kg Kd LamX
/-- all but tables stays as it was, and the tables of T go on -/
def Gr (T : List (Addr × Str)) (H H' : Hp) : Prop := ExtN H H' ∧ (Tabs T H → Tabs T H')
theorem Gr.refl (T : List (Addr × Str)) (H : Hp) : Gr T H H := ⟨.refl H, id⟩
theorem Gr.trans {T : List (Addr × Str)} {H H1 H2 : Hp} (a : Gr T H H1) (b : Gr T H1 H2) : Gr T H H2 := ⟨a.1.trans b.1, fun t => b.2 (a.2 t)⟩
theorem Gr.of {T : List (Addr × Str)} {H H' : Hp} (s : Same H H') : Gr T H H' := ⟨.of s, fun t => t.ext s⟩
theorem Gr.thn {T : List (Addr × Str)} {H H1 H2 : Hp} (a : Gr T H H1) (b : Same H1 H2) : Gr T H H2 := a.trans (.of b)
theorem Gr.aft {T : List (Addr × Str)} {H H1 H2 : Hp} (a : Same H H1) (b : Gr T H1 H2) : Gr T H H2 := Gr.trans (.of a) b
theorem Gr.tup {T : List (Addr × Str)} {H H' : Hp} (g : Gr T H H') {a : Addr} {xs : List V} (h : H a = some (.tup xs)) : H' a = some (.tup xs) := g.1 _ _ h fun _ z => nomatch z
theorem Gr.lst {T : List (Addr × Str)} {H H' : Hp} (g : Gr T H H') {a : Addr} {xs : List V} (h : H a = some (.lst xs)) : H' a = some (.lst xs) := g.1 _ _ h fun _ z => nomatch z
theorem Gr.ins {T : List (Addr × Str)} {H H' : Hp} (g : Gr T H H') {a C dx : Addr} {fs : List (Str × V)} (h : H a = some (.ins C dx fs)) : H' a = some (.ins C dx fs) := g.1 _ _ h fun _ z => nomatch z
theorem Gr.kf {T : List (Addr × Str)} {H H' : Hp} (g : Gr T H H') : KF H H' := fun a o h f => g.1 a o h fun ps z => by rw [z] at f; exact f
mutual
theorem da_ext {av : Addr → Prop} {H H' : Hp} (k : ExtN H H') : ∀ {v : V} {d : PyData}, Da av H v d → Da av H' v d
  | _, _, .non => .non
  | _, _, .bl b => .bl b
  | _, _, .int i => .int i
  | _, _, .str x => .str x
  | _, _, .lst n h z r => .lst n (k _ _ h fun _ y => nomatch y) z (das_ext k r)
  | _, _, .tup n h z r => .tup n (k _ _ h fun _ y => nomatch y) z (das_ext k r)
  | _, _, .dc0 n h => .dc0 n (k _ _ h fun _ y => nomatch y)
  | _, _, .dc1 n h => .dc1 n (k _ _ h fun _ y => nomatch y)
theorem das_ext {av : Addr → Prop} {H H' : Hp} (k : ExtN H H') : ∀ {vs : List V} {ds : List PyData}, DaAll av H vs ds → DaAll av H' vs ds
  | _, _, .nil => .nil
  | _, _, .cons h r => .cons (da_ext k h) (das_ext k r)
end
theorem Gr.da {T : List (Addr × Str)} {H H' : Hp} {av : Addr → Prop} {v : V} {d : PyData} (g : Gr T H H') (h : Da av H v d) : Da av H' v d := da_ext g.1 h
theorem Gr.tu {T : List (Addr × Str)} {H H' : Hp} {v : V} {d : PyData} (g : Gr T H H') (h : Tu H v d) : Tu H' v d := h.keep g.kf
theorem Gr.tus {T : List (Addr × Str)} {H H' : Hp} {v : List V} {d : List PyData} (g : Gr T H H') (h : TuAll H v d) : TuAll H' v d := h.keep g.kf
/-- what changes lists alone leaves tables -/
theorem tabs_keep {T : List (Addr × Str)} {ds : Addr → Prop} {H H' : Hp} (k : Keep ds H H') (hd : ∀ a, ds a → ∃ xs, H a = some (.lst xs)) (t : Tabs T H) : Tabs T H' := by
  intro p hp
  obtain ⟨ps, h1, h2, h3⟩ := t p hp
  refine ⟨ps, k _ _ h1 fun z => ?_, h2, fun pos cv hc => ?_⟩
  · obtain ⟨xs, e⟩ := hd _ z
    rw [h1] at e; cases e
  · obtain ⟨c, e1, e2⟩ := h3 pos cv hc
    refine ⟨c, e1, k _ _ e2 fun z => ?_⟩
    obtain ⟨xs, e⟩ := hd _ z
    rw [e2] at e
    unfold CodeO at e
    cases e
/-- what was put at a place where nothing but a table may have stood -/
theorem ne_gr {T : List (Addr × Str)} {H H1 : Hp} {p b : Addr} {o : HO} (g : Gr T H H1) (n : H1 p = none) (h : H b = some o) (z : ∀ ps, o ≠ .tbl ps) : b ≠ p := fun e => by
  have y := g.1 _ _ h z
  rw [e, n] at y; cases y
/-- one more list item at D, which was new -/
theorem Gr.putL {T : List (Addr × Str)} {H H1 H2 : Hp} {D : Addr} {xs : List V} {u : HO} (n : H D = none) (g : Gr T H H1) (h : H1 D = some (.lst xs)) : Gr T H (upd H1 D u) := by
  refine ⟨fun b o e z => ?_, fun t => tabs_keep (ds := fun a => a = D) (Keep.put rfl) (fun a z => ⟨xs, by rw [z]; exact h⟩) (g.2 t)⟩
  rw [upd_ne (ne_of_none e n)]; exact g.1 b o e z
end Kf
namespace Kf
open PySem PySem.Spec PyProof.Rows L2 Kg Kd LamX
theorem tabs_put {T : List (Addr × Str)} {H : Hp} {D : Addr} {o u : HO} (h : H D = some o) (n1 : ∀ ps, o ≠ .tbl ps) (n2 : ∀ φ, o ≠ .ext φ) (t : Tabs T H) : Tabs T (upd H D u) := by
  intro p hp
  obtain ⟨ps, h1, h2, h3⟩ := t p hp
  refine ⟨ps, ?_, h2, fun pos cv hc => ?_⟩
  · rw [upd_ne fun z => n1 ps (by rw [z, h] at h1; exact Option.some.inj h1)]; exact h1
  · obtain ⟨c, e1, e2⟩ := h3 pos cv hc
    refine ⟨c, e1, ?_⟩
    rw [upd_ne fun z => n2 _ (by rw [z, h] at e2; exact Option.some.inj e2)]; exact e2
theorem Gr.putD {T : List (Addr × Str)} {H H1 : Hp} {D : Addr} {kvs : List (List Key × V)} {u : HO} (n : H D = none) (g : Gr T H H1) (h : H1 D = some (.dT kvs)) : Gr T H (upd H1 D u) :=
  ⟨fun b o e z => by rw [upd_ne (ne_of_none e n)]; exact g.1 b o e z, fun t => tabs_put h (fun _ z => nomatch z) (fun _ z => nomatch z) (g.2 t)⟩
end Kf

set_option Elab.async false
set_option linter.all false
set_option maxRecDepth 100000
set_option maxHeartbeats 4000000
/-! Tuples of kinds read off the heap; sorted lists of them. -/
namespace Kf
open PySem PySem.Spec PyProof.Rows L2 Kg Kd LamX
def toN : V → Nat
  | .int i => i.toNat
  | _ => 0
def dec (H : Hp) : V → List Nat
  | .ref t => match H t with
    | some (.tup vs) => vs.map toN
    | _ => []
  | _ => []
theorem dec_at {H : Hp} {t : Addr} {l : List Nat} (h : H t = some (.tup (l.map iV))) : dec H (.ref t) = l := by
  simp only [dec, h]
  rw [List.map_map]
  exact (List.map_congr_left (fun x _ => (by show ((x : Nat) : Int).toNat = x; omega))).trans (List.map_id _)
theorem dec_tu {H : Hp} {x : V} {l : List Nat} (h : Tu H x (pdI l)) : dec H x = l := by
  obtain ⟨a, rfl, ha, _⟩ := tu_inv h
  exact dec_at ha
theorem dec_tus {H : Hp} : ∀ {xs : List V} {ls : List (List Nat)}, TuAll H xs (ls.map pdI) → xs.map (dec H) = ls
  | [], [], _ => rfl
  | x :: xs, l :: ls, .cons h r => by rw [List.map_cons, dec_tu h, dec_tus r]
theorem tus_of {H : Hp} : ∀ {ys : List V}, (∀ y ∈ ys, Tu H y (pdI (dec H y))) → TuAll H ys ((ys.map (dec H)).map pdI)
  | [], _ => .nil
  | y :: ys, h => .cons (h y (List.mem_cons_self ..)) (tus_of fun z hz => h z (List.mem_cons_of_mem _ hz))
theorem tus_mem {H : Hp} : ∀ {xs : List V} {ls : List (List Nat)}, TuAll H xs (ls.map pdI) → ∀ x ∈ xs, Tu H x (pdI (dec H x))
  | [], [], _, _, hx => nomatch hx
  | x :: xs, l :: ls, .cons h r, y, hy => by
    rcases List.mem_cons.mp hy with e | e
    · rw [e, dec_tu h]; exact h
    · exact tus_mem r y e
theorem tus_ref {H : Hp} {xs : List V} {ls : List (List Nat)} (h : TuAll H xs (ls.map pdI)) : ∀ x ∈ xs, ∃ a, x = V.ref a := fun x hx => by
  obtain ⟨a, e, _⟩ := tu_inv (tus_mem h x hx)
  exact ⟨a, e⟩
theorem dec_sorted {α : Type} {H : Hp} {xs ys : List V} {ls : List (List Nat)} {g : List Nat → α} {lt : α → α → Bool} (tri : ∀ a b, a = b ∨ lt a b = true ∨ lt b a = true) (inj : ∀ a b, g a = g b → a = b) (hx : TuAll H xs (ls.map pdI)) (nd : ls.Nodup)
    (srt : ys.Pairwise (fun x y => lt (g (dec H y)) (g (dec H x)) = false)) (pm : ys.Perm xs) : ∃ ms : List (List Nat), TuAll H ys (ms.map pdI) ∧ ms.Pairwise (fun a b => lt (g a) (g b) = true) ∧ (∀ l, l ∈ ms ↔ l ∈ ls) ∧ ms.length = ls.length := by
  have p2 : (ys.map (dec H)).Perm ls := by rw [← dec_tus hx]; exact pm.map _
  refine ⟨ys.map (dec H), tus_of fun y hy => tus_mem hx y (pm.mem_iff.mp hy), ?_, fun l => p2.mem_iff, p2.length_eq⟩
  have nd2 : (ys.map (dec H)).Nodup := p2.nodup_iff.mpr nd
  refine List.pairwise_map.mpr (((List.pairwise_map.mp nd2).and srt).imp fun {a b} z => ?_)
  rcases tri (g (dec H a)) (g (dec H b)) with e | e | e
  · exact absurd (inj _ _ e) z.1
  · exact e
  · rw [z.2] at e; cases e
theorem lp_tri (a b : Int × List Int) : a = b ∨ Ku.lp a b = true ∨ Ku.lp b a = true := by
  rcases Ku.lx_tri (a.1 :: a.2) (b.1 :: b.2) with e | e | e
  · exact .inl (Prod.ext (List.cons.inj e).1 (List.cons.inj e).2)
  · exact .inr (.inl e)
  · exact .inr (.inr e)
/-- (len(l), l) -/
def gLen (l : List Nat) : Int × List Int := (((l.length : Nat) : Int), ci l)
theorem gLen_inj (a b : List Nat) (h : gLen a = gLen b) : a = b := ci_inj (Prod.mk.inj h).2
end Kf

set_option Elab.async false
set_option linter.all false
set_option maxRecDepth 100000
set_option maxHeartbeats 4000000
/-! Comprehensions over tuples and lists whose items are known as data; the number of lots. -/
namespace Kf
open PySem PySem.Spec PyProof.Rows L2 Kg Kd LamX
/-- one turn that tells b of the item, and y if b holds -/
def FmT (b : Bool) (y : V) (g : TG) (tt : TT) (te : TE) (vs : List Nat) (σ : L2.St) (H1 : Hp) (x : V) : Prop :=
  ∀ (H : Hp), Same H1 H → ∀ (R : V → Hp → Prop) (R0 : Hp → Prop), (∀ H', Same H H' → (b = true → R y H') ∧ (b = false → R0 H')) →
    g x (wipe σ vs) H fun σ2 H2 => wipe σ2 vs = wipe σ vs ∧ tt σ2 H2 fun b H3 => if b = true then te σ2 H3 R else R0 H3
section
variable {K : PySem.W.Frag} {a : Addr} {xs : List V} {g : TG} {tt : TT} {te : TE} {vs : List Nat} {σ : L2.St} {H1 : Hp} {D : Addr} {Qd : Hp → Prop} {n : Nat} {α : Type} {ls : List α}
def atB (ls : List α) (q : α → Bool) : Nat → Bool := fun i => match ls[i]? with | some e => q e | none => false
def atV (ls : List α) (v : α → V) : Nat → V := fun i => match ls[i]? with | some e => v e | none => .non
theorem atB_at {q : α → Bool} {i : Nat} {e : α} (h : ls[i]? = some e) : atB ls q i = q e := by simp only [atB, h]
theorem atV_at {v : α → V} {i : Nat} {e : α} (h : ls[i]? = some e) : atV ls v i = v e := by simp only [atV, h]
theorem rg_at (q : α → Bool) (v : α → V) : ((List.range ls.length).filter (atB ls q)).map (atV ls v) = (ls.filter q).map v := rg_filt fun i x h => ⟨atB_at h, atV_at h⟩
theorem fmt_turn {q : α → Bool} {v : α → V} {i : Nat} {x : V} {e : α} (h : ls[i]? = some e) (z : FmT (q e) (v e) g tt te vs σ H1 x) : FmTurn (atB ls q) (atV ls v) g tt te vs σ H1 i x := by
  intro H s R R0 hR
  refine z H s R R0 fun H' s' => ?_
  have y := hR H' s'
  rw [atB_at h, atV_at h] at y
  exact y
/-- a turn without a test -/
theorem fmt_one {y x : V} (mono : ∀ {x σ H A B}, (∀ s h, A s h → B s h) → g x σ H A → g x σ H B) (hs : ∀ (H : Hp), Same H1 H → ∀ (R : V → Hp → Prop), (∀ H', Same H H' → R y H') → g x (wipe σ vs) H fun σ2 H2 => wipe σ2 vs = wipe σ vs ∧ te σ2 H2 R) : FmT true y g tYes te vs σ H1 x :=
  fun H s R R0 h => mono (fun s2 h2 z => ⟨z.1, by
    have e : tYes s2 h2 (fun b H3 => if b = true then te s2 H3 R else R0 H3) = (if true = true then te s2 h2 R else R0 h2) := rfl
    rw [e, if_pos rfl]; exact z.2⟩) (hs H s R (fun H' s' => (h H' s').1 rfl))
theorem filt_all (l : List α) : l.filter (fun _ => true) = l := List.filter_eq_self.mpr fun _ _ => rfl
theorem lc_tI (q : α → Bool) (v : α → V) (nD : H1 D = none) (hn : xs.length ≤ 900) (ha : H1 a = some (.tup xs)) (hl : xs.length = ls.length) (hs : ∀ (i : Nat) (x : V) (e : α), xs[i]? = some x → ls[i]? = some e → FmT (q e) (v e) g tt te vs σ H1 x)
    (hd : ∀ H, Same H1 H → H D = some (.lst ((ls.filter q).map v)) → Qd H) :
    ∃ W : Nat → Nat → Hp → Prop, (∃ m, W 0 m (upd H1 D (.lst []))) ∧ ∀ i m H, W i m H →
      ((Itt K a).stop i H ∧ Qd H) ∨ ((Itt K a).go i H ∧ ∃ Nx : Hp → Prop, (∀ H', Nx H' → ∃ m', m' < m ∧ W (i + 1) m' H') ∧ ∀ x H', (Itt K a).yld i H x H' → g x (wipe σ vs) H' fun σ2 H2 => wipe σ2 vs = wipe σ vs ∧ tt σ2 H2 fun b H3 =>
        if b = true then te σ2 H3 fun y H4 => ∃ acc, H4 D = some (.lst acc) ∧ acc.length < sizeLine ∧ Nx (upd H4 D (.lst (acc ++ [y]))) else Nx H3) :=
  lc_tfm (atB ls q) (atV ls v) nD hn ha (fun i x hx => by
    have hi : i < ls.length := by have := (List.getElem?_eq_some_iff.mp hx).1; omega
    exact fmt_turn (List.getElem?_eq_getElem hi) (hs i x _ hx (List.getElem?_eq_getElem hi))) (fun H s h => hd H s (by rw [hl, rg_at] at h; exact h))
theorem lc_lI (q : α → Bool) (v : α → V) (nD : H1 D = none) (hn : xs.length ≤ 900) (ha : H1 a = some (.lst xs)) (hl : xs.length = ls.length) (hs : ∀ (i : Nat) (x : V) (e : α), xs[i]? = some x → ls[i]? = some e → FmT (q e) (v e) g tt te vs σ H1 x)
    (hd : ∀ H, Same H1 H → H D = some (.lst ((ls.filter q).map v)) → Qd H) :
    ∃ W : Nat → Nat → Hp → Prop, (∃ m, W 0 m (upd H1 D (.lst []))) ∧ ∀ i m H, W i m H →
      ((Itl K a).stop i H ∧ Qd H) ∨ ((Itl K a).go i H ∧ ∃ Nx : Hp → Prop, (∀ H', Nx H' → ∃ m', m' < m ∧ W (i + 1) m' H') ∧ ∀ x H', (Itl K a).yld i H x H' → g x (wipe σ vs) H' fun σ2 H2 => wipe σ2 vs = wipe σ vs ∧ tt σ2 H2 fun b H3 =>
        if b = true then te σ2 H3 fun y H4 => ∃ acc, H4 D = some (.lst acc) ∧ acc.length < sizeLine ∧ Nx (upd H4 D (.lst (acc ++ [y]))) else Nx H3) :=
  lc_lfm (atB ls q) (atV ls v) nD hn ha (fun i x hx => by
    have hi : i < ls.length := by have := (List.getElem?_eq_some_iff.mp hx).1; omega
    exact fmt_turn (List.getElem?_eq_getElem hi) (hs i x _ hx (List.getElem?_eq_getElem hi))) (fun H s h => hd H s (by rw [hl, rg_at] at h; exact h))
/-! the items themselves -/
theorem tus_zip {H : Hp} {dd : α → PyData} : ∀ {xs : List V} {ls : List α}, TuAll H xs (ls.map dd) → ∀ (q : α → Bool), TuAll H (((xs.zip ls).filter fun p => q p.2).map fun p => p.1) ((ls.filter q).map dd)
  | [], [], _, q => .nil
  | x :: xs, l :: ls, .cons h r, q => by
    have z := tus_zip r q
    rw [List.zip_cons_cons, List.filter_cons, List.filter_cons]
    cases c : q l with
    | true => simp only [c, if_true, List.map_cons]; exact .cons h z
    | false => simpa [c] using z
theorem zip_get {i : Nat} {x : V} {e : α} (hx : xs[i]? = some x) (he : ls[i]? = some e) : (xs.zip ls)[i]? = some (x, e) := by
  rw [List.getElem?_zip_eq_some]; exact ⟨hx, he⟩
theorem lc_tS {dd : α → PyData} (q : α → Bool) (nD : H1 D = none) (hn : xs.length ≤ 900) (ha : H1 a = some (.tup xs)) (hx : TuAll H1 xs (ls.map dd)) (hs : ∀ (i : Nat) (x : V) (e : α), xs[i]? = some x → ls[i]? = some e → Tu H1 x (dd e) → FmT (q e) x g tt te vs σ H1 x)
    (hd : ∀ H ys, Same H1 H → H D = some (.lst ys) → TuAll H ys ((ls.filter q).map dd) → Qd H) :
    ∃ W : Nat → Nat → Hp → Prop, (∃ m, W 0 m (upd H1 D (.lst []))) ∧ ∀ i m H, W i m H →
      ((Itt K a).stop i H ∧ Qd H) ∨ ((Itt K a).go i H ∧ ∃ Nx : Hp → Prop, (∀ H', Nx H' → ∃ m', m' < m ∧ W (i + 1) m' H') ∧ ∀ x H', (Itt K a).yld i H x H' → g x (wipe σ vs) H' fun σ2 H2 => wipe σ2 vs = wipe σ vs ∧ tt σ2 H2 fun b H3 =>
        if b = true then te σ2 H3 fun y H4 => ∃ acc, H4 D = some (.lst acc) ∧ acc.length < sizeLine ∧ Nx (upd H4 D (.lst (acc ++ [y]))) else Nx H3) := by
  have hl : xs.length = ls.length := by rw [hx.length, List.length_map]
  refine lc_tI (ls := xs.zip ls) (fun p => q p.2) (fun p => p.1) nD hn ha (by rw [List.length_zip]; omega) (fun i x p hxi hp => ?_) (fun H s h => hd H _ s h ((tus_zip hx q).keep (.of_same s)))
  obtain ⟨x', e⟩ := p
  obtain ⟨h1, h2⟩ := List.getElem?_zip_eq_some.mp hp
  have ex : x' = x := Option.some.inj (h1.symm.trans hxi)
  subst ex
  obtain ⟨d, g1, g2⟩ := hx.get hxi
  rw [List.getElem?_map, h2] at g1
  cases g1
  exact hs i _ e hxi h2 g2
theorem lc_lS {dd : α → PyData} (q : α → Bool) (nD : H1 D = none) (hn : xs.length ≤ 900) (ha : H1 a = some (.lst xs)) (hx : TuAll H1 xs (ls.map dd)) (hs : ∀ (i : Nat) (x : V) (e : α), xs[i]? = some x → ls[i]? = some e → Tu H1 x (dd e) → FmT (q e) x g tt te vs σ H1 x)
    (hd : ∀ H ys, Same H1 H → H D = some (.lst ys) → TuAll H ys ((ls.filter q).map dd) → Qd H) :
    ∃ W : Nat → Nat → Hp → Prop, (∃ m, W 0 m (upd H1 D (.lst []))) ∧ ∀ i m H, W i m H →
      ((Itl K a).stop i H ∧ Qd H) ∨ ((Itl K a).go i H ∧ ∃ Nx : Hp → Prop, (∀ H', Nx H' → ∃ m', m' < m ∧ W (i + 1) m' H') ∧ ∀ x H', (Itl K a).yld i H x H' → g x (wipe σ vs) H' fun σ2 H2 => wipe σ2 vs = wipe σ vs ∧ tt σ2 H2 fun b H3 =>
        if b = true then te σ2 H3 fun y H4 => ∃ acc, H4 D = some (.lst acc) ∧ acc.length < sizeLine ∧ Nx (upd H4 D (.lst (acc ++ [y]))) else Nx H3) := by
  have hl : xs.length = ls.length := by rw [hx.length, List.length_map]
  refine lc_lI (ls := xs.zip ls) (fun p => q p.2) (fun p => p.1) nD hn ha (by rw [List.length_zip]; omega) (fun i x p hxi hp => ?_) (fun H s h => hd H _ s h ((tus_zip hx q).keep (.of_same s)))
  obtain ⟨x', e⟩ := p
  obtain ⟨h1, h2⟩ := List.getElem?_zip_eq_some.mp hp
  have ex : x' = x := Option.some.inj (h1.symm.trans hxi)
  subst ex
  obtain ⟨d, g1, g2⟩ := hx.get hxi
  rw [List.getElem?_map, h2] at g1
  cases g1
  exact hs i _ e hxi h2 g2
/-- [x for x, y in zip(xs, ys) if ..] of two lists -/
theorem lc_zS {b : Addr} {ys : List V} {dd : α → PyData} (q : α → Bool) (nD : H1 D = none) (hn : xs.length ≤ 900) (ha : H1 a = some (.lst xs)) (hb : H1 b = some (.lst ys)) (hx : TuAll H1 xs (ls.map dd)) (hy : ys.length = ls.length)
    (hs : ∀ (i : Nat) (x y : V) (e : α), xs[i]? = some x → ys[i]? = some y → ls[i]? = some e → Tu H1 x (dd e) → ∀ (H : Hp) (t : Addr), Same H1 H → H t = some (.tup [x, y]) → ∀ (R : V → Hp → Prop) (R0 : Hp → Prop), (∀ H', Same H H' → (q e = true → R x H') ∧ (q e = false → R0 H')) →
      g (.ref t) (wipe σ vs) H fun σ2 H2 => wipe σ2 vs = wipe σ vs ∧ tt σ2 H2 fun b H3 => if b = true then te σ2 H3 R else R0 H3)
    (hd : ∀ H zs, Same H1 H → H D = some (.lst zs) → TuAll H zs ((ls.filter q).map dd) → Qd H) :
    ∃ W : Nat → Nat → Hp → Prop, (∃ m, W 0 m (upd H1 D (.lst []))) ∧ ∀ i m H, W i m H →
      ((Itz K a b).stop i H ∧ Qd H) ∨ ((Itz K a b).go i H ∧ ∃ Nx : Hp → Prop, (∀ H', Nx H' → ∃ m', m' < m ∧ W (i + 1) m' H') ∧ ∀ x H', (Itz K a b).yld i H x H' → g x (wipe σ vs) H' fun σ2 H2 => wipe σ2 vs = wipe σ vs ∧ tt σ2 H2 fun b H3 =>
        if b = true then te σ2 H3 fun y H4 => ∃ acc, H4 D = some (.lst acc) ∧ acc.length < sizeLine ∧ Nx (upd H4 D (.lst (acc ++ [y]))) else Nx H3) := by
  have hl : xs.length = ls.length := by rw [hx.length, List.length_map]
  have zl : (xs.zip ls).length = xs.length := by rw [List.length_zip]; omega
  refine lc_it (walk_zip (K := K) (xs := xs) (ys := ys) (n := xs.length) (by omega)) (fun i H => Same H1 H ∧ H D = some (.lst (((List.range i).filter (atB (xs.zip ls) fun p => q p.2)).map (atV (xs.zip ls) fun p => p.1)))) ⟨same_new nD, upd_same⟩ (fun i H _ p => ⟨SqL.of (p.1 _ _ ha), SqL.of (p.1 _ _ hb)⟩) (fun i v H H' hi p yy => ?_) (fun H p => ?_)
  · obtain ⟨t, v1, v2, rfl, nT, rfl, f1, f2⟩ := yy
    have s' := same_new (o := HO.tup [v1, v2]) nT
    have he : ls[i]? = some ls[i] := List.getElem?_eq_getElem (by omega)
    have hz : (xs.zip ls)[i]? = some (v1, ls[i]) := zip_get f1 he
    obtain ⟨dx, g1, g2⟩ := hx.get f1
    rw [List.getElem?_map, he] at g1
    cases g1
    refine hs i v1 v2 _ f1 f2 he g2 _ t (p.1.trans s') upd_same _ _ (fun H2 s2 => ⟨fun c => ⟨_, s2 _ _ (s' _ _ p.2), ?_, fun bb o z => ?_, ?_⟩, fun c => ⟨p.1.trans (s'.trans s2), ?_⟩⟩)
    · have := rgm_len (atB (xs.zip ls) fun p => q p.2) (atV (xs.zip ls) fun p => p.1) i
      exact small1000 (by omega)
    · rw [upd_ne (ne_of_none z nD)]; exact s2 _ _ (s' _ _ (p.1 _ _ z))
    · rw [upd_same, rgm_succ, atB_at hz, atV_at hz, if_pos c]
    · rw [rgm_succ, atB_at hz, atV_at hz, if_neg (by rw [c]; exact Bool.false_ne_true), List.append_nil]
      exact s2 _ _ (s' _ _ p.2)
  · obtain ⟨s, h⟩ := p
    rw [← zl, rg_at] at h
    exact hd H _ s h ((tus_zip hx q).keep (.of_same s))
end
/-! ### the first that is so -/
theorem find_at {α : Type} {l : List α} {q : α → Bool} {i : Nat} {e : α} (h : ∀ z ∈ l.take i, q z = false) (he : l[i]? = some e) (qe : q e = true) : l.find? q = some e := by
  have hi : i < l.length := (List.getElem?_eq_some_iff.mp he).1
  have e1 : l = l.take i ++ e :: l.drop (i + 1) := by
    have : l.drop i = e :: l.drop (i + 1) := by
      obtain ⟨z1, z2⟩ := List.getElem?_eq_some_iff.mp he
      rw [List.drop_eq_getElem_cons z1, z2]
    rw [← this, List.take_append_drop]
  rw [e1, List.find?_append]
  have n : (l.take i).find? q = none := List.find?_eq_none.mpr fun z hz => by rw [h z hz]; exact Bool.false_ne_true
  rw [n, List.find?_cons_of_pos qe]; rfl
theorem find_no {α : Type} {l : List α} {q : α → Bool} (h : ∀ z ∈ l, q z = false) : l.find? q = none := List.find?_eq_none.mpr fun z hz => by rw [h z hz]; exact Bool.false_ne_true
theorem take_no {α : Type} {l : List α} {q : α → Bool} {i : Nat} {e : α} (h : ∀ z ∈ l.take i, q z = false) (he : l[i]? = some e) (qe : q e = false) : ∀ z ∈ l.take (i + 1), q z = false := by
  intro z hz
  rw [List.take_add_one, he] at hz
  rcases List.mem_append.mp hz with y | y
  · exact h z y
  · rw [show z = e from List.mem_singleton.mp y]; exact qe
theorem find_hd {α : Type} (l : List α) (q : α → Bool) : (l.filter q).head? = l.find? q := by
  induction l with
  | nil => rfl
  | cons a r ih =>
    rw [List.filter_cons, List.find?_cons]
    cases q a with
    | true => rfl
    | false => simpa using ih
/-! ### how many lots there are -/
theorem IsLots.nodup {es : List (List Nat)} {cl ho : List Nat} {sv : Bool} {ls : List (List Nat)} (h : IsLots es cl ho sv ls) : ls.Nodup := by
  obtain ⟨A, B, rfl, P⟩ := h
  refine List.nodup_append.mpr ⟨nodup_ord (fun a => lxN_irrefl a) P.oa, ?_, fun a ha b hb e => ?_⟩
  · refine List.pairwise_map.mpr (List.Pairwise.imp_of_mem (fun {p q} hp hq z e => ?_) P.ob)
    have l1 := (P.mb p).mp hp
    have l2 := (P.mb q).mp hq
    obtain ⟨_, ⟨k1, a1, a2, a3, a4, a5⟩, m1⟩ := l1
    obtain ⟨_, ⟨k2, b1, b2, b3, b4, b5⟩, m2⟩ := l2
    have e1 : p.1 = q.1 := by
      have := m1 k2 b1 b2 b3 (b4.trans e.symm)
      have := m2 k1 a1 a2 a3 (a4.trans e)
      omega
    have : p = q := Prod.ext e1 e
    rw [this, lpN_irrefl] at z
    cases z
  · obtain ⟨p, hp, e2⟩ := List.mem_map.mp hb
    have l1 := ((P.mb p).mp hp).1
    have k1 := (P.ma a).mp ha
    rw [e2, ← e] at l1
    rw [l1] at k1
    cases k1
theorem IsLots.len63 {es : List (List Nat)} {cl ho : List Nat} {sv : Bool} {ls : List (List Nat)} (n6 : es.length ≤ 6) (h : IsLots es cl ho sv ls) : ls.length ≤ 63 := by
  have hs : ∀ l ∈ ls, l ∈ ((List.range 63).map fun i => ksOf es.length (i + 1)) := fun l hl => by
    obtain ⟨so, ne⟩ := h.som hl
    obtain ⟨c, hc, rfl⟩ := ksOf_all so
    have : 2 ^ es.length ≤ 2 ^ 6 := Nat.pow_le_pow_right (by decide) n6
    have c0 : c ≠ 0 := fun z => ne (by rw [z, ksOf_zero])
    refine List.mem_map.mpr ⟨c - 1, List.mem_range.mpr (by omega), ?_⟩
    show ksOf es.length (c - 1 + 1) = _
    rw [show c - 1 + 1 = c by omega]
  have z := nodup_sub h.nodup hs
  rwa [List.length_map, List.length_range] at z
/-! ### the answers that are told -/
def ansL (c : Ch) (ls : List (List Nat)) : List Nat := (List.range 10).filter (fun a => ls.any (fun l => decide (c.answer l = a)))
theorem ansL_mem {c : Ch} {ls : List (List Nat)} {a n : Nat} (h : c.ok n) : a ∈ ansL c ls ↔ ∃ l ∈ ls, c.answer l = a := by
  unfold ansL
  rw [List.mem_filter, List.mem_range, List.any_eq_true]
  constructor
  · rintro ⟨_, l, h1, h2⟩; exact ⟨l, h1, of_decide_eq_true h2⟩
  · rintro ⟨l, h1, h2⟩
    have := Ch.answer_le (lot := l) h
    exact ⟨by omega, l, h1, decide_eq_true h2⟩
end Kf

set_option Elab.async false
set_option linter.all false
set_option maxRecDepth 100000
set_option maxHeartbeats 4000000
/-! Walks over a list or a tuple; trees without idle tests and without same sides. -/
namespace Kf
open PySem PySem.Spec PyProof.Rows L2 Kg Kd
def iSq (K : PySem.W.Frag) (tl : TE) : TI := fun σ H R => tl σ H fun x H1 => ∃ a xs, x = .ref a ∧ ((SqL K H1 a xs ∧ R (Itl K a) H1) ∨ (SqT K H1 a xs ∧ R (Itt K a) H1))
theorem pi_sq {X : Cx} {tg l : Expr} {tl : TE} (hl : PE X l tl) : PI X tg l (iSq X.K tl) := by
  refine ⟨fun pins s σ H R I h => ?_⟩
  refine thn (hl.run pins s σ H _ I h) fun v s1 ⟨x, H1, I1, r1, q1⟩ => ?_
  obtain ⟨a, xs, e, q⟩ := q1
  subst e
  cases r1
  rcases q with ⟨hq, q⟩ | ⟨hq, q⟩
  · obtain ⟨its, rv, p, hz⟩ := I1.list hq
    refine wpAny_pyIter_list p.isList ?_
    refine ⟨s1.heap.objs.size, [s1.heap.objs.size], _, _, H1, rfl, I1.kept (t' := s1.toks) fun b o e => Heap.get?_push_of_some _ e, turn_list a _, ⟨_, Heap.get?_push_size _ rfl, rfl, rfl⟩, fun b hb => ?_, q⟩
    have e : b = s1.heap.objs.size := by simpa using hb
    subst e
    exact I1.fpOk (Nat.le_refl _) (I1.hok.fresh (Nat.le_refl _))
  · obtain ⟨its, rv, p, hz⟩ := I1.tuple hq
    refine wpAny_pyIter_tuple (show s1.heap.IsTuple a its.toArray from p) ?_
    refine ⟨s1.heap.objs.size, [s1.heap.objs.size], _, _, H1, rfl, I1.kept (t' := s1.toks) fun b o e => Heap.get?_push_of_some _ e, turn_tuple a _, ⟨_, Heap.get?_push_size _ rfl, rfl, rfl⟩, fun b hb => ?_, q⟩
    have e : b = s1.heap.objs.size := by simpa using hb
    subst e
    exact I1.fpOk (Nat.le_refl _) (I1.hok.fresh (Nat.le_refl _))
/-- lots in a list or a tuple -/
def SqA (H : Hp) (a : Addr) (xs : List V) : Prop := H a = some (.lst xs) ∨ H a = some (.tup xs)
theorem SqA.same {H H' : Hp} {a : Addr} {xs : List V} (h : SqA H a xs) (s : Same H H') : SqA H' a xs := h.imp (s _ _) (s _ _)
def Tr.beq : Tr → Tr → Bool
  | .ans a, .ans b => a == b
  | .tst k y n, .tst k' y' n' => k == k' && (y.beq y' && n.beq n')
  | _, _ => false
theorem Tr.beq_iff : ∀ {t u : Tr}, t.beq u = true ↔ t = u
  | .ans a, .ans b => by
    show (a == b) = true ↔ _
    rw [beq_iff_eq]
    exact ⟨fun h => by rw [h], fun h => Tr.ans.inj h⟩
  | .ans _, .tst _ _ _ => ⟨fun h => (nomatch h), fun h => (nomatch h)⟩
  | .tst _ _ _, .ans _ => ⟨fun h => (nomatch h), fun h => (nomatch h)⟩
  | .tst k y n, .tst k' y' n' => by
    show (k == k' && (y.beq y' && n.beq n')) = true ↔ _
    rw [Bool.and_eq_true, Bool.and_eq_true, beq_iff_eq, Tr.beq_iff, Tr.beq_iff]
    constructor
    · rintro ⟨rfl, rfl, rfl⟩; rfl
    · intro h
      have := Tr.tst.inj h
      exact this
instance : DecidableEq Tr := fun _ _ => decidable_of_iff _ Tr.beq_iff
def wk (k : Nat) (ls : List (List Nat)) : List (List Nat) := ls.filter fun l => decide (k ∈ l)
def wo (k : Nat) (ls : List (List Nat)) : List (List Nat) := ls.filter fun l => !decide (k ∈ l)
theorem wk_len (k : Nat) (ls : List (List Nat)) : (wk k ls).length ≤ ls.length := List.length_filter_le ..
theorem wo_len (k : Nat) (ls : List (List Nat)) : (wo k ls).length ≤ ls.length := List.length_filter_le ..
theorem wk_nil {k : Nat} {ls : List (List Nat)} (h : wk k ls = []) : wo k ls = ls := List.filter_eq_self.mpr fun l hl => by
  have := List.filter_eq_nil_iff.mp h l hl
  simpa using this
theorem wo_nil {k : Nat} {ls : List (List Nat)} (h : wo k ls = []) : wk k ls = ls := List.filter_eq_self.mpr fun l hl => by
  have := List.filter_eq_nil_iff.mp h l hl
  simpa using this
theorem mem_wk {k : Nat} {ls : List (List Nat)} {l : List Nat} : l ∈ wk k ls ↔ l ∈ ls ∧ k ∈ l := by
  unfold wk; rw [List.mem_filter, decide_eq_true_iff]
theorem mem_wo {k : Nat} {ls : List (List Nat)} {l : List Nat} : l ∈ wo k ls ↔ l ∈ ls ∧ k ∉ l := by
  unfold wo; rw [List.mem_filter]; simp
namespace Tr
/-- a tree without the tests that all these lots answer the same -/
def cut : Tr → List (List Nat) → Tr
  | .ans a, _ => .ans a
  | .tst k y n, ls => if wo k ls = [] then y.cut (wk k ls) else if wk k ls = [] then n.cut (wo k ls) else .tst k (y.cut (wk k ls)) (n.cut (wo k ls))
/-- a tree without the tests whose sides are the same -/
def fold : Tr → Tr
  | .ans a => .ans a
  | .tst k y n => if y.fold = n.fold then y.fold else .tst k y.fold n.fold
theorem cut_dep : ∀ (t : Tr) (ls : List (List Nat)), (t.cut ls).dep ≤ t.dep
  | .ans _, _ => Nat.le_refl _
  | .tst k y n, ls => by
    have h1 := cut_dep y (wk k ls)
    have h2 := cut_dep n (wo k ls)
    have e : (Tr.tst k y n).dep = 1 + max y.dep n.dep := rfl
    rw [e, cut]
    split
    · omega
    · split
      · omega
      · show 1 + max _ _ ≤ _
        omega
theorem fold_dep : ∀ (t : Tr), t.fold.dep ≤ t.dep
  | .ans _ => Nat.le_refl _
  | .tst k y n => by
    have h1 := fold_dep y
    have h2 := fold_dep n
    have e : (Tr.tst k y n).dep = 1 + max y.dep n.dep := rfl
    rw [e, fold]
    split
    · omega
    · show 1 + max _ _ ≤ _
      omega
theorem cut_size : ∀ (t : Tr) (ls : List (List Nat)), (t.cut ls).size ≤ t.size
  | .ans _, _ => Nat.le_refl _
  | .tst k y n, ls => by
    have h1 := cut_size y (wk k ls)
    have h2 := cut_size n (wo k ls)
    have e : (Tr.tst k y n).size = 1 + y.size + n.size := rfl
    rw [e, cut]
    split
    · omega
    · split
      · omega
      · show 1 + _ + _ ≤ _
        omega
theorem fold_size : ∀ (t : Tr), t.fold.size ≤ t.size
  | .ans _ => Nat.le_refl _
  | .tst k y n => by
    have h1 := fold_size y
    have h2 := fold_size n
    have e : (Tr.tst k y n).size = 1 + y.size + n.size := rfl
    rw [e, fold]
    split
    · omega
    · show 1 + _ + _ ≤ _
      omega
theorem cut_ok {m : Nat} : ∀ {t : Tr} {ls : List (List Nat)}, t.ok m → (t.cut ls).ok m
  | .ans _, _, h => h
  | .tst k y n, ls, h => by
    have h1 := cut_ok (ls := wk k ls) h.2.1
    have h2 := cut_ok (ls := wo k ls) h.2.2
    rw [cut]
    split
    · exact h1
    · split
      · exact h2
      · exact ⟨h.1, h1, h2⟩
theorem fold_ok {m : Nat} : ∀ {t : Tr}, t.ok m → t.fold.ok m
  | .ans _, h => h
  | .tst k y n, h => by
    have h1 := fold_ok h.2.1
    have h2 := fold_ok h.2.2
    rw [fold]
    split
    · exact h1
    · exact ⟨h.1, h1, h2⟩
theorem cut_ans : ∀ (t : Tr) {ls : List (List Nat)} {l : List Nat}, l ∈ ls → (t.cut ls).answer l = t.answer l
  | .ans _, _, _, _ => rfl
  | .tst k y n, ls, l, h => by
    have e : (Tr.tst k y n).answer l = if k ∈ l then y.answer l else n.answer l := rfl
    rw [e, cut]
    by_cases c : k ∈ l
    · have m := mem_wk.mpr ⟨h, c⟩
      rw [if_pos c]
      split
      · exact cut_ans y m
      · split
        · next z => rw [z] at m; cases m
        · show (if k ∈ l then _ else _) = _
          rw [if_pos c]; exact cut_ans y m
    · have m := mem_wo.mpr ⟨h, c⟩
      rw [if_neg c]
      split
      · next z => rw [z] at m; cases m
      · split
        · exact cut_ans n m
        · show (if k ∈ l then _ else _) = _
          rw [if_neg c]; exact cut_ans n m
theorem fold_ans (l : List Nat) : ∀ t : Tr, t.fold.answer l = t.answer l
  | .ans _ => rfl
  | .tst k y n => by
    have e : (Tr.tst k y n).answer l = if k ∈ l then y.answer l else n.answer l := rfl
    rw [e, fold]
    split
    · next z =>
      rw [fold_ans l y, ← fold_ans l n, ← z, fold_ans l y]
      split <;> rfl
    · show (if k ∈ l then _ else _) = _
      rw [fold_ans l y, fold_ans l n]
/-- each test has lots on both sides -/
def good : Tr → List (List Nat) → Prop
  | .ans _, _ => True
  | .tst k y n, ls => wk k ls ≠ [] ∧ wo k ls ≠ [] ∧ y.good (wk k ls) ∧ n.good (wo k ls)
/-- no test has the same sides -/
def norm : Tr → Prop
  | .ans _ => True
  | .tst _ y n => y ≠ n ∧ y.norm ∧ n.norm
theorem good_cut : ∀ (t : Tr) (ls : List (List Nat)), (t.cut ls).good ls
  | .ans _, _ => trivial
  | .tst k y n, ls => by
    rw [cut]
    split
    · next z => rw [wo_nil z]; exact good_cut y ls
    · split
      · next z => rw [wk_nil z]; exact good_cut n ls
      · next z1 z2 => exact ⟨z2, z1, good_cut y _, good_cut n _⟩
theorem good_mono : ∀ {t : Tr} {ls ms : List (List Nat)}, t.good ls → (∀ l ∈ ls, l ∈ ms) → t.good ms
  | .ans _, _, _, _, _ => trivial
  | .tst k y n, ls, ms, h, s => by
    have a1 : ∀ l ∈ wk k ls, l ∈ wk k ms := fun l hl => mem_wk.mpr ⟨s l (mem_wk.mp hl).1, (mem_wk.mp hl).2⟩
    have a2 : ∀ l ∈ wo k ls, l ∈ wo k ms := fun l hl => mem_wo.mpr ⟨s l (mem_wo.mp hl).1, (mem_wo.mp hl).2⟩
    refine ⟨fun z => ?_, fun z => ?_, good_mono h.2.2.1 a1, good_mono h.2.2.2 a2⟩
    · obtain ⟨l, hl⟩ := List.exists_mem_of_ne_nil _ h.1
      have := a1 l hl
      rw [z] at this; cases this
    · obtain ⟨l, hl⟩ := List.exists_mem_of_ne_nil _ h.2.1
      have := a2 l hl
      rw [z] at this; cases this
theorem good_fold : ∀ {t : Tr} {ls : List (List Nat)}, t.good ls → t.fold.good ls
  | .ans _, _, _ => trivial
  | .tst k y n, ls, h => by
    rw [fold]
    split
    · exact good_mono (good_fold h.2.2.1) fun l hl => (mem_wk.mp hl).1
    · exact ⟨h.1, h.2.1, good_fold h.2.2.1, good_fold h.2.2.2⟩
theorem cut_good : ∀ {t : Tr} {ls : List (List Nat)}, t.good ls → t.cut ls = t
  | .ans _, _, _ => rfl
  | .tst k y n, ls, h => by
    rw [cut, if_neg h.2.1, if_neg h.1, cut_good h.2.2.1, cut_good h.2.2.2]
theorem norm_fold : ∀ t : Tr, t.fold.norm
  | .ans _ => trivial
  | .tst k y n => by
    rw [fold]
    split
    · exact norm_fold y
    · next z => exact ⟨z, norm_fold y, norm_fold n⟩
theorem fold_norm : ∀ {t : Tr}, t.norm → t.fold = t
  | .ans _, _ => rfl
  | .tst k y n, h => by
    rw [fold, fold_norm h.2.1, fold_norm h.2.2, if_neg h.1]
end Tr
def trimT (ls : List (List Nat)) (t : Tr) : Tr := if ls = [] then t.fold else (t.cut ls).fold
/-- trimmed once more it stays -/
theorem trim_again {ls : List (List Nat)} (h : ls ≠ []) (t : Tr) : trimT ls (trimT ls t) = trimT ls t := by
  unfold trimT
  rw [if_neg h, if_neg h, Tr.cut_good (Tr.good_fold (Tr.good_cut t ls)), Tr.fold_norm (Tr.norm_fold _)]
theorem trim_ans {ls : List (List Nat)} {l : List Nat} (h : l ∈ ls) (t : Tr) : (trimT ls t).answer l = t.answer l := by
  unfold trimT
  rw [if_neg (fun z => by rw [z] at h; cases h), Tr.fold_ans, Tr.cut_ans t h]
theorem trim_dep (ls : List (List Nat)) (t : Tr) : (trimT ls t).dep ≤ t.dep := by
  unfold trimT
  split
  · exact Tr.fold_dep t
  · exact Nat.le_trans (Tr.fold_dep _) (Tr.cut_dep t ls)
theorem trim_size (ls : List (List Nat)) (t : Tr) : (trimT ls t).size ≤ t.size := by
  unfold trimT
  split
  · exact Tr.fold_size t
  · exact Nat.le_trans (Tr.fold_size _) (Tr.cut_size t ls)
theorem trim_ok {ls : List (List Nat)} {m : Nat} {t : Tr} (h : t.ok m) : (trimT ls t).ok m := by
  unfold trimT
  split
  · exact Tr.fold_ok h
  · exact Tr.fold_ok (Tr.cut_ok h)
theorem eqv_tr : ∀ t u : Tr, PyData.eqv t.d u.d = decide (t = u)
  | .ans a, .ans b => by
    show PyData.eqv (.int _) (.int _) = _
    rw [PyData.eqv]
    by_cases c : a = b
    · subst c; simp
    · have : ¬ ((a : Nat) : Int) = (b : Nat) := by omega
      simp [c, this]
  | .ans _, .tst _ _ _ => by
    show PyData.eqv (.int _) (.tuple _) = _
    simp [PyData.eqv]
  | .tst _ _ _, .ans _ => by
    show PyData.eqv (.tuple _) (.int _) = _
    simp [PyData.eqv]
  | .tst k y n, .tst k' y' n' => by
    have h1 := eqv_tr y y'
    have h2 := eqv_tr n n'
    show PyData.eqv (.tuple [.int ((k : Nat) : Int), y.d, n.d]) (.tuple [.int ((k' : Nat) : Int), y'.d, n'.d]) = _
    simp only [PyData.eqv, PyData.eqvAll, h1, h2]
    by_cases c : k = k'
    · subst c; by_cases c1 : y = y' <;> by_cases c2 : n = n' <;> simp [c1, c2]
    · have : ¬ ((k : Nat) : Int) = (k' : Nat) := by omega
      simp [c, this]
theorem sh_tr {t : Tr} (h : t.dep ≤ 60) : SeqAt.shaped t.d = true := by
  unfold SeqAt.shaped
  rw [Bool.and_eq_true]
  exact ⟨Tr.d_lay t, decide_eq_true (by rw [Tr.d_dep]; omega)⟩
end Kf

set_option Elab.async false
set_option linter.all false
set_option maxRecDepth 100000
set_option maxHeartbeats 4000000
/-! Texts of trees. -/
namespace Kf
open PySem PySem.Spec PyProof.Rows L2 Kg Kd TL
def sS (l : List Nat) : Str := ⟨l.toArray⟩
theorem tl_sS (l : List Nat) : tl (sS l) = l := rfl
theorem sS_tl (s : Str) : sS (tl s) = s := mk_tl s
theorem eq_sS {s : Str} {l : List Nat} (h : tl s = l) : s = sS l := ext_tl h
theorem sS_len (l : List Nat) : (sS l).length = l.length := by rw [len_tl, tl_sS]
theorem sS_app (a b : List Nat) : sS a ++ sS b = sS (a ++ b) := eq_sS (by rw [tl_append, tl_sS, tl_sS])
theorem app_len (x y : Str) : (x ++ y).length = x.length + y.length := by rw [len_tl, len_tl, len_tl, tl_append, List.length_append]
theorem num_sS {n : Nat} (h : n < 10) : (Str.ofString (toString ((n : Nat) : Int))) = sS [48 + n] := eq_sS (by rw [tl_num, numL_lt h])
theorem int_sign : ∀ d : Nat, d ≤ 9 → PySem.intText? (sS [48 + d]) = some ((d : Nat) : Int)
  | 0, _ => by decide +kernel
  | 1, _ => by decide +kernel
  | 2, _ => by decide +kernel
  | 3, _ => by decide +kernel
  | 4, _ => by decide +kernel
  | 5, _ => by decide +kernel
  | 6, _ => by decide +kernel
  | 7, _ => by decide +kernel
  | 8, _ => by decide +kernel
  | 9, _ => by decide +kernel
  | n + 10, h => absurd h (by omega)
theorem sign_at {L pre rest : List Nat} {c p : Nat} (h : L = pre ++ c :: rest) (hp : pre.length = p) : L[p]? = some c := by
  subst hp; rw [h]; simp
theorem sS_ne {a b : List Nat} (h : a ≠ b) : ¬ (V.str (sS a) = V.str (sS b)) := fun z => h (by
  have := congrArg tl (V.str.inj z)
  exact this)
/-- the text of a tree -/
def Tr.tx : Tr → List Nat
  | .ans a => [48 + a]
  | .tst k y n => 40 :: (48 + k) :: 63 :: 32 :: (y.tx ++ 32 :: (n.tx ++ [41]))
theorem Tr.tx_len : ∀ t : Tr, t.tx.length = 7 * t.size + 1
  | .ans _ => rfl
  | .tst k y n => by
    have h1 := tx_len y
    have h2 := tx_len n
    show (40 :: (48 + k) :: 63 :: 32 :: (y.tx ++ 32 :: (n.tx ++ [41]))).length = 7 * (1 + y.size + n.size) + 1
    simp only [List.length_cons, List.length_append, List.length_nil, h1, h2]
    omega
theorem big1000 : 1000 ≤ sizeLine := by decide
theorem log_sm : ∀ d : Nat, d ≤ 9 → (((d : Nat) : Int)).natAbs.log2 < 1920
  | 0, _ => by decide +kernel
  | 1, _ => by decide +kernel
  | 2, _ => by decide +kernel
  | 3, _ => by decide +kernel
  | 4, _ => by decide +kernel
  | 5, _ => by decide +kernel
  | 6, _ => by decide +kernel
  | 7, _ => by decide +kernel
  | 8, _ => by decide +kernel
  | 9, _ => by decide +kernel
  | n + 10, h => absurd h (by omega)
end Kf

set_option Elab.async false
set_option linter.all false
set_option maxRecDepth 100000
set_option maxHeartbeats 8000000
namespace Kc
open PySem PySem.Spec PyProof.Rows L2 Kg Kd Kr Kf Kl TL
abbrev sBhs : Stmt := topS 8
abbrev sTat : Stmt := topS 9
abbrev sRdt : Stmt := topS 10
abbrev nBhs : List Str := ["text", "place", "wanted"]
theorem scBhs : FnScope nBhs nBhs (defScope sBhs) := ⟨rfl, rfl, rfl, by decide +kernel, rfl, by decide +kernel, by decide +kernel⟩
abbrev psTat : List Str := ["text", "place", "room"]
abbrev nTat : List Str := ["text", "place", "room", "signs", "inner", "behind", "kind", "yes", "no"]
theorem scTat : FnScope nTat psTat (defScope sTat) := ⟨rfl, rfl, rfl, by decide +kernel, rfl, by decide +kernel, by decide +kernel⟩
abbrev nRdt : List Str := ["value", "tree", "behind", "room"]
theorem scRdt : FnScope nRdt ["value"] (defScope sRdt) := ⟨rfl, rfl, rfl, by decide +kernel, rfl, by decide +kernel, by decide +kernel⟩
abbrev DIG : Str := Str.ofString "0123456789"
/-- the sign at this place is one of the wanted ones -/
def spBhs : Sp := fun vs H Q _ => ∃ (s wd : Str) (i : Int) (p c : Nat), vs = [.str s, .int i, .str wd] ∧ i = ((p : Nat) : Int) ∧ (tl s)[p]? = some c ∧ c ∈ tl wd ∧ s.length ≤ 1000 ∧ Q (.int (i + 1)) H
def spTat (g : Nat) : Sp := fun vs H Q _ => ∃ (s : Str) (i r : Int) (t : Tr) (pre post : List Nat), vs = [.str s, .int i, .int r] ∧ i = ((pre.length : Nat) : Int) ∧ tl s = pre ++ (t.tx ++ post) ∧ t.dep < g ∧ t.ok 6 ∧ ((t.size : Nat) : Int) ≤ r ∧ s.length ≤ 1000 ∧
  ∀ H' q u j r', Same H H' → H' q = some (.tup [u, .int j, .int r']) → Tu H' u t.d → j = ((pre.length + t.tx.length : Nat) : Int) → r' = r - ((t.size : Nat) : Int) → Q (.ref q) H'
def spRdt : Sp := fun vs H Q _ => ∃ (t : Tr), vs = [.str (sS t.tx)] ∧ t.dep ≤ 12 ∧ t.ok 6 ∧ t.size ≤ 12 ∧ ∀ H' u, Same H H' → Tu H' u t.d → Q u H'
def tSg : TS := fun D σ H => ∃ (r : Int) (sg : Str), σ[2]? = some (some (.int r)) ∧ σ[3]? = some (some (.str sg)) ∧ tl sg = [48, 49, 50, 51, 52, 53, 54, 55, 56, 57] ∧
  ∀ sg' : Str, (∀ c, 48 ≤ c → c ≤ 57 → c ∈ tl sg') → (0 < r → 40 ∈ tl sg') → D.nx (σ.set 3 (some (.str sg'))) H
theorem dig_tl : tl DIG = [48, 49, 50, 51, 52, 53, 54, 55, 56, 57] := by decide +kernel
theorem cut10 : tl (cutS DIG none (some (9 + 1))) = [48, 49, 50, 51, 52, 53, 54, 55, 56, 57] := by decide +kernel
theorem cut6 : tl (cutS DIG none (some 6)) = [48, 49, 50, 51, 52, 53] := by decide +kernel
theorem mem_dig {c : Nat} (h1 : 48 ≤ c) (h2 : c ≤ 57) : c ∈ [48, 49, 50, 51, 52, 53, 54, 55, 56, 57] := by
  have : c = 48 ∨ c = 49 ∨ c = 50 ∨ c = 51 ∨ c = 52 ∨ c = 53 ∨ c = 54 ∨ c = 55 ∨ c = 56 ∨ c = 57 := by omega
  rcases this with h | h | h | h | h | h | h | h | h | h <;> subst h <;> decide
theorem mem_kin {c : Nat} (h1 : c < 6) : 48 + c ∈ [48, 49, 50, 51, 52, 53] := by
  have : c = 0 ∨ c = 1 ∨ c = 2 ∨ c = 3 ∨ c = 4 ∨ c = 5 := by omega
  rcases this with h | h | h | h | h | h <;> subst h <;> decide
section
variable {P : Program} {w : World} {K : PySem.W.Frag} {mg : Str → Option Value} {base : Heap} {f : Addr} {fd : FuncData} {k : Nat}
theorem ok_bhs (F : Fun K "behind_sign" "behind_sign" sBhs f fd) (B : Bl mg) : FnOk P w K mg base CX0 (k + 1) f fd nBhs spBhs := by
  refine F.ok scBhs (fun vs H Q E h => ?_) (fun cdv A outer s H vs Q E hr h => ?_)
  · obtain ⟨s, wd, i, p, c, rfl, _⟩ := h
    rfl
  · obtain ⟨s, wd, i, p, c, rfl, rfl, hc, hw, sl, q⟩ := h
    refine ⟨_, (pss_cons (ps_if (PW.pt (pw_or (pt_cmpR op_ge (pv 1) (pe_callB call_len_str (by rfl) B.len PySem.boot_len (pa_cons (pv 0) pa_nil)) (nomark _)) (pw_or1 (pt_cmpR op_notIn_sign (pe_ix ix_str (pv 0) (pv 1) (fun _ _ => rfl)) (pv 2) rfl)))) (pss_one ps_never) pss_nil)
      (pss_one (ps_ret (pe_op op_add (pv 1) pe_int)))), ?_⟩
    have bg := big1000
    have pl : p < s.length := by rw [len_tl]; exact (List.getElem?_eq_some_iff.mp hc).1
    refine ⟨_, rfl, _, rfl, s, rfl, by omega, _, _, rfl, rfl, _, rfl, iteE (decide_eq_false (by omega)) ?_⟩
    refine ⟨_, rfl, _, rfl, s, _, c, rfl, rfl, by omega, atI_nat (j := p) hc, _, rfl, c, wd, rfl, rfl, _, rfl, iteE (by rw [decide_eq_true hw]; rfl) ?_⟩
    exact ⟨_, rfl, _, _, rfl, rfl, q⟩
theorem segSg {cdv : Value} {A : Around} {out : List Env} {s : Shared} {H0 : Hp} {E : XK} (st : Stmt) (hst : st = (defBody sTat).getD 1 (.Pass ⟨0, 0, 0, 0⟩)) : PS (cxOf CX0 P w K mg base nTat "tree_at" (defScope sTat) f cdv A out s H0 E).nox st tSg := by
  subst hst
  refine ps_imp (ps_if (pt_cmpR op_gt (pv 2) pe_int (nomark _)) (pss_one (ps_set (i := 3) scTat.nd rfl (.inl rfl) (pe_op op_add_str (pv 3) pe_str))) pss_nil) (fun D σ H h => ?_)
  obtain ⟨r, sg, h2, h3, e, nx⟩ := h
  have c1 : Str.ofString "(" = sS [40] := eq_sS (by decide +kernel)
  have sl : sg.length = 10 := by rw [len_tl, e]; rfl
  refine ⟨_, h2, r, 0, rfl, rfl, _, rfl, ?_⟩
  by_cases c : 0 < r
  · refine iteD (decide_eq_true (by omega)) ⟨_, h3, _, _, rfl, rfl, by rw [c1, sS_len, sl]; decide, nx _ (fun d d1 d2 => ?_) (fun _ => ?_)⟩
    · rw [tl_append, e]; exact List.mem_append_left _ (mem_dig d1 d2)
    · rw [tl_append, c1]; exact List.mem_append_right _ (by decide)
  · refine iteE (decide_eq_false (by omega)) ?_
    have z := nx sg (fun d d1 d2 => by rw [e]; exact mem_dig d1 d2) (fun z => absurd z c)
    have es : σ.set 3 (some (.str sg)) = σ := by
      refine List.ext_getElem? fun i => ?_
      by_cases ci : i = 3
      · subst ci
        rw [List.getElem?_set_self (List.getElem?_eq_some_iff.mp h3).1, h3]
      · rw [List.getElem?_set_ne (fun z => ci z.symm)]
    rw [es] at z
    exact z
theorem ok_tat1 {g : Nat} {t1 t2 t3 : Tok} (F : Fun K "tree_at" "tree_at" sTat f fd) (B : Bl mg) (GB : Cal P w K mg base "behind_sign" 1 nBhs spBhs) (dg : mg "DIGITS" = some (.str DIG t1)) (ma : mg "MAX_ANSWER" = some (.int 9 t2)) (mk : mg "MAX_KINDS" = some (.int 6 t3)) (gS : mg "tree_at" = some (.ref f)) (bS : Binds K fd psTat [])
    (G : FnOk P w K mg base CX0 (g + 1) f fd psTat (spTat g)) : FnOk P w K mg base CX0 (g + 2) f fd psTat (spTat (g + 1)) := by
  refine F.ok scTat (fun vs H Q E h => ?_) (fun cdv A outer s H vs Q E hr h => ?_)
  · obtain ⟨s, i, r, t, pre, post, rfl, _⟩ := h
    rfl
  · obtain ⟨tx, i, r, t, pre, post, rfl, rfl, hs, hg, to, hroom, sl, q⟩ := h
    have hr1 := hr.mono (show 1 ≤ g + 1 by omega)
    have bg := big1000
    refine ⟨_, (pss_cons (ps_set (i := 3) scTat.nd rfl (.inl rfl) (pe_slice sl_str (pe_glob (v := .str DIG) (by rfl) dg ⟨_, rfl⟩) po_none (po_some (pe_op op_add (pe_glob (v := .int 9) (by rfl) ma ⟨_, rfl⟩) pe_int))))
      (pss_cons (segSg _ rfl)
      (pss_cons (ps_set (i := 4) scTat.nd rfl (.inl rfl) (pe_cal GB hr1 (by rfl) (pa_cons (pv 0) (pa_cons (pv 1) (pa_cons (pv 3) pa_nil)))))
      (pss_cons (ps_if (pt_cmpR op_ne (pe_ix ix_str (pv 0) (pv 1) (fun _ _ => rfl)) pe_str (nomark _)) (pss_one (ps_ret (pe_tup (pa_cons (pe_callTy call_int_str (by rfl) B.int PyProof.Rows.boot_int (pa_cons (pe_ix ix_str (pv 0) (pv 1) (fun _ _ => rfl)) pa_nil)) (pa_cons (pv 4) (pa_cons (pv 2) pa_nil)))))) pss_nil)
      (pss_cons (ps_set (i := 5) scTat.nd rfl (.inl rfl) (pe_cal GB hr1 (by rfl) (pa_cons (pv 0) (pa_cons (pv 4) (pa_cons (pe_slice sl_str (pe_glob (v := .str DIG) (by rfl) dg ⟨_, rfl⟩) po_none (po_some (pe_glob (v := .int 6) (by rfl) mk ⟨_, rfl⟩))) pa_nil)))))
      (pss_cons (ps_set (i := 6) scTat.nd rfl (.inl rfl) (pe_callTy call_int_str (by rfl) B.int PyProof.Rows.boot_int (pa_cons (pe_ix ix_str (pv 0) (pv 4) (fun _ _ => rfl)) pa_nil)))
      (pss_cons (ps_set (i := 5) scTat.nd rfl (.inl rfl) (pe_cal GB hr1 (by rfl) (pa_cons (pv 0) (pa_cons (pv 5) (pa_cons pe_str pa_nil)))))
      (pss_cons (ps_asg (pe_call G hr (by rfl) gS F.kp bS .nil pass0 (pa_cons (pv 0) (pa_cons (pe_cal GB hr1 (by rfl) (pa_cons (pv 0) (pa_cons (pv 5) (pa_cons pe_str pa_nil)))) (pa_cons (pe_op op_sub (pv 2) pe_int) pa_nil)))) (pg_tup rfl (pgs_cons (pg_name (i := 7) scTat.nd rfl (.inl rfl)) (pgs_cons (pg_name (i := 5) scTat.nd rfl (.inl rfl)) (pgs_cons (pg_name (i := 2) scTat.nd rfl (.inl rfl)) pgs_nil)))))
      (pss_cons (ps_asg (pe_call G hr (by rfl) gS F.kp bS .nil pass0 (pa_cons (pv 0) (pa_cons (pe_cal GB hr1 (by rfl) (pa_cons (pv 0) (pa_cons (pv 5) (pa_cons pe_str pa_nil)))) (pa_cons (pv 2) pa_nil)))) (pg_tup rfl (pgs_cons (pg_name (i := 8) scTat.nd rfl (.inl rfl)) (pgs_cons (pg_name (i := 5) scTat.nd rfl (.inl rfl)) (pgs_cons (pg_name (i := 2) scTat.nd rfl (.inl rfl)) pgs_nil)))))
      (pss_one (ps_ret (pe_tup (pa_cons (pe_tup (pa_cons (pv 6) (pa_cons (pv 7) (pa_cons (pv 8) pa_nil)))) (pa_cons (pe_cal GB hr1 (by rfl) (pa_cons (pv 0) (pa_cons (pv 5) (pa_cons pe_str pa_nil)))) (pa_cons (pv 2) pa_nil))))))))))))))), ?_⟩
    refine ⟨9, 1, rfl, rfl, _, rfl, DIG, rfl, (by rw [len_tl, dig_tl]; decide), r, _, rfl, rfl, cut10, fun sg d1 d2 => ?_⟩
    have c1 : Str.ofString "(" = sS [40] := eq_sS (by decide +kernel)
    have w1 : tl (Str.ofString "?") = [63] := by decide +kernel
    have w2 : tl (Str.ofString " ") = [32] := by decide +kernel
    have w3 : tl (Str.ofString ")") = [41] := by decide +kernel
    cases t with
    | ans a =>
      have a9 : a ≤ 9 := to
      have hs' : tl tx = pre ++ (48 + a) :: post := by rw [hs]; rfl
      have at0 := sign_at hs' rfl
      refine ⟨_, rfl, _, rfl, _, rfl, tx, sg, _, pre.length, 48 + a, rfl, rfl, at0, d1 _ (by omega) (by omega), sl, ?_⟩
      refine ⟨_, rfl, _, rfl, tx, _, 48 + a, rfl, rfl, by omega, atI_nat (j := pre.length) at0, rfl, _, rfl, ?_⟩
      refine iteD (by rw [c1]; show (!decide (V.str (sS [48 + a]) = V.str (sS [40]))) = true; rw [decide_eq_false (sS_ne (a := [48 + a]) (b := [40]) (by simp; omega))]; rfl) ?_
      refine ⟨_, rfl, _, rfl, tx, _, 48 + a, rfl, rfl, by omega, atI_nat (j := pre.length) at0, _, _, rfl, int_sign a a9, (show 1 ≤ 640 by decide), _, rfl, _, rfl, (show 3 ≤ sizeLine by decide), fun q1 n1 => ?_⟩
      refine q _ q1 _ _ _ (same_new n1) upd_same (.int _) ?_ ?_
      · show ((pre.length : Nat) : Int) + 1 = ((pre.length + 1 : Nat) : Int)
        omega
      · show r = r - ((0 : Nat) : Int)
        omega
    | tst kd y n =>
      have dp : 1 + max y.dep n.dep < g + 1 := hg
      have k6 : kd < 6 := to.1
      have hs0 : tl tx = pre ++ 40 :: ((48 + kd) :: 63 :: 32 :: (y.tx ++ 32 :: (n.tx ++ [41]))  ++ post) := by rw [hs]; rfl
      have hs1 : tl tx = (pre ++ [40]) ++ (48 + kd) :: (63 :: 32 :: (y.tx ++ 32 :: (n.tx ++ [41]))  ++ post) := by rw [hs0]; simp
      have hs2 : tl tx = (pre ++ [40, 48 + kd]) ++ 63 :: (32 :: (y.tx ++ 32 :: (n.tx ++ [41]))  ++ post) := by rw [hs0]; simp
      have hs3 : tl tx = (pre ++ [40, 48 + kd, 63]) ++ 32 :: ((y.tx ++ 32 :: (n.tx ++ [41]))  ++ post) := by rw [hs0]; simp
      have hs4 : tl tx = (pre ++ [40, 48 + kd, 63, 32]) ++ (y.tx ++ (32 :: (n.tx ++ 41 :: post))) := by rw [hs0]; simp
      have hs5 : tl tx = (pre ++ [40, 48 + kd, 63, 32] ++ y.tx) ++ 32 :: (n.tx ++ 41 :: post) := by rw [hs0]; simp
      have hs6 : tl tx = (pre ++ [40, 48 + kd, 63, 32] ++ y.tx ++ [32]) ++ (n.tx ++ (41 :: post)) := by rw [hs0]; simp
      have hs7 : tl tx = (pre ++ [40, 48 + kd, 63, 32] ++ y.tx ++ [32] ++ n.tx) ++ 41 :: post := by rw [hs0]; simp
      have sz : ((1 + y.size + n.size : Nat) : Int) ≤ r := hroom
      have L := Tr.tx_len (.tst kd y n)
      have L1 := Tr.tx_len y
      have L2 := Tr.tx_len n
      have Lz : (Tr.tst kd y n).tx.length = 6 + y.tx.length + n.tx.length := by
        rw [L, L1, L2]; show 7 * (1 + y.size + n.size) + 1 = _; omega
      refine ⟨_, rfl, _, rfl, _, rfl, tx, sg, _, pre.length, 40, rfl, rfl, sign_at hs0 rfl, d2 (by omega), sl, ?_⟩
      refine ⟨_, rfl, _, rfl, tx, _, 40, rfl, rfl, by omega, atI_nat (j := pre.length) (sign_at hs0 rfl), rfl, _, rfl, ?_⟩
      refine iteE (by rw [c1]; exact (by show (!decide (V.str (sS [40]) = V.str (sS [40]))) = false; simp)) ?_
      refine ⟨_, rfl, _, rfl, _, rfl, DIG, rfl, (by rw [len_tl, dig_tl]; decide), tx, _, _, pre.length + 1, 48 + kd, rfl, by omega, sign_at hs1 (by simp), by rw [cut6]; exact mem_kin k6, sl, ?_⟩
      refine ⟨_, rfl, _, rfl, tx, _, 48 + kd, rfl, rfl, by omega, (by rw [show (((pre.length : Nat) : Int) + 1) = ((pre.length + 1 : Nat) : Int) by omega]; exact atI_nat (j := pre.length + 1) (sign_at hs1 (by simp))), _, _, rfl, int_sign kd (by omega), (show 1 ≤ 640 by decide), ?_⟩
      refine ⟨_, rfl, _, rfl, tx, _, _, pre.length + 2, 63, rfl, by omega, sign_at hs2 (by simp), by rw [w1]; decide, sl, ?_⟩
      refine ⟨_, rfl, _, rfl, _, rfl, tx, _, _, pre.length + 3, 32, rfl, by omega, sign_at hs3 (by simp), by rw [w2]; decide, sl, ?_⟩
      refine ⟨_, rfl, r, 1, rfl, rfl, tx, _, _, y, pre ++ [40, 48 + kd, 63, 32], _, rfl, by rw [List.length_append]; show _ = ((pre.length + 4 : Nat) : Int); omega, hs4, by omega, to.2.1, by omega, sl, fun H1 q1 u1 j1 r1 s1 h1 tu1 ej1 er1 => ?_⟩
      refine ⟨q1, _, rfl, SqT.of h1, rfl, _, _, rfl, _, _, rfl, _, _, rfl, rfl, ?_⟩
      have e4 : (pre ++ [40, 48 + kd, 63, 32]).length = pre.length + 4 := by rw [List.length_append]; rfl
      rw [e4] at ej1
      refine ⟨_, rfl, _, rfl, _, rfl, tx, _, _, pre.length + 4 + y.tx.length, 32, rfl, ej1, sign_at hs5 (by rw [List.length_append, e4]), by rw [w2]; decide, sl, ?_⟩
      refine ⟨_, rfl, tx, _, _, n, pre ++ [40, 48 + kd, 63, 32] ++ y.tx ++ [32], _, rfl, by rw [List.length_append, List.length_append, e4, ej1]; show _ = ((pre.length + 4 + y.tx.length + 1 : Nat) : Int); omega, hs6, by omega, to.2.2, by omega, sl, fun H2 q2 u2 j2 r2 s2 h2 tu2 ej2 er2 => ?_⟩
      refine ⟨q2, _, rfl, SqT.of h2, rfl, _, _, rfl, _, _, rfl, _, _, rfl, rfl, ?_⟩
      have e6 : (pre ++ [40, 48 + kd, 63, 32] ++ y.tx ++ [32]).length = pre.length + 5 + y.tx.length := by rw [List.length_append, List.length_append, e4]; show pre.length + 4 + y.tx.length + 1 = _; omega
      rw [e6] at ej2
      refine ⟨_, rfl, _, rfl, _, rfl, (show 3 ≤ sizeLine by decide), fun p3 n3 => ?_⟩
      have s3 := same_new (o := HO.tup [.int ((kd : Nat) : Int), u1, u2]) n3
      refine ⟨_, rfl, _, rfl, tx, _, _, pre.length + 5 + y.tx.length + n.tx.length, 41, rfl, ej2, sign_at hs7 (by rw [List.length_append, e6]), by rw [w3]; decide, sl, _, rfl, (show 3 ≤ sizeLine by decide), fun p4 n4 => ?_⟩
      have s4 := same_new (o := HO.tup [V.ref p3, .int (j2 + 1), .int r2]) n4
      refine q _ p4 _ _ _ (s1.trans (s2.trans (s3.trans s4))) upd_same ?_ ?_ ?_
      · exact .tup (s4 _ _ upd_same) (by show 3 ≤ 1000; decide) (.cons (.int _) (.cons ((tu1.same s2).same (s3.trans s4)) (.cons (tu2.same (s3.trans s4)) .nil)))
      · rw [Lz]; omega
      · show r2 = r - ((1 + y.size + n.size : Nat) : Int)
        omega
theorem ok_tat {t1 t2 t3 : Tok} (F : Fun K "tree_at" "tree_at" sTat f fd) (B : Bl mg) (GB : Cal P w K mg base "behind_sign" 1 nBhs spBhs) (dg : mg "DIGITS" = some (.str DIG t1)) (ma : mg "MAX_ANSWER" = some (.int 9 t2)) (mk : mg "MAX_KINDS" = some (.int 6 t3)) (gS : mg "tree_at" = some (.ref f)) (bS : Binds K fd psTat []) : ∀ g : Nat, FnOk P w K mg base CX0 (g + 1) f fd psTat (spTat g)
  | 0 => ⟨fun vs H Q E h => by obtain ⟨s, i, r, t, pre, post, _, _, _, z, _⟩ := h; exact absurd z (Nat.not_lt_zero _), fun A outer s H args us vs Q E _ _ _ _ h => by obtain ⟨s, i, r, t, pre, post, _, _, _, z, _⟩ := h; exact absurd z (Nat.not_lt_zero _)⟩
  | g + 1 => ok_tat1 F B GB dg ma mk gS bS (ok_tat F B GB dg ma mk gS bS g)
theorem ok_rdt {t4 : Tok} (F : Fun K "read_tree" "read_tree" sRdt f fd) (B : Bl mg) (GT : Cal P w K mg base "tree_at" 14 psTat (spTat 13)) (mt : mg "MAX_TESTS" = some (.int 12 t4)) : FnOk P w K mg base CX0 15 f fd ["value"] spRdt := by
  refine F.ok scRdt (fun vs H Q E h => ?_) (fun cdv A outer s H vs Q E hr h => ?_)
  · obtain ⟨t, rfl, _⟩ := h
    rfl
  · obtain ⟨t, rfl, td, to, ts, q⟩ := h
    have bg := big1000
    refine ⟨_, (pss_cons (ps_if (pt_not (pt_val (pe_callB call_isi (by rfl) B.isi boot_isinstance (pa_cons (pv 0) (pa_cons (pe_bltn (v := .ty "str") (by rfl) B.str PyProof.Rows.boot_str rfl) pa_nil))))) (pss_one ps_never) pss_nil)
      (pss_cons (ps_asg (pe_cal GT hr (by rfl) (pa_cons (pv 0) (pa_cons pe_int (pa_cons (pe_glob (v := .int 12) (by rfl) mt ⟨_, rfl⟩) pa_nil)))) (pg_tup rfl (pgs_cons (pg_name (i := 1) scRdt.nd rfl (.inl rfl)) (pgs_cons (pg_name (i := 2) scRdt.nd rfl (.inl rfl)) (pgs_cons (pg_name (i := 3) scRdt.nd rfl (.inl rfl)) pgs_nil)))))
      (pss_cons (ps_if (pt_cmpR op_lt (pv 2) (pe_callB call_len_str (by rfl) B.len PySem.boot_len (pa_cons (pv 0) pa_nil)) (nomark _)) (pss_one ps_never) pss_nil)
      (pss_one (ps_ret (pv 1)))))), ?_⟩
    have L := Tr.tx_len t
    have dstr : Da Kd.nil H (.str (sS t.tx)) (.str (sS t.tx)) := .str _
    refine ⟨_, rfl, _, _, _, _, _, rfl, .ty _, dstr.ty, kit_ty rfl, _, rfl, ?_⟩
    refine iteE (by rfl) ⟨_, rfl, sS t.tx, 0, 12, t, [], [], rfl, rfl, by rw [tl_sS]; simp, by omega, to, by omega, by rw [sS_len]; omega, fun H1 q1 u1 j1 r1 s1 h1 tu1 ej1 er1 => ?_⟩
    refine ⟨q1, _, rfl, SqT.of h1, rfl, _, _, rfl, _, _, rfl, _, _, rfl, rfl, ?_⟩
    refine ⟨_, rfl, _, rfl, _, rfl, by rw [sS_len]; omega, _, _, rfl, rfl, _, rfl, iteE (decide_eq_false (by rw [sS_len, ej1]; show ¬ (((0 + t.tx.length : Nat) : Int) < _); omega)) ?_⟩
    exact ⟨_, rfl, q H1 u1 s1 tu1⟩
end
end Kc

set_option Elab.async false
set_option linter.all false
set_option maxRecDepth 100000
set_option maxHeartbeats 4000000
/-! Trees read from signs, one inside the other, and by a list of what is awaited. -/
namespace Kf
open PySem PySem.Spec PyProof.Rows L2 Kg Kd
/-- the kind -/
def exK : List Nat → Nat → Except Nat (Nat × List Nat)
  | [], p => .error p
  | c :: cs, p => if 48 ≤ c ∧ c ≤ 53 then .ok (c - 48, cs) else .error p
/-- this very sign -/
def exS (x : Nat) : List Nat → Nat → Except Nat (List Nat)
  | [], p => .error p
  | c :: cs, p => if c = x then .ok cs else .error p
def prs : Nat → List Nat → Nat → Nat → Except Nat (Tr × List Nat × Nat × Nat)
  | 0, _, p, _ => .error p
  | _ + 1, [], p, _ => .error p
  | g + 1, c :: c1, p, r =>
    if c = 40 ∧ 0 < r then
      match exK c1 (p + 1) with
      | .error e => .error e
      | .ok (k, c2) => match exS 63 c2 (p + 2) with
        | .error e => .error e
        | .ok c3 => match exS 32 c3 (p + 3) with
          | .error e => .error e
          | .ok c4 => match prs g c4 (p + 4) (r - 1) with
            | .error e => .error e
            | .ok (y, c5, b, r1) => match exS 32 c5 b with
              | .error e => .error e
              | .ok c6 => match prs g c6 (b + 1) r1 with
                | .error e => .error e
                | .ok (n, c7, b2, r2) => match exS 41 c7 b2 with
                  | .error e => .error e
                  | .ok c8 => .ok (.tst k y n, c8, b2 + 1, r2)
    else if 48 ≤ c ∧ c ≤ 57 then .ok (.ans (c - 48), c1, p + 1, r) else .error p
theorem exK_ok {cs cs' : List Nat} {p k : Nat} (h : exK cs p = .ok (k, cs')) : cs = (48 + k) :: cs' ∧ k < 6 := by
  cases cs with
  | nil => cases h
  | cons c r =>
    have h' : (if 48 ≤ c ∧ c ≤ 53 then Except.ok (c - 48, r) else Except.error p) = .ok (k, cs') := h
    by_cases z : 48 ≤ c ∧ c ≤ 53
    · rw [if_pos z] at h'
      cases h'
      exact ⟨by rw [show 48 + (c - 48) = c by omega], by omega⟩
    · rw [if_neg z] at h'; cases h'
theorem exK_err {cs : List Nat} {p e : Nat} (h : exK cs p = .error e) : e = p ∧ ∀ c, cs.head? = some c → ¬ (48 ≤ c ∧ c ≤ 53) := by
  cases cs with
  | nil => cases h; exact ⟨rfl, fun c z => nomatch z⟩
  | cons c r =>
    have h' : (if 48 ≤ c ∧ c ≤ 53 then Except.ok (c - 48, r) else Except.error p) = .error e := h
    by_cases z : 48 ≤ c ∧ c ≤ 53
    · rw [if_pos z] at h'; cases h'
    · rw [if_neg z] at h'
      cases h'
      exact ⟨rfl, fun d y => by cases y; exact z⟩
theorem exS_ok {x p : Nat} {cs cs' : List Nat} (h : exS x cs p = .ok cs') : cs = x :: cs' := by
  cases cs with
  | nil => cases h
  | cons c r =>
    have h' : (if c = x then Except.ok r else Except.error p) = .ok cs' := h
    by_cases z : c = x
    · rw [if_pos z] at h'; cases h'; rw [z]
    · rw [if_neg z] at h'; cases h'
theorem exS_err {x p e : Nat} {cs : List Nat} (h : exS x cs p = .error e) : e = p ∧ ∀ c, cs.head? = some c → c ≠ x := by
  cases cs with
  | nil => cases h; exact ⟨rfl, fun c z => nomatch z⟩
  | cons c r =>
    have h' : (if c = x then Except.ok r else Except.error p) = .error e := h
    by_cases z : c = x
    · rw [if_pos z] at h'; cases h'
    · rw [if_neg z] at h'
      cases h'
      exact ⟨rfl, fun d y => by cases y; exact z⟩
/-- how a reading of a tree ends: all its ways -/
inductive Prs : List Nat → Nat → Nat → Except Nat (Tr × List Nat × Nat × Nat) → Prop
  | bad {cs : List Nat} {p r : Nat} : (∀ c, cs.head? = some c → ¬ (c = 40 ∧ 0 < r) ∧ ¬ (48 ≤ c ∧ c ≤ 57)) → Prs cs p r (.error p)
  | ans {c : Nat} {cs : List Nat} {p r : Nat} : 48 ≤ c → c ≤ 57 → Prs (c :: cs) p r (.ok (.ans (c - 48), cs, p + 1, r))
  | kd {cs : List Nat} {p r : Nat} : 0 < r → (∀ c, cs.head? = some c → ¬ (48 ≤ c ∧ c ≤ 53)) → Prs (40 :: cs) p r (.error (p + 1))
  | qu {k : Nat} {cs : List Nat} {p r : Nat} : 0 < r → k < 6 → (∀ c, cs.head? = some c → c ≠ 63) → Prs (40 :: (48 + k) :: cs) p r (.error (p + 2))
  | s1 {k : Nat} {cs : List Nat} {p r : Nat} : 0 < r → k < 6 → (∀ c, cs.head? = some c → c ≠ 32) → Prs (40 :: (48 + k) :: 63 :: cs) p r (.error (p + 3))
  | y {k e : Nat} {cs : List Nat} {p r : Nat} : 0 < r → k < 6 → Prs cs (p + 4) (r - 1) (.error e) → Prs (40 :: (48 + k) :: 63 :: 32 :: cs) p r (.error e)
  | s2 {k b r1 : Nat} {t : Tr} {cs c5 : List Nat} {p r : Nat} : 0 < r → k < 6 → Prs cs (p + 4) (r - 1) (.ok (t, c5, b, r1)) → (∀ c, c5.head? = some c → c ≠ 32) → Prs (40 :: (48 + k) :: 63 :: 32 :: cs) p r (.error b)
  | n {k b r1 e : Nat} {t : Tr} {cs c6 : List Nat} {p r : Nat} : 0 < r → k < 6 → Prs cs (p + 4) (r - 1) (.ok (t, 32 :: c6, b, r1)) → Prs c6 (b + 1) r1 (.error e) → Prs (40 :: (48 + k) :: 63 :: 32 :: cs) p r (.error e)
  | s3 {k b r1 b2 r2 : Nat} {t u : Tr} {cs c6 c7 : List Nat} {p r : Nat} : 0 < r → k < 6 → Prs cs (p + 4) (r - 1) (.ok (t, 32 :: c6, b, r1)) → Prs c6 (b + 1) r1 (.ok (u, c7, b2, r2)) → (∀ c, c7.head? = some c → c ≠ 41) → Prs (40 :: (48 + k) :: 63 :: 32 :: cs) p r (.error b2)
  | tst {k b r1 b2 r2 : Nat} {t u : Tr} {cs c6 c8 : List Nat} {p r : Nat} : 0 < r → k < 6 → Prs cs (p + 4) (r - 1) (.ok (t, 32 :: c6, b, r1)) → Prs c6 (b + 1) r1 (.ok (u, 41 :: c8, b2, r2)) → Prs (40 :: (48 + k) :: 63 :: 32 :: cs) p r (.ok (.tst k t u, c8, b2 + 1, r2))
/-- what was read, and what is left -/
theorem Prs.left {cs : List Nat} {p r : Nat} {o : Except Nat (Tr × List Nat × Nat × Nat)} (h : Prs cs p r o) : ∀ t c' b r', o = .ok (t, c', b, r') → ∃ mid, cs = mid ++ c' ∧ b = p + mid.length ∧ r' + t.size = r ∧ t.ok 6 := by
  induction h with
  | bad _ | kd _ _ | qu _ _ _ | s1 _ _ _ | y _ _ _ _ | s2 _ _ _ _ _ | n _ _ _ _ _ _ | s3 _ _ _ _ _ _ _ => intro t c' b r' e; cases e
  | ans h1 h2 =>
    intro t c' b r' e
    cases e
    exact ⟨[_], rfl, rfl, rfl, by show _ ≤ 9; omega⟩
  | @tst k b r1 b2 r2 t u cs c6 c8 p r h1 h2 _ _ i1 i2 =>
    intro t c' b r' e
    cases e
    obtain ⟨m1, e1, b1, s1, o1⟩ := i1 _ _ _ _ rfl
    obtain ⟨m2, e2, b2, s2, o2⟩ := i2 _ _ _ _ rfl
    refine ⟨40 :: (48 + k) :: 63 :: 32 :: (m1 ++ 32 :: (m2 ++ [41])), by rw [e1, e2]; simp, ?_, ?_, h2, o1, o2⟩
    · simp; omega
    · show r2 + (1 + _ + _) = r
      omega
/-- there is but one way, if the room lasts -/
theorem prs_any : ∀ (g : Nat) (cs : List Nat) (p r : Nat), r < g → ∃ o, Prs cs p r o
  | 0, _, _, _, h => absurd h (Nat.not_lt_zero _)
  | g + 1, [], p, r, h => ⟨_, .bad fun c z => nomatch z⟩
  | g + 1, c :: c1, p, r, h => by
    by_cases a : c = 40 ∧ 0 < r
    · obtain ⟨rfl, r0⟩ := a
      cases hk : exK c1 (p + 1) with
      | error e => exact ⟨_, .kd r0 (exK_err hk).2⟩
      | ok z =>
        obtain ⟨k, c2⟩ := z
        obtain ⟨rfl, k6⟩ := exK_ok hk
        cases h2 : exS 63 c2 0 with
        | error e => exact ⟨_, .qu r0 k6 (exS_err h2).2⟩
        | ok c3 =>
          obtain rfl := exS_ok h2
          cases h3 : exS 32 c3 0 with
          | error e => exact ⟨_, .s1 r0 k6 (exS_err h3).2⟩
          | ok c4 =>
            obtain rfl := exS_ok h3
            obtain ⟨o1, p1⟩ := prs_any g c4 (p + 4) (r - 1) (by omega)
            cases o1 with
            | error e => exact ⟨_, .y r0 k6 p1⟩
            | ok z =>
              obtain ⟨t, c5, b, r1⟩ := z
              obtain ⟨m, _, _, sz, _⟩ := p1.left _ _ _ _ rfl
              cases h5 : exS 32 c5 0 with
              | error e => exact ⟨_, .s2 r0 k6 p1 (exS_err h5).2⟩
              | ok c6 =>
                obtain rfl := exS_ok h5
                obtain ⟨o2, p2⟩ := prs_any g c6 (b + 1) r1 (by omega)
                cases o2 with
                | error e => exact ⟨_, .n r0 k6 p1 p2⟩
                | ok z =>
                  obtain ⟨u, c7, b2, r2⟩ := z
                  cases h7 : exS 41 c7 0 with
                  | error e => exact ⟨_, .s3 r0 k6 p1 p2 (exS_err h7).2⟩
                  | ok c8 =>
                    obtain rfl := exS_ok h7
                    exact ⟨_, .tst r0 k6 p1 p2⟩
    · by_cases d : 48 ≤ c ∧ c ≤ 57
      · exact ⟨_, .ans d.1 d.2⟩
      · exact ⟨_, .bad fun x z => by cases z; exact ⟨a, d⟩⟩
/-! ### by what is awaited -/
inductive Wt | tree | kind | sg (c : Nat)
inductive Sv | tr (t : Tr) | kd (k : Nat)
/-- one sign more; none: the sign is not one that was awaited -/
def mstp (c : Nat) (w : Wt) (W : List Wt) (S : List Sv) (z : Nat) : Option (List Wt × List Sv × Nat) :=
  match w with
  | .tree => if c = 40 ∧ z < 12 then some (.kind :: .sg 63 :: .sg 32 :: .tree :: .sg 32 :: .tree :: .sg 41 :: W, S, z + 1) else if 48 ≤ c ∧ c ≤ 57 then some (W, .tr (.ans (c - 48)) :: S, z) else none
  | .kind => if 48 ≤ c ∧ c ≤ 53 then some (W, .kd (c - 48) :: S, z) else none
  | .sg x => if c = x then (if x = 41 then (match S with | .tr n :: .tr y :: .kd k :: S => some (W, .tr (.tst k y n) :: S, z) | _ => none) else some (W, S, z)) else none
def mrun : List Nat → Nat → List Wt → List Sv → Nat → Except Nat (List Sv)
  | [], p, [], S, _ => .ok S
  | [], p, _ :: _, _, _ => .error p
  | _ :: _, p, [], _, _ => .error p
  | c :: cs, p, w :: W, S, z => match mstp c w W S z with
    | none => .error p
    | some (W', S', z') => mrun cs (p + 1) W' S' z'
theorem mstp_sg {x z : Nat} {W : List Wt} {S : List Sv} (n : x ≠ 41) : mstp x (.sg x) W S z = some (W, S, z) :=
  (if_pos rfl).trans (if_neg n)
theorem mstp_no {c x z : Nat} {W : List Wt} {S : List Sv} (n : c ≠ x) : mstp c (.sg x) W S z = none := if_neg n
theorem mstp_kd {k z : Nat} {W : List Wt} {S : List Sv} (n : k < 6) : mstp (48 + k) .kind W S z = some (W, .kd k :: S, z) :=
  (if_pos (by omega)).trans (by rw [show 48 + k - 48 = k by omega])
theorem mstp_nk {c z : Nat} {W : List Wt} {S : List Sv} (n : ¬ (48 ≤ c ∧ c ≤ 53)) : mstp c .kind W S z = none := if_neg n
theorem mstp_op {z : Nat} {W : List Wt} {S : List Sv} (h : z < 12) : mstp 40 .tree W S z = some (.kind :: .sg 63 :: .sg 32 :: .tree :: .sg 32 :: .tree :: .sg 41 :: W, S, z + 1) := if_pos ⟨rfl, h⟩
theorem mstp_an {c z : Nat} {W : List Wt} {S : List Sv} (h : 48 ≤ c ∧ c ≤ 57) : mstp c .tree W S z = some (W, .tr (.ans (c - 48)) :: S, z) := (if_neg (fun y => by omega)).trans (if_pos h)
theorem mstp_nt {c z : Nat} {W : List Wt} {S : List Sv} (h1 : ¬ (c = 40 ∧ z < 12)) (h : ¬ (48 ≤ c ∧ c ≤ 57)) : mstp c .tree W S z = none := (if_neg h1).trans (if_neg h)
theorem mstp_cl {z k : Nat} {y n : Tr} {W : List Wt} {S : List Sv} : mstp 41 (.sg 41) W (.tr n :: .tr y :: .kd k :: S) z = some (W, .tr (.tst k y n) :: S, z) := rfl
theorem mrun_some {c p z z' : Nat} {cs : List Nat} {w : Wt} {W W' : List Wt} {S S' : List Sv} (h : mstp c w W S z = some (W', S', z')) : mrun (c :: cs) p (w :: W) S z = mrun cs (p + 1) W' S' z' := by
  show (match mstp c w W S z with | none => Except.error p | some (W', S', z') => mrun cs (p + 1) W' S' z') = _
  rw [h]
theorem mrun_none {c p z : Nat} {cs : List Nat} {w : Wt} {W : List Wt} {S : List Sv} (h : mstp c w W S z = none) : mrun (c :: cs) p (w :: W) S z = .error p := by
  show (match mstp c w W S z with | none => Except.error p | some (W', S', z') => mrun cs (p + 1) W' S' z') = _
  rw [h]
theorem mrun_sg {x p z : Nat} {cs : List Nat} {W : List Wt} {S : List Sv} (n : x ≠ 41) : mrun (x :: cs) p (.sg x :: W) S z = mrun cs (p + 1) W S z := mrun_some (mstp_sg n)
theorem mrun_sgX {x p z : Nat} {cs : List Nat} {W : List Wt} {S : List Sv} (h : ∀ c, cs.head? = some c → c ≠ x) : mrun cs p (.sg x :: W) S z = .error p := by
  cases cs with
  | nil => rfl
  | cons c cs => exact mrun_none (mstp_no (h c rfl))
theorem mrun_kd {k p z : Nat} {cs : List Nat} {W : List Wt} {S : List Sv} (n : k < 6) : mrun ((48 + k) :: cs) p (.kind :: W) S z = mrun cs (p + 1) W (.kd k :: S) z := mrun_some (mstp_kd n)
theorem mrun_kdX {p z : Nat} {cs : List Nat} {W : List Wt} {S : List Sv} (h : ∀ c, cs.head? = some c → ¬ (48 ≤ c ∧ c ≤ 53)) : mrun cs p (.kind :: W) S z = .error p := by
  cases cs with
  | nil => rfl
  | cons c cs => exact mrun_none (mstp_nk (h c rfl))
theorem mrun_op {p z : Nat} {cs : List Nat} {W : List Wt} {S : List Sv} (h : z < 12) : mrun (40 :: cs) p (.tree :: W) S z = mrun cs (p + 1) (.kind :: .sg 63 :: .sg 32 :: .tree :: .sg 32 :: .tree :: .sg 41 :: W) S (z + 1) := mrun_some (mstp_op h)
theorem mrun_cl {p z k : Nat} {y n : Tr} {cs : List Nat} {W : List Wt} {S : List Sv} : mrun (41 :: cs) p (.sg 41 :: W) (.tr n :: .tr y :: .kd k :: S) z = mrun cs (p + 1) W (.tr (.tst k y n) :: S) z := mrun_some mstp_cl
/-- both read alike -/
theorem prs_run {cs : List Nat} {p r : Nat} {o : Except Nat (Tr × List Nat × Nat × Nat)} (h : Prs cs p r o) : r ≤ 12 → ∀ W S,
    (∀ e, o = .error e → mrun cs p (.tree :: W) S (12 - r) = .error e) ∧ ∀ t c' b r', o = .ok (t, c', b, r') → mrun cs p (.tree :: W) S (12 - r) = mrun c' b W (.tr t :: S) (12 - r') := by
  induction h with
  | @bad cs p r hb =>
    intro h12 W S
    refine ⟨fun e he => ?_, fun t c' b r' e => nomatch e⟩
    cases he
    cases cs with
    | nil => rfl
    | cons c cs =>
      obtain ⟨h1, h2⟩ := hb c rfl
      exact mrun_none (mstp_nt (fun z => h1 ⟨z.1, by omega⟩) h2)
  | @ans c cs p r h1 h2 =>
    intro h12 W S
    refine ⟨fun e he => (nomatch he), fun t c' b r' e => ?_⟩
    cases e
    exact mrun_some (mstp_an ⟨h1, h2⟩)
  | kd h1 h2 =>
    intro h12 W S
    refine ⟨fun e he => ?_, fun t c' b r' e => nomatch e⟩
    cases he
    rw [mrun_op (by omega), mrun_kdX h2]
  | qu h1 h2 h3 =>
    intro h12 W S
    refine ⟨fun e he => ?_, fun t c' b r' e => nomatch e⟩
    cases he
    rw [mrun_op (by omega), mrun_kd h2, mrun_sgX h3]
  | s1 h1 h2 h3 =>
    intro h12 W S
    refine ⟨fun e he => ?_, fun t c' b r' e => nomatch e⟩
    cases he
    rw [mrun_op (by omega), mrun_kd h2, mrun_sg (by decide), mrun_sgX h3]
  | @y k e cs p r h1 h2 h3 i =>
    intro h12 W S
    refine ⟨fun e he => ?_, fun t c' b r' e => nomatch e⟩
    cases he
    rw [mrun_op (by omega), mrun_kd h2, mrun_sg (by decide), mrun_sg (by decide), show 12 - r + 1 = 12 - (r - 1) by omega]
    exact (i (by omega) _ _).1 _ rfl
  | @s2 k b r1 t cs c5 p r h1 h2 h3 h4 i =>
    intro h12 W S
    refine ⟨fun e he => ?_, fun t c' b r' e => nomatch e⟩
    cases he
    rw [mrun_op (by omega), mrun_kd h2, mrun_sg (by decide), mrun_sg (by decide), show 12 - r + 1 = 12 - (r - 1) by omega, (i (by omega) _ _).2 _ _ _ _ rfl, mrun_sgX h4]
  | @n k b r1 e t cs c6 p r h1 h2 h3 h4 i1 i2 =>
    intro h12 W S
    refine ⟨fun e he => ?_, fun t c' b r' e => nomatch e⟩
    cases he
    obtain ⟨_, _, _, sz, _⟩ := h3.left _ _ _ _ rfl
    rw [mrun_op (by omega), mrun_kd h2, mrun_sg (by decide), mrun_sg (by decide), show 12 - r + 1 = 12 - (r - 1) by omega, (i1 (by omega) _ _).2 _ _ _ _ rfl, mrun_sg (by decide)]
    exact (i2 (by omega) _ _).1 _ rfl
  | @s3 k b r1 b2 r2 t u cs c6 c7 p r h1 h2 h3 h4 h5 i1 i2 =>
    intro h12 W S
    refine ⟨fun e he => ?_, fun t c' b r' e => nomatch e⟩
    cases he
    obtain ⟨_, _, _, sz, _⟩ := h3.left _ _ _ _ rfl
    rw [mrun_op (by omega), mrun_kd h2, mrun_sg (by decide), mrun_sg (by decide), show 12 - r + 1 = 12 - (r - 1) by omega, (i1 (by omega) _ _).2 _ _ _ _ rfl, mrun_sg (by decide), (i2 (by omega) _ _).2 _ _ _ _ rfl, mrun_sgX h5]
  | @tst k b r1 b2 r2 t u cs c6 c8 p r h1 h2 h3 h4 i1 i2 =>
    intro h12 W S
    refine ⟨fun e he => (nomatch he), fun t c' b r' e => ?_⟩
    cases e
    obtain ⟨_, _, _, sz, _⟩ := h3.left _ _ _ _ rfl
    rw [mrun_op (by omega), mrun_kd h2, mrun_sg (by decide), mrun_sg (by decide), show 12 - r + 1 = 12 - (r - 1) by omega, (i1 (by omega) _ _).2 _ _ _ _ rfl, mrun_sg (by decide), (i2 (by omega) _ _).2 _ _ _ _ rfl, mrun_cl]
/-- a whole text -/
inductive Red (cs : List Nat) : Except Nat Tr → Prop
  | err {e : Nat} : Prs cs 0 12 (.error e) → Red cs (.error e)
  | more {t : Tr} {c : Nat} {c' : List Nat} {b r' : Nat} : Prs cs 0 12 (.ok (t, c :: c', b, r')) → Red cs (.error b)
  | all {t : Tr} {b r' : Nat} : Prs cs 0 12 (.ok (t, [], b, r')) → Red cs (.ok t)
theorem red_any (cs : List Nat) : ∃ o, Red cs o := by
  obtain ⟨o, h⟩ := prs_any 13 cs 0 12 (by decide)
  cases o with
  | error e => exact ⟨_, .err h⟩
  | ok z =>
    obtain ⟨t, c', b, r'⟩ := z
    cases c' with
    | nil => exact ⟨_, .all h⟩
    | cons c c' => exact ⟨_, .more h⟩
theorem red_run {cs : List Nat} {o : Except Nat Tr} (h : Red cs o) : (∀ e, o = .error e → mrun cs 0 [.tree] [] 0 = .error e) ∧ ∀ t, o = .ok t → mrun cs 0 [.tree] [] 0 = .ok [.tr t] := by
  cases h with
  | err h =>
    refine ⟨fun e he => ?_, fun t e => nomatch e⟩
    cases he
    exact (prs_run h (by decide) [] []).1 _ rfl
  | more h =>
    refine ⟨fun e he => ?_, fun t e => nomatch e⟩
    cases he
    exact (prs_run h (by decide) [] []).2 _ _ _ _ rfl
  | all h =>
    refine ⟨fun e he => (nomatch he), fun t e => ?_⟩
    cases e
    exact (prs_run h (by decide) [] []).2 _ _ _ _ rfl
end Kf

set_option Elab.async false
set_option linter.all false
set_option maxRecDepth 100000
set_option maxHeartbeats 8000000
/-! behind_sign, tree_at, read_tree, whatever the text is -/
namespace Kc
open PySem PySem.Spec PyProof.Rows L2 Kg Kd Kr Kf Kl TL
abbrev sBTc : Stmt := topS 6
abbrev sBT : Stmt := inClass sBTc 0
theorem scBT : FnScope ["self", "place"] ["self", "place"] (defScope sBT) := ⟨rfl, rfl, rfl, by decide +kernel, rfl, by decide +kernel, by decide +kernel⟩
def spBT (C : Addr) : Sp := fun vs H Q _ => ∃ (a : Addr) (v : V), vs = [.ref a, v] ∧ H a = some (exo a C none) ∧ ∀ dx, H dx = none → dx ≠ a → Q .non (upd (upd H dx (exd dx [("place", v)])) a (exo a C (some dx)))
/-- what is said of the class BadTree -/
structure BTC (K : PySem.W.Frag) (mg : Str → Option Value) (CB fB : Addr) : Prop where
  oex : OexC K CB
  np : PySem.W.findIn K (.ref CB) "place" = some none
  iC : PySem.W.findIn K (.ref CB) "__init__" = some (some (.ref fB))
  tI : PySem.W.typeIn K (.ref fB) = some (.type "function")
  xf : XfC K CB
  te : PySem.W.exmOne K (.ref CB) (.ref CB) = some true
  gB : mg "BadTree" = some (.ref CB)
/-- the error with this place was raised -/
def BadAt (CB : Addr) (E : XK) (H : Hp) (e : Int) : Prop := ∀ H' d, Same H H' → H d = none → H' d = some (.xd [("place", .int e)]) → E (.ref CB) (some d) H'
theorem BadAt.same {CB : Addr} {E : XK} {H H1 : Hp} {e : Int} (b : BadAt CB E H e) (s : Same H H1) : BadAt CB E H1 e := fun H' d s' nd h => b H' d (s.trans s') (s.free nd) h
def spBhsX (CB : Addr) : Sp := fun vs H Q E => ∃ (s wd : Str) (i : Int) (p : Nat), vs = [.str s, .int i, .str wd] ∧ i = ((p : Nat) : Int) ∧ p ≤ s.length ∧ s.length ≤ 1000 ∧
  ((∃ c, (tl s)[p]? = some c ∧ c ∈ tl wd ∧ Q (.int (i + 1)) H) ∨ ((∀ c, (tl s)[p]? = some c → c ∉ tl wd) ∧ BadAt CB E H i))
def spTatX (CB : Addr) (g : Nat) : Sp := fun vs H Q E => ∃ (s : Str) (i r : Int) (rn : Nat) (pre cs : List Nat), vs = [.str s, .int i, .int r] ∧ i = ((pre.length : Nat) : Int) ∧ r = ((rn : Nat) : Int) ∧ tl s = pre ++ cs ∧ rn < g ∧ rn ≤ 12 ∧ s.length ≤ 1000 ∧
  (∀ e : Nat, Prs cs pre.length rn (.error e) → BadAt CB E H e) ∧
  ∀ t c' b r', Prs cs pre.length rn (.ok (t, c', b, r')) → ∀ H' q u, Same H H' → H' q = some (.tup [u, .int ((b : Nat) : Int), .int ((r' : Nat) : Int)]) → Tu H' u t.d → Q (.ref q) H'
theorem BadAt.of {CB : Addr} {E : XK} {H : Hp} {n : Nat} {i : Int} (b : BadAt CB E H ((n : Nat) : Int)) (e : i = ((n : Nat) : Int)) : BadAt CB E H i := by rw [e]; exact b
theorem head_at {L pre cs : List Nat} {n : Nat} (h : L = pre ++ cs) (e : n = pre.length) : L[n]? = cs.head? := by
  rw [h, e, List.getElem?_append_right (Nat.le_refl _), Nat.sub_self]
  cases cs <;> rfl
def tSgX : TS := fun D σ H => ∃ (r : Int) (rn : Nat) (sg : Str), r = ((rn : Nat) : Int) ∧ σ[2]? = some (some (.int r)) ∧ σ[3]? = some (some (.str sg)) ∧ tl sg = [48, 49, 50, 51, 52, 53, 54, 55, 56, 57] ∧
  ∀ sg' : Str, (∀ c, c ∈ tl sg' ↔ (48 ≤ c ∧ c ≤ 57) ∨ (c = 40 ∧ 0 < rn)) → D.nx (σ.set 3 (some (.str sg'))) H
theorem in_dig {c : Nat} : c ∈ [48, 49, 50, 51, 52, 53, 54, 55, 56, 57] ↔ 48 ≤ c ∧ c ≤ 57 := by
  constructor
  · intro h
    simp at h
    omega
  · intro h; exact mem_dig h.1 h.2
theorem in_kin {c : Nat} : c ∈ [48, 49, 50, 51, 52, 53] ↔ 48 ≤ c ∧ c ≤ 53 := by
  constructor
  · intro h
    simp at h
    omega
  · intro h
    have := mem_kin (c := c - 48) (by omega)
    rwa [show 48 + (c - 48) = c by omega] at this
section
variable {P : Program} {w : World} {K : PySem.W.Frag} {mg : Str → Option Value} {base : Heap} {f : Addr} {fd : FuncData} {k : Nat}
theorem ok_bt {CB : Addr} (F : Fun K "__init__" "BadTree.__init__" sBT f fd) (T : BTC K mg CB f) : FnOk P w K mg base CX0 (k + 1) f fd ["self", "place"] (spBT CB) := by
  refine F.ok scBT (fun vs H Q E h => ?_) (fun cdv A outer s H vs Q E hr h => ?_)
  · obtain ⟨a, v, rfl, _⟩ := h
    rfl
  · obtain ⟨a, v, rfl, e, q⟩ := h
    refine ⟨_, pss_one (ps_ost (pv 0) (pv 1)), ?_⟩
    exact ⟨_, rfl, _, rfl, a, CB, rfl, T.oex, T.np, .inl ⟨e, fun dx nd ne => q dx nd ne⟩⟩
/-- raise BadTree(i) -/
theorem bad_raise {CB : Addr} {E : XK} {H : Hp} {i : Int} (b : BadAt CB E H i) : [V.int i].length ≤ 1000 ∧ ∀ a, H a = none → spBT CB (V.ref a :: [V.int i]) (upd H a (exo a CB none)) (fun v H2 => v = .non ∧ ∃ dx ys, H2 a = some (exo a CB (some dx)) ∧ H2 dx = some (exd dx ys) ∧ H dx = none ∧ E (.ref CB) (some dx) (upd (del H2 a) dx (.xd ys))) E0 := by
  refine ⟨(by show 1 ≤ 1000; decide), fun a na => ⟨a, _, rfl, upd_same, fun dx2 nd ne => ⟨rfl, dx2, [("place", .int i)], upd_same, ?_, by rw [upd_ne ne] at nd; exact nd, ?_⟩⟩⟩
  · rw [upd_ne ne, upd_same]
  · have nd1 : H dx2 = none := by rw [upd_ne ne] at nd; exact nd
    refine b _ dx2 (fun c o z => ?_) nd1 upd_same
    have n1 := ne_of_none z na
    have n2 := ne_of_none z nd1
    rw [upd_ne n2, del_ne n1, upd_ne n1, upd_ne n2, upd_ne n1]
    exact z
theorem ok_bhsX {CB fB : Addr} {dB : FuncData} (F : Fun K "behind_sign" "behind_sign" sBhs f fd) (B : Bl mg) (TB : BTC K mg CB fB) (GB : FnOk P w K mg base CX0 1 fB dB ["self", "place"] (spBT CB)) (bB : Binds K dB ["self", "place"] []) : FnOk P w K mg base (L2.CX P w) 3 f fd nBhs (spBhsX CB) := by
  refine F.okX scBhs (fun vs H Q E h => ?_) (fun cdv A outer s H vs Q E hr h => ?_)
  · obtain ⟨s, wd, i, p, rfl, _⟩ := h
    rfl
  · obtain ⟨s, wd, i, p, rfl, rfl, pl, sl, q⟩ := h
    refine ⟨_, (pss_cons (ps_if (PW.pt (pw_or (pt_cmpR op_ge (pv 1) (pe_callB call_len_str (by rfl) B.len PySem.boot_len (pa_cons (pv 0) pa_nil)) (nomark _)) (pw_or1 (pt_cmpR op_notIn_sign (pe_ix ix_str (pv 0) (pv 1) (fun _ _ => rfl)) (pv 2) rfl))))
        (pss_one (ps_raise rfl (takes_of rfl rfl rfl rfl) (pmk_oex TB.oex TB.iC TB.tI GB (hr.mono (by decide)) bB .nil pass0 (by rfl) TB.gB (pa_cons (pv 1) pa_nil)))) pss_nil)
      (pss_one (ps_ret (pe_op op_add (pv 1) pe_int)))), ?_⟩
    have bg := big1000
    refine ⟨_, rfl, _, rfl, s, rfl, by omega, _, _, rfl, rfl, _, rfl, ?_⟩
    rcases q with ⟨c, hc, hw, q⟩ | ⟨hn, q⟩
    · have pl : p < s.length := by rw [len_tl]; exact (List.getElem?_eq_some_iff.mp hc).1
      refine iteE (decide_eq_false (by omega)) ?_
      refine ⟨_, rfl, _, rfl, s, _, c, rfl, rfl, by omega, atI_nat (j := p) hc, _, rfl, c, wd, rfl, rfl, _, rfl, iteE (by rw [decide_eq_true hw]; rfl) ?_⟩
      exact ⟨_, rfl, _, _, rfl, rfl, q⟩
    · by_cases cc : p < s.length
      · refine iteE (decide_eq_false (by omega)) ?_
        rw [len_tl] at cc
        have hc := List.getElem?_eq_getElem cc
        refine ⟨_, rfl, _, rfl, s, _, _, rfl, rfl, by omega, atI_nat (j := p) hc, _, rfl, _, wd, rfl, rfl, _, rfl, iteD (by rw [decide_eq_false (hn _ hc)]; rfl) ?_⟩
        exact ⟨_, rfl, bad_raise q⟩
      · refine iteD (decide_eq_true (by omega)) (iteT ?_)
        exact ⟨_, rfl, bad_raise q⟩
theorem segSgX {cdv : Value} {A : Around} {out : List Env} {s : Shared} {H0 : Hp} {E : XK} (st : Stmt) (hst : st = (defBody sTat).getD 1 (.Pass ⟨0, 0, 0, 0⟩)) : PS (cxOf (L2.CX P w) P w K mg base nTat "tree_at" (defScope sTat) f cdv A out s H0 E) st tSgX := by
  subst hst
  refine ps_imp (ps_if (pt_cmpR op_gt (pv 2) pe_int (nomark _)) (pss_one (ps_set (i := 3) scTat.nd rfl (.inl rfl) (pe_op op_add_str (pv 3) pe_str))) pss_nil) (fun D σ H h => ?_)
  obtain ⟨r, rn, sg, rfl, h2, h3, e, nx⟩ := h
  have c1 : Str.ofString "(" = sS [40] := eq_sS (by decide +kernel)
  have sl : sg.length = 10 := by rw [len_tl, e]; rfl
  refine ⟨_, h2, _, 0, rfl, rfl, _, rfl, ?_⟩
  by_cases c : 0 < rn
  · refine iteD (decide_eq_true (by omega)) ⟨_, h3, _, _, rfl, rfl, by rw [c1, sS_len, sl]; decide, nx _ (fun d => ?_)⟩
    rw [tl_append, e, c1, tl_sS, List.mem_append, in_dig, List.mem_singleton]
    constructor
    · rintro (z | z)
      · exact .inl z
      · exact .inr ⟨z, c⟩
    · rintro (z | z)
      · exact .inl z
      · exact .inr z.1
  · refine iteE (decide_eq_false (by omega)) ?_
    have z := nx sg (fun d => by rw [e, in_dig]; exact ⟨.inl, fun y => y.elim id fun y => absurd y.2 c⟩)
    have es : σ.set 3 (some (.str sg)) = σ := by
      refine List.ext_getElem? fun i => ?_
      by_cases ci : i = 3
      · subst ci
        rw [List.getElem?_set_self (List.getElem?_eq_some_iff.mp h3).1, h3]
      · rw [List.getElem?_set_ne (fun z => ci z.symm)]
    rw [es] at z
    exact z
theorem ok_tatX1 {CB fS : Addr} {dS : FuncData} {g : Nat} {t1 t2 t3 : Tok} (F : Fun K "tree_at" "tree_at" sTat f fd) (B : Bl mg) (GB : FnOk P w K mg base (L2.CX P w) 3 fS dS nBhs (spBhsX CB)) (gB : mg "behind_sign" = some (.ref fS)) (kB : PySem.W.keepIn K (.ref fS) = true) (bB : Binds K dS nBhs []) (dg : mg "DIGITS" = some (.str DIG t1)) (ma : mg "MAX_ANSWER" = some (.int 9 t2)) (mk : mg "MAX_KINDS" = some (.int 6 t3)) (gS : mg "tree_at" = some (.ref f)) (bS : Binds K fd psTat [])
    (G : FnOk P w K mg base (L2.CX P w) (g + 4) f fd psTat (spTatX CB g)) : FnOk P w K mg base (L2.CX P w) (g + 5) f fd psTat (spTatX CB (g + 1)) := by
  refine F.okX scTat (fun vs H Q E h => ?_) (fun cdv A outer s H vs Q E hr h => ?_)
  · obtain ⟨s, i, r, rn, pre, cs, rfl, _⟩ := h
    rfl
  · obtain ⟨tx, i, r, rn, pre, cs, rfl, rfl, rfl, hs, hg, r12, sl, qE, q⟩ := h
    have hr3 := hr.mono (show 3 ≤ g + 4 by omega)
    have bg := big1000
    refine ⟨_, (pss_cons (ps_set (i := 3) scTat.nd rfl (.inl rfl) (pe_slice sl_str (pe_glob (v := .str DIG) (by rfl) dg ⟨_, rfl⟩) po_none (po_some (pe_op op_add (pe_glob (v := .int 9) (by rfl) ma ⟨_, rfl⟩) pe_int))))
      (pss_cons (segSgX _ rfl)
      (pss_cons (ps_set (i := 4) scTat.nd rfl (.inl rfl) (pe_call GB hr3 (by rfl) gB kB bB .nil (passes_call (takes_of rfl rfl rfl rfl) fun _ _ _ _ h => h) (pa_cons (pv 0) (pa_cons (pv 1) (pa_cons (pv 3) pa_nil)))))
      (pss_cons (ps_if (pt_cmpR op_ne (pe_ix ix_str (pv 0) (pv 1) (fun _ _ => rfl)) pe_str (nomark _)) (pss_one (ps_ret (pe_tup (pa_cons (pe_callTy call_int_str (by rfl) B.int PyProof.Rows.boot_int (pa_cons (pe_ix ix_str (pv 0) (pv 1) (fun _ _ => rfl)) pa_nil)) (pa_cons (pv 4) (pa_cons (pv 2) pa_nil)))))) pss_nil)
      (pss_cons (ps_set (i := 5) scTat.nd rfl (.inl rfl) (pe_call GB hr3 (by rfl) gB kB bB .nil (passes_call (takes_of rfl rfl rfl rfl) fun _ _ _ _ h => h) (pa_cons (pv 0) (pa_cons (pv 4) (pa_cons (pe_slice sl_str (pe_glob (v := .str DIG) (by rfl) dg ⟨_, rfl⟩) po_none (po_some (pe_glob (v := .int 6) (by rfl) mk ⟨_, rfl⟩))) pa_nil)))))
      (pss_cons (ps_set (i := 6) scTat.nd rfl (.inl rfl) (pe_callTy call_int_str (by rfl) B.int PyProof.Rows.boot_int (pa_cons (pe_ix ix_str (pv 0) (pv 4) (fun _ _ => rfl)) pa_nil)))
      (pss_cons (ps_set (i := 5) scTat.nd rfl (.inl rfl) (pe_call GB hr3 (by rfl) gB kB bB .nil (passes_call (takes_of rfl rfl rfl rfl) fun _ _ _ _ h => h) (pa_cons (pv 0) (pa_cons (pv 5) (pa_cons pe_str pa_nil)))))
      (pss_cons (ps_asg (pe_call G hr (by rfl) gS F.kp bS .nil (passes_call (takes_of rfl rfl rfl rfl) fun _ _ _ _ h => h) (pa_cons (pv 0) (pa_cons (pe_call GB hr3 (by rfl) gB kB bB .nil (passes_call (takes_of rfl rfl rfl rfl) fun _ _ _ _ h => h) (pa_cons (pv 0) (pa_cons (pv 5) (pa_cons pe_str pa_nil)))) (pa_cons (pe_op op_sub (pv 2) pe_int) pa_nil)))) (pg_tup rfl (pgs_cons (pg_name (i := 7) scTat.nd rfl (.inl rfl)) (pgs_cons (pg_name (i := 5) scTat.nd rfl (.inl rfl)) (pgs_cons (pg_name (i := 2) scTat.nd rfl (.inl rfl)) pgs_nil)))))
      (pss_cons (ps_asg (pe_call G hr (by rfl) gS F.kp bS .nil (passes_call (takes_of rfl rfl rfl rfl) fun _ _ _ _ h => h) (pa_cons (pv 0) (pa_cons (pe_call GB hr3 (by rfl) gB kB bB .nil (passes_call (takes_of rfl rfl rfl rfl) fun _ _ _ _ h => h) (pa_cons (pv 0) (pa_cons (pv 5) (pa_cons pe_str pa_nil)))) (pa_cons (pv 2) pa_nil)))) (pg_tup rfl (pgs_cons (pg_name (i := 8) scTat.nd rfl (.inl rfl)) (pgs_cons (pg_name (i := 5) scTat.nd rfl (.inl rfl)) (pgs_cons (pg_name (i := 2) scTat.nd rfl (.inl rfl)) pgs_nil)))))
      (pss_one (ps_ret (pe_tup (pa_cons (pe_tup (pa_cons (pv 6) (pa_cons (pv 7) (pa_cons (pv 8) pa_nil)))) (pa_cons (pe_call GB hr3 (by rfl) gB kB bB .nil (passes_call (takes_of rfl rfl rfl rfl) fun _ _ _ _ h => h) (pa_cons (pv 0) (pa_cons (pv 5) (pa_cons pe_str pa_nil)))) (pa_cons (pv 2) pa_nil))))))))))))))), ?_⟩
    refine ⟨9, 1, rfl, rfl, _, rfl, DIG, rfl, (by rw [len_tl, dig_tl]; decide), ((rn : Nat) : Int), rn, _, rfl, rfl, rfl, cut10, fun sg hsg => ?_⟩
    have c1 : Str.ofString "(" = sS [40] := eq_sS (by decide +kernel)
    have w1 : tl (Str.ofString "?") = [63] := by decide +kernel
    have w2 : tl (Str.ofString " ") = [32] := by decide +kernel
    have w3 : tl (Str.ofString ")") = [41] := by decide +kernel
    have lsum : tx.length = pre.length + cs.length := by rw [len_tl, hs, List.length_append]
    refine ⟨_, rfl, _, rfl, _, rfl, tx, sg, _, pre.length, rfl, rfl, by omega, sl, ?_⟩
    have h0 := head_at hs rfl
    cases cs with
    | nil => exact .inr ⟨(fun c hc => by rw [h0] at hc; cases hc), qE _ (.bad fun c z => nomatch z)⟩
    | cons c c1s =>
      by_cases a : c = 40 ∧ 0 < rn
      · obtain ⟨rfl, r0⟩ := a
        refine .inl ⟨40, h0, (hsg _).mpr (.inr ⟨rfl, r0⟩), ?_⟩
        refine ⟨_, rfl, _, rfl, tx, _, 40, rfl, rfl, by omega, atI_nat (j := pre.length) h0, rfl, _, rfl, ?_⟩
        refine iteE (by rw [c1]; exact (by show (!decide (V.str (sS [40]) = V.str (sS [40]))) = false; simp)) ?_
        have hs1 : tl tx = (pre ++ [40]) ++ c1s := by rw [hs]; simp
        have h1 := head_at (n := pre.length + 1) hs1 (by simp)
        refine ⟨_, rfl, _, rfl, _, rfl, DIG, rfl, (by rw [len_tl, dig_tl]; decide), tx, _, _, pre.length + 1, rfl, by omega, by rw [List.length_cons] at lsum; omega, sl, ?_⟩
        cases hk : exK c1s 0 with
        | error e0 => exact .inr ⟨(fun x hx hw => by rw [h1] at hx; rw [cut6, in_kin] at hw; exact (exK_err hk).2 x hx hw), (qE _ (.kd r0 (exK_err hk).2)).of (by omega)⟩
        | ok z =>
          obtain ⟨kd, c2⟩ := z
          obtain ⟨rfl, k6⟩ := exK_ok hk
          have hk1 : (tl tx)[pre.length + 1]? = some (48 + kd) := h1
          refine .inl ⟨48 + kd, hk1, by rw [cut6, in_kin]; omega, ?_⟩
          refine ⟨_, rfl, _, rfl, tx, _, 48 + kd, rfl, rfl, by omega, (by rw [show (((pre.length : Nat) : Int) + 1) = ((pre.length + 1 : Nat) : Int) by omega]; exact atI_nat (j := pre.length + 1) hk1), _, _, rfl, int_sign kd (by omega), (show 1 ≤ 640 by decide), ?_⟩
          have hs2 : tl tx = (pre ++ [40, 48 + kd]) ++ c2 := by rw [hs]; simp
          have h2 := head_at (n := pre.length + 2) hs2 (by simp)
          rw [List.length_cons, List.length_cons] at lsum
          refine ⟨_, rfl, _, rfl, tx, _, _, pre.length + 2, rfl, by omega, by omega, sl, ?_⟩
          cases hx2 : exS 63 c2 0 with
          | error e0 => exact .inr ⟨(fun x hx hw => by rw [h2] at hx; rw [w1, List.mem_singleton] at hw; exact (exS_err hx2).2 x hx hw), (qE _ (.qu r0 k6 (exS_err hx2).2)).of (by omega)⟩
          | ok c3 =>
            obtain rfl := exS_ok hx2
            refine .inl ⟨63, h2, by rw [w1]; decide, ?_⟩
            have hs3 : tl tx = (pre ++ [40, 48 + kd, 63]) ++ c3 := by rw [hs]; simp
            have h3 := head_at (n := pre.length + 3) hs3 (by simp)
            rw [List.length_cons] at lsum
            refine ⟨_, rfl, _, rfl, _, rfl, tx, _, _, pre.length + 3, rfl, by omega, by omega, sl, ?_⟩
            cases hx3 : exS 32 c3 0 with
            | error e0 => exact .inr ⟨(fun x hx hw => by rw [h3] at hx; rw [w2, List.mem_singleton] at hw; exact (exS_err hx3).2 x hx hw), (qE _ (.s1 r0 k6 (exS_err hx3).2)).of (by omega)⟩
            | ok c4 =>
              obtain rfl := exS_ok hx3
              refine .inl ⟨32, h3, by rw [w2]; decide, ?_⟩
              have hs4 : tl tx = (pre ++ [40, 48 + kd, 63, 32]) ++ c4 := by rw [hs]; simp
              have e4 : (pre ++ [40, 48 + kd, 63, 32]).length = pre.length + 4 := by rw [List.length_append]; rfl
              rw [List.length_cons] at lsum
              refine ⟨_, rfl, _, 1, rfl, rfl, tx, _, _, rn - 1, pre ++ [40, 48 + kd, 63, 32], c4, rfl, by rw [e4]; omega, by omega, hs4, by omega, by omega, sl, fun e he => ?_, fun t c5 b r1 hp H1 q1 u1 s1 hq1 tu1 => ?_⟩
              · rw [e4] at he
                exact qE _ (.y r0 k6 he)
              · rw [e4] at hp
                obtain ⟨mid, em, eb, sz, _⟩ := hp.left _ _ _ _ rfl
                refine ⟨q1, _, rfl, SqT.of hq1, rfl, _, _, rfl, _, _, rfl, _, _, rfl, rfl, ?_⟩
                have hs5 : tl tx = (pre ++ [40, 48 + kd, 63, 32] ++ mid) ++ c5 := by rw [hs4, em]; simp
                have h5 := head_at (n := b) hs5 (by rw [List.length_append, e4, eb])
                have lm : c4.length = mid.length + c5.length := by rw [em, List.length_append]
                refine ⟨_, rfl, _, rfl, _, rfl, tx, _, _, b, rfl, rfl, by omega, sl, ?_⟩
                cases hx5 : exS 32 c5 0 with
                | error e0 => exact .inr ⟨(fun x hx hw => by rw [h5] at hx; rw [w2, List.mem_singleton] at hw; exact (exS_err hx5).2 x hx hw), (qE _ (.s2 r0 k6 hp (exS_err hx5).2)).same s1⟩
                | ok c6 =>
                  obtain rfl := exS_ok hx5
                  refine .inl ⟨32, h5, by rw [w2]; decide, ?_⟩
                  have hs6 : tl tx = (pre ++ [40, 48 + kd, 63, 32] ++ mid ++ [32]) ++ c6 := by rw [hs5]; simp
                  have e6 : (pre ++ [40, 48 + kd, 63, 32] ++ mid ++ [32]).length = b + 1 := by rw [List.length_append, List.length_append, e4, eb]; rfl
                  rw [List.length_cons] at lm
                  refine ⟨_, rfl, tx, _, _, r1, pre ++ [40, 48 + kd, 63, 32] ++ mid ++ [32], c6, rfl, by rw [e6]; omega, rfl, hs6, by omega, by omega, sl, fun e he => ?_, fun t2 c7 b2 r2 hp2 H2 q2 u2 s2 hq2 tu2 => ?_⟩
                  · rw [e6] at he
                    exact (qE _ (.n r0 k6 hp he)).same s1
                  · rw [e6] at hp2
                    obtain ⟨mid2, em2, eb2, sz2, _⟩ := hp2.left _ _ _ _ rfl
                    refine ⟨q2, _, rfl, SqT.of hq2, rfl, _, _, rfl, _, _, rfl, _, _, rfl, rfl, ?_⟩
                    have hs7 : tl tx = (pre ++ [40, 48 + kd, 63, 32] ++ mid ++ [32] ++ mid2) ++ c7 := by rw [hs6, em2]; simp
                    have h7 := head_at (n := b2) hs7 (by rw [List.length_append, e6, eb2])
                    have lm2 : c6.length = mid2.length + c7.length := by rw [em2, List.length_append]
                    refine ⟨_, rfl, _, rfl, _, rfl, (show 3 ≤ sizeLine by decide), fun p3 n3 => ?_⟩
                    have s3 := same_new (o := HO.tup [.int ((kd : Nat) : Int), u1, u2]) n3
                    refine ⟨_, rfl, _, rfl, tx, _, _, b2, rfl, rfl, by omega, sl, ?_⟩
                    cases hx7 : exS 41 c7 0 with
                    | error e0 => exact .inr ⟨(fun x hx hw => by rw [h7] at hx; rw [w3, List.mem_singleton] at hw; exact (exS_err hx7).2 x hx hw), (qE _ (.s3 r0 k6 hp hp2 (exS_err hx7).2)).same (s1.trans (s2.trans s3))⟩
                    | ok c8 =>
                      obtain rfl := exS_ok hx7
                      refine .inl ⟨41, h7, by rw [w3]; decide, ?_⟩
                      refine ⟨_, rfl, (show 3 ≤ sizeLine by decide), fun p4 n4 => ?_⟩
                      have s4 := same_new (o := HO.tup [V.ref p3, .int (((b2 : Nat) : Int) + 1), .int ((r2 : Nat) : Int)]) n4
                      refine q _ _ _ _ (.tst r0 k6 hp hp2) _ p4 _ (s1.trans (s2.trans (s3.trans s4))) upd_same ?_
                      exact .tup (s4 _ _ upd_same) (by show 3 ≤ 1000; decide) (.cons (.int _) (.cons ((tu1.same s2).same (s3.trans s4)) (.cons (tu2.same (s3.trans s4)) .nil)))
      · by_cases d : 48 ≤ c ∧ c ≤ 57
        · refine .inl ⟨c, h0, (hsg _).mpr (.inl d), ?_⟩
          obtain ⟨x, rfl⟩ : ∃ x, c = 48 + x := ⟨c - 48, by omega⟩
          refine ⟨_, rfl, _, rfl, tx, _, 48 + x, rfl, rfl, by omega, atI_nat (j := pre.length) h0, rfl, _, rfl, ?_⟩
          refine iteD (by rw [c1]; show (!decide (V.str (sS [48 + x]) = V.str (sS [40]))) = true; rw [decide_eq_false (sS_ne (a := [48 + x]) (b := [40]) (by simp; omega))]; rfl) ?_
          refine ⟨_, rfl, _, rfl, tx, _, 48 + x, rfl, rfl, by omega, atI_nat (j := pre.length) h0, _, _, rfl, int_sign x (by omega), (show 1 ≤ 640 by decide), _, rfl, _, rfl, (show 3 ≤ sizeLine by decide), fun q1 n1 => ?_⟩
          exact q _ _ _ _ (.ans d.1 d.2) _ q1 _ (same_new n1) upd_same (by rw [show 48 + x - 48 = x by omega]; exact .int _)
        · exact .inr ⟨fun e he hw => by
            rw [h0] at he
            cases he
            rcases (hsg _).mp hw with z | z
            · exact d z
            · exact a z, qE _ (.bad fun e he => by cases he; exact ⟨a, d⟩)⟩
end
end Kc

set_option Elab.async false
set_option linter.all false
set_option maxRecDepth 100000
set_option maxHeartbeats 8000000
/-! read_tree, whatever the value is -/
namespace Kc
open PySem PySem.Spec PyProof.Rows L2 Kg Kd Kr Kf Kl TL
def spRdtX (CB : Addr) : Sp := fun vs H Q E => ∃ (v : V) (d : PyData), vs = [v] ∧ Da Kd.nil H v d ∧
  ((∃ s, d = .str s ∧ s.length ≤ 1000 ∧ (∀ e : Nat, Red (tl s) (.error e) → BadAt CB E H e) ∧ ∀ t, Red (tl s) (.ok t) → ∀ H' u, Same H H' → Tu H' u t.d → Q u H') ∨ (isStr d = false ∧ BadAt CB E H (-1)))
section
variable {P : Program} {w : World} {K : PySem.W.Frag} {mg : Str → Option Value} {base : Heap} {f : Addr} {fd : FuncData} {k : Nat}
theorem ok_tatX {CB fS : Addr} {dS : FuncData} {t1 t2 t3 : Tok} (F : Fun K "tree_at" "tree_at" sTat f fd) (B : Bl mg) (GB : FnOk P w K mg base (L2.CX P w) 3 fS dS nBhs (spBhsX CB)) (gB : mg "behind_sign" = some (.ref fS)) (kB : PySem.W.keepIn K (.ref fS) = true) (bB : Binds K dS nBhs []) (dg : mg "DIGITS" = some (.str DIG t1)) (ma : mg "MAX_ANSWER" = some (.int 9 t2)) (mk : mg "MAX_KINDS" = some (.int 6 t3)) (gS : mg "tree_at" = some (.ref f)) (bS : Binds K fd psTat []) : ∀ g : Nat, FnOk P w K mg base (L2.CX P w) (g + 4) f fd psTat (spTatX CB g)
  | 0 => ⟨fun vs H Q E h => by obtain ⟨s, i, r, rn, pre, cs, _, _, _, _, z, _⟩ := h; exact absurd z (Nat.not_lt_zero _), fun A outer s H args us vs Q E _ _ _ _ h => by obtain ⟨s, i, r, rn, pre, cs, _, _, _, _, z, _⟩ := h; exact absurd z (Nat.not_lt_zero _)⟩
  | g + 1 => ok_tatX1 F B GB gB kB bB dg ma mk gS bS (ok_tatX F B GB gB kB bB dg ma mk gS bS g)
theorem ok_rdtX {CB fB fT : Addr} {dB dT : FuncData} {t4 : Tok} (F : Fun K "read_tree" "read_tree" sRdt f fd) (B : Bl mg) (TB : BTC K mg CB fB) (GB : FnOk P w K mg base CX0 1 fB dB ["self", "place"] (spBT CB)) (bB : Binds K dB ["self", "place"] [])
    (GT : FnOk P w K mg base (L2.CX P w) 17 fT dT psTat (spTatX CB 13)) (gT : mg "tree_at" = some (.ref fT)) (kT : PySem.W.keepIn K (.ref fT) = true) (bT : Binds K dT psTat []) (mt : mg "MAX_TESTS" = some (.int 12 t4)) : FnOk P w K mg base (L2.CX P w) 18 f fd ["value"] (spRdtX CB) := by
  refine F.okX scRdt (fun vs H Q E h => ?_) (fun cdv A outer s H vs Q E hr h => ?_)
  · obtain ⟨v, d, rfl, _⟩ := h
    rfl
  · obtain ⟨v, d, rfl, dd, q⟩ := h
    have bg := big1000
    refine ⟨_, (pss_cons (ps_if (pt_not (pt_val (pe_callB call_isi (by rfl) B.isi boot_isinstance (pa_cons (pv 0) (pa_cons (pe_bltn (v := .ty "str") (by rfl) B.str PyProof.Rows.boot_str rfl) pa_nil))))) (pss_one (ps_raise rfl (takes_of rfl rfl rfl rfl) (pmk_oex TB.oex TB.iC TB.tI GB (hr.mono (by decide)) bB .nil pass0 (by rfl) TB.gB (pa_cons (pe_un un_neg pe_int) pa_nil)))) pss_nil)
      (pss_cons (ps_asg (pe_call GT hr (by rfl) gT kT bT .nil (passes_call (takes_of rfl rfl rfl rfl) fun _ _ _ _ h => h) (pa_cons (pv 0) (pa_cons pe_int (pa_cons (pe_glob (v := .int 12) (by rfl) mt ⟨_, rfl⟩) pa_nil)))) (pg_tup rfl (pgs_cons (pg_name (i := 1) scRdt.nd rfl (.inl rfl)) (pgs_cons (pg_name (i := 2) scRdt.nd rfl (.inl rfl)) (pgs_cons (pg_name (i := 3) scRdt.nd rfl (.inl rfl)) pgs_nil)))))
      (pss_cons (ps_if (pt_cmpR op_lt (pv 2) (pe_callB call_len_str (by rfl) B.len PySem.boot_len (pa_cons (pv 0) pa_nil)) (nomark _)) (pss_one (ps_raise rfl (takes_of rfl rfl rfl rfl) (pmk_oex TB.oex TB.iC TB.tI GB (hr.mono (by decide)) bB .nil pass0 (by rfl) TB.gB (pa_cons (pv 2) pa_nil)))) pss_nil)
      (pss_one (ps_ret (pv 1)))))), ?_⟩
    refine ⟨_, rfl, _, _, _, _, isStr d, rfl, .ty _, dd.ty, kit_ty (kt_str d), _, rfl, ?_⟩
    rcases q with ⟨s, rfl, sl, qE, q⟩ | ⟨ns, qE⟩
    · have ev : v = .str s := by cases dd; rfl
      subst ev
      refine iteE (by rfl) ⟨_, rfl, s, 0, 12, 12, [], tl s, rfl, rfl, rfl, rfl, by decide, by decide, sl, fun e he => qE _ (.err he), fun t c' b r' hp H1 q1 u s1 hq1 tu => ?_⟩
      obtain ⟨mid, em, eb, sz, _⟩ := hp.left _ _ _ _ rfl
      have lb : (tl s).length = mid.length + c'.length := by rw [em, List.length_append]
      rw [← len_tl] at lb
      have eb : b = mid.length := by rw [eb]; show 0 + mid.length = _; omega
      refine ⟨q1, _, rfl, SqT.of hq1, rfl, _, _, rfl, _, _, rfl, _, _, rfl, rfl, ?_⟩
      refine ⟨_, rfl, _, rfl, s, rfl, by omega, _, _, rfl, rfl, _, rfl, ?_⟩
      cases c' with
      | nil =>
        rw [List.length_nil] at lb
        exact iteE (decide_eq_false (by omega)) ⟨_, rfl, q t (.all hp) H1 u s1 tu⟩
      | cons c c' =>
        rw [List.length_cons] at lb
        exact iteD (decide_eq_true (by omega)) ⟨_, rfl, bad_raise ((qE _ (.more hp)).same s1)⟩
    · refine iteD (by rw [ns]; rfl) ?_
      exact ⟨1, rfl, bad_raise qE⟩
end
end Kc

set_option Elab.async false
set_option linter.all false
set_option maxRecDepth 100000
set_option maxHeartbeats 4000000
/-! Texts cut at a sign; words, lines, remarks; numerals. -/
namespace Kf
open PySem PySem.Spec PyProof.Rows L2 Kg Kd TL
def cutA (c : Nat) : List Nat → List Nat → List (List Nat)
  | acc, [] => [acc]
  | acc, x :: r => if x = c then acc :: cutA c [] r else cutA c (acc ++ [x]) r
theorem pre_one (c x : Nat) (r : List Nat) : pre [c] (x :: r) = decide (x = c) := by
  unfold pre
  show ([x] == [c]) = _
  by_cases h : x = c
  · subst h; simp
  · simp [h]
theorem spl_one (c : Nat) : ∀ l acc : List Nat, spl [c] 0 acc l = cutA c acc l
  | [], acc => rfl
  | x :: r, acc => by
    show (if pre [c] (x :: r) = true then acc :: spl [c] 0 [] r else spl [c] 0 (acc ++ [x]) r) = if x = c then acc :: cutA c [] r else cutA c (acc ++ [x]) r
    rw [pre_one, spl_one c r, spl_one c r]
    by_cases h : x = c
    · simp [h]
    · simp [h]
theorem split_sS (l : List Nat) {c : Nat} (hc : c < 256) : Txt.split (sS l) (sS [c]) = (cutA c [] l).map sS := by
  rw [← spl_one]
  exact SX.split_S (a := l) (b := [c]) (by simp) (by simp [hc])
theorem cutA_at {c : Nat} : ∀ a acc b : List Nat, c ∉ a → cutA c acc (a ++ c :: b) = (acc ++ a) :: cutA c [] b
  | [], acc, b, _ => by
    show (if c = c then acc :: cutA c [] b else _) = _
    rw [if_pos rfl, List.append_nil]
  | x :: a, acc, b, h => by
    have h1 : x ≠ c := fun e => h (by rw [e]; exact List.mem_cons_self ..)
    show (if x = c then _ else cutA c (acc ++ [x]) (a ++ c :: b)) = _
    rw [if_neg h1, cutA_at a _ b fun z => h (List.mem_cons_of_mem _ z)]
    simp
theorem cutA_end {c : Nat} : ∀ a acc : List Nat, c ∉ a → cutA c acc a = [acc ++ a]
  | [], acc, _ => by
    show [acc] = _
    rw [List.append_nil]
  | x :: a, acc, h => by
    have h1 : x ≠ c := fun e => h (by rw [e]; exact List.mem_cons_self ..)
    show (if x = c then _ else cutA c (acc ++ [x]) a) = _
    rw [if_neg h1, cutA_end a _ fun z => h (List.mem_cons_of_mem _ z)]
    simp
theorem cutA_len (c : Nat) : ∀ l acc : List Nat, (cutA c acc l).length ≤ l.length + 1
  | [], acc => Nat.le_refl _
  | x :: r, acc => by
    show (if x = c then acc :: cutA c [] r else cutA c (acc ++ [x]) r).length ≤ _
    have h1 := cutA_len c r []
    have h2 := cutA_len c r (acc ++ [x])
    split
    · simp; omega
    · simp; omega
/-- each part is no longer than the text -/
theorem cutA_part (c : Nat) : ∀ (l acc w : List Nat), w ∈ cutA c acc l → w.length ≤ acc.length + l.length
  | [], acc, w, h => by
    have : w = acc := List.mem_singleton.mp h
    subst this; simp
  | x :: r, acc, w, h => by
    have h' : w ∈ (if x = c then acc :: cutA c [] r else cutA c (acc ++ [x]) r) := h
    split at h'
    · rcases List.mem_cons.mp h' with e | e
      · subst e; simp
      · have := cutA_part c r [] w e
        simp at this ⊢; omega
    · have := cutA_part c r _ w h'
      simp at this ⊢; omega
/-! ### words -/
def wordsL (l : List Nat) : List (List Nat) := (cutA 32 [] l).filter fun w => decide (0 < w.length)
theorem wordsL_sp (l : List Nat) : wordsL (32 :: l) = wordsL l := by
  unfold wordsL
  have e : cutA 32 [] (32 :: l) = [] :: cutA 32 [] l := cutA_at [] [] l (by simp)
  rw [e]; rfl
theorem wordsL_word {w : List Nat} (l : List Nat) (h0 : w ≠ []) (h : 32 ∉ w) : wordsL (w ++ 32 :: l) = w :: wordsL l := by
  unfold wordsL
  rw [cutA_at w [] l h, List.nil_append, List.filter_cons_of_pos (by simp; exact List.length_pos_iff.mpr h0)]
theorem wordsL_last {w : List Nat} (h0 : w ≠ []) (h : 32 ∉ w) : wordsL w = [w] := by
  unfold wordsL
  rw [cutA_end w [] h, List.nil_append, List.filter_cons_of_pos (by simp; exact List.length_pos_iff.mpr h0)]; rfl
theorem wordsL_nil : wordsL [] = [] := rfl
theorem wordsL_len (l : List Nat) : (wordsL l).length ≤ l.length + 1 := Nat.le_trans (List.length_filter_le _ _) (cutA_len 32 l [])
theorem wordsL_mem {l w : List Nat} (h : w ∈ wordsL l) : w ≠ [] ∧ w.length ≤ l.length := by
  obtain ⟨h1, h2⟩ := List.mem_filter.mp h
  have := cutA_part 32 l [] w h1
  refine ⟨List.length_pos_iff.mp (by simpa using h2), by simpa using this⟩
/-- some blanks ahead -/
theorem wordsL_sps (n : Nat) (l : List Nat) : wordsL (List.replicate n 32 ++ l) = wordsL l := by
  induction n with
  | zero => rfl
  | succ n ih => rw [List.replicate_succ, List.cons_append, wordsL_sp, ih]
/-! ### remarks -/
def remL (l : List Nat) : List Nat := l.takeWhile fun x => decide (x ≠ 35)
theorem par_rem : ∀ l acc : List Nat, (35 ∈ l → ∃ q, par [35] acc l = some (acc ++ remL l, q)) ∧ (35 ∉ l → par [35] acc l = none ∧ remL l = l)
  | [], acc => ⟨fun h => (nomatch h), fun _ => ⟨rfl, rfl⟩⟩
  | x :: r, acc => by
    have hp := pre_one 35 x r
    have step : par [35] acc (x :: r) = if x = 35 then some (acc, (x :: r).drop 1) else par [35] (acc ++ [x]) r := by
      show (if pre [35] (x :: r) = true then some (acc, (x :: r).drop 1) else par [35] (acc ++ [x]) r) = _
      rw [hp]
      by_cases h : x = 35 <;> simp [h]
    rw [step]
    by_cases h : x = 35
    · subst h
      rw [if_pos rfl]
      refine ⟨fun _ => ⟨r, ?_⟩, fun z => absurd (List.mem_cons_self ..) z⟩
      simp [remL]
    · rw [if_neg h]
      have er : remL (x :: r) = x :: remL r := by unfold remL; rw [List.takeWhile_cons_of_pos (by simpa using h)]
      obtain ⟨h1, h2⟩ := par_rem r (acc ++ [x])
      refine ⟨fun z => ?_, fun z => ?_⟩
      · rcases List.mem_cons.mp z with e | e
        · exact absurd e.symm h
        · obtain ⟨q, hq⟩ := h1 e
          exact ⟨q, by rw [hq, er]; simp⟩
      · obtain ⟨a1, a2⟩ := h2 fun e => z (List.mem_cons_of_mem _ e)
        exact ⟨a1, by rw [er, a2]⟩
theorem part_rem (l : List Nat) : (Txt.partition (sS l) (sS [35])).1 = sS (remL l) := by
  by_cases h : 35 ∈ l
  · obtain ⟨q, hq⟩ := (par_rem l []).1 h
    have e : Txt.partition (sS l) (sS [35]) = _ := SX.partition_some (a := l) (b := [35]) (by simp) hq
    rw [e]; rfl
  · obtain ⟨h1, h2⟩ := (par_rem l []).2 h
    have e : Txt.partition (sS l) (sS [35]) = _ := SX.partition_none (a := l) (b := [35]) (by simp) h1
    rw [e, h2]; rfl
theorem remL_len (l : List Nat) : (remL l).length ≤ l.length := (List.takeWhile_sublist _).length_le
/-- nothing is cut -/
theorem remL_free {l : List Nat} (h : 35 ∉ l) : remL l = l := ((par_rem l []).2 h).2
theorem remL_at {l : List Nat} (m : List Nat) (h : 35 ∉ l) : remL (l ++ 35 :: m) = l := by
  unfold remL
  rw [List.takeWhile_append_of_pos (fun x hx => by simp; exact fun e => h (e ▸ hx))]
  simp
/-! ### lines with words -/
def lwL (l : List Nat) : List (Nat × List (List Nat)) := ((cutA 10 [] l).zipIdx.map fun p => (p.2 + 1, wordsL (remL p.1))).filter fun p => decide (0 < p.2.length)
/-- the words alone -/
def wlL (l : List Nat) : List (List (List Nat)) := ((cutA 10 [] l).map fun p => wordsL (remL p)).filter fun p => decide (0 < p.length)
theorem lw_wl (l : List Nat) : (lwL l).map (·.2) = wlL l := by
  unfold lwL wlL
  have aux : ∀ (xs : List (List Nat)) (k : Nat), (((xs.zipIdx k).map fun p => (p.2 + 1, wordsL (remL p.1))).filter fun p => decide (0 < p.2.length)).map (·.2) = (xs.map fun p => wordsL (remL p)).filter fun p => decide (0 < p.length) := by
    intro xs
    induction xs with
    | nil => intro k; rfl
    | cons x xs ih =>
      intro k
      rw [List.zipIdx_cons, List.map_cons, List.map_cons, List.filter_cons, List.filter_cons]
      cases decide (0 < (wordsL (remL x)).length) with
      | true =>
        simp only [if_true, List.map_cons]
        rw [ih]
      | false =>
        simp only [Bool.false_eq_true, if_false]
        exact ih _
  exact aux _ 0
/-! ### lines joined and cut -/
theorem cut_join {c : Nat} : ∀ (ls : List (List Nat)), ls ≠ [] → (∀ l ∈ ls, c ∉ l) → ∀ t, cutA c [] (joinL [c] ls ++ c :: t) = ls ++ cutA c [] t
  | [], h, _, _ => absurd rfl h
  | [x], _, h, t => by
    show cutA c [] (x ++ c :: t) = _
    rw [cutA_at x [] t (h x (List.mem_singleton.mpr rfl))]; rfl
  | x :: y :: r, _, h, t => by
    show cutA c [] ((x ++ ([c] ++ joinL [c] (y :: r))) ++ c :: t) = _
    have e : (x ++ ([c] ++ joinL [c] (y :: r))) ++ c :: t = x ++ c :: (joinL [c] (y :: r) ++ c :: t) := by simp
    rw [e, cutA_at x [] _ (h x (List.mem_cons_self ..)), cut_join (y :: r) (by simp) (fun l hl => h l (List.mem_cons_of_mem _ hl))]; rfl
theorem cut_join0 {c : Nat} : ∀ (ls : List (List Nat)), ls ≠ [] → (∀ l ∈ ls, c ∉ l) → cutA c [] (joinL [c] ls) = ls
  | [], h, _ => absurd rfl h
  | [x], _, h => by
    show cutA c [] x = _
    rw [cutA_end x [] (h x (List.mem_singleton.mpr rfl))]; rfl
  | x :: y :: r, _, h => by
    show cutA c [] (x ++ ([c] ++ joinL [c] (y :: r))) = _
    have e : x ++ ([c] ++ joinL [c] (y :: r)) = x ++ c :: joinL [c] (y :: r) := by simp
    rw [e, cutA_at x [] _ (h x (List.mem_cons_self ..)), cut_join0 (y :: r) (by simp) (fun l hl => h l (List.mem_cons_of_mem _ hl))]; rfl
theorem joinL_len (S : List Nat) : ∀ ls : List (List Nat), (joinL S ls).length ≤ (ls.map List.length).sum + ls.length * S.length
  | [] => by simp [joinL]
  | [x] => by simp [joinL]
  | x :: y :: r => by
    have := joinL_len S (y :: r)
    show (x ++ (S ++ joinL S (y :: r))).length ≤ _
    simp only [List.length_append, List.map_cons, List.sum_cons, List.length_cons] at this ⊢
    rw [Nat.add_mul] at this ⊢
    rw [Nat.add_mul]
    omega
/-! ### numerals -/
def isDg (c : Nat) : Bool := decide (48 ≤ c ∧ c ≤ 57)
def numW : List Nat → Option Nat
  | [a] => if isDg a = true then some (a - 48) else none
  | [a, b] => if isDg a = true ∧ isDg b = true ∧ a ≠ 48 then some (10 * (a - 48) + (b - 48)) else none
  | _ => none
theorem int_two : ∀ a : Fin 10, ∀ b : Fin 10, PySem.intText? (sS [48 + a.val, 48 + b.val]) = some (((10 * a.val + b.val : Nat) : Nat) : Int) := by decide +kernel
theorem int_numW {w : List Nat} {n : Nat} (h : numW w = some n) : PySem.intText? (sS w) = some ((n : Nat) : Int) ∧ w.length ≤ 2 ∧ n ≤ 99 := by
  unfold numW at h
  split at h
  · rename_i a
    split at h
    · rename_i c
      have c := of_decide_eq_true c
      cases h
      have := int_sign (a - 48) (by omega)
      rw [show 48 + (a - 48) = a by omega] at this
      exact ⟨this, by simp, by omega⟩
    · cases h
  · rename_i a b
    split at h
    · rename_i c
      have c1 := of_decide_eq_true c.1
      have c2 := of_decide_eq_true c.2.1
      cases h
      have := int_two ⟨a - 48, by omega⟩ ⟨b - 48, by omega⟩
      simp only [] at this
      rw [show 48 + (a - 48) = a by omega, show 48 + (b - 48) = b by omega] at this
      exact ⟨this, by simp, by omega⟩
    · cases h
  · cases h
def numsW (ws : List (List Nat)) : Option (List Nat) := if ws.all (fun w => (numW w).isSome) = true then some (ws.map fun w => (numW w).getD 0) else none
theorem numW_one {n : Nat} (h : n < 10) : numW [48 + n] = some n := by
  show (if isDg (48 + n) = true then some (48 + n - 48) else none) = _
  rw [if_pos (by unfold isDg; rw [decide_eq_true_iff]; omega)]
  congr 1; omega
theorem numsW_ones (l : List Nat) (h : ∀ x ∈ l, x < 10) : numsW (l.map fun x => [48 + x]) = some l := by
  unfold numsW
  rw [if_pos (List.all_eq_true.mpr fun w hw => by
    obtain ⟨x, hx, rfl⟩ := List.mem_map.mp hw
    rw [numW_one (h x hx)]; rfl), List.map_map]
  congr 1
  rw [List.map_congr_left (g := id) fun x hx => by
    show (numW [48 + x]).getD 0 = x
    rw [numW_one (h x hx)]; rfl]
  simp
end Kf

set_option Elab.async false
set_option linter.all false
set_option maxRecDepth 100000
set_option maxHeartbeats 4000000
/-! The texts of kinds. -/
namespace Kf
open PySem PySem.Spec PyProof.Rows L2 Kg Kd TL
def kindL : List Nat := [107, 105, 110, 100]
def closedL : List Nat := [99, 108, 111, 115, 101, 100]
def hollowL : List Nat := [104, 111, 108, 108, 111, 119]
def severalL : List Nat := [115, 101, 118, 101, 114, 97, 108]
def singleL : List Nat := [115, 105, 110, 103, 108, 101]
/-- the words of a kind -/
def kindW (es : List (List Nat)) (cl ho : List Nat) (k : Nat) : List (List Nat) := (kindL :: ((es[k]?).getD []).map fun e => [48 + e]) ++ (if k ∈ cl then [closedL] else []) ++ (if k ∈ ho then [hollowL] else [])
/-- its line, without the line feed -/
def kindN (es : List (List Nat)) (cl ho : List Nat) (k : Nat) : List Nat := joinL [32] (kindW es cl ho k)
def kindT (es : List (List Nat)) (cl ho : List Nat) (k : Nat) : List Nat := kindN es cl ho k ++ [10]
def firstL (sv : Bool) : List Nat := if sv = true then severalL else singleL
def kindsT (es : List (List Nat)) (cl ho : List Nat) (sv : Bool) : List Nat := firstL sv ++ [10] ++ (((List.range es.length).map fun k => kindT es cl ho k)).flatten
theorem word_ok {es : List (List Nat)} {cl ho : List Nat} {k : Nat} (lo : ∀ l, es[k]? = some l → ∀ x ∈ l, x < 10) : ∀ w ∈ kindW es cl ho k, w ≠ [] ∧ 32 ∉ w ∧ 35 ∉ w ∧ 10 ∉ w ∧ w.length ≤ 6 := by
  intro w hw
  unfold kindW at hw
  have lit : ∀ m : List Nat, (m = kindL ∨ m = closedL ∨ m = hollowL) → m ≠ [] ∧ 32 ∉ m ∧ 35 ∉ m ∧ 10 ∉ m ∧ m.length ≤ 6 := by
    rintro m (rfl | rfl | rfl) <;> decide
  rcases List.mem_append.mp hw with h | h
  · rcases List.mem_append.mp h with h | h
    · rcases List.mem_cons.mp h with h | h
      · exact lit w (.inl h)
      · obtain ⟨e, he, rfl⟩ := List.mem_map.mp h
        have e10 : e < 10 := by
          cases hk : es[k]? with
          | none => rw [hk] at he; exact absurd he (by simp)
          | some l => rw [hk] at he; exact lo l hk e he
        refine ⟨by simp, ?_, ?_, ?_, by simp⟩ <;> simp <;> omega
    · split at h
      · exact lit w (.inr (.inl (List.mem_singleton.mp h)))
      · cases h
  · split at h
    · exact lit w (.inr (.inr (List.mem_singleton.mp h)))
    · cases h
theorem kindW_len {es : List (List Nat)} {cl ho : List Nat} {k : Nat} (ll : ∀ l, es[k]? = some l → l.length ≤ 6) : (kindW es cl ho k).length ≤ 9 := by
  have h : ((es[k]?).getD []).length ≤ 6 := by
    cases hk : es[k]? with
    | none => simp
    | some l => exact ll l hk
  unfold kindW
  rw [List.length_append, List.length_append, List.length_cons, List.length_map]
  have h1 : (if k ∈ cl then [closedL] else []).length ≤ 1 := by split <;> simp
  have h2 : (if k ∈ ho then [hollowL] else []).length ≤ 1 := by split <;> simp
  omega
theorem sum_few {c : Nat} : ∀ {ws : List (List Nat)}, (∀ w ∈ ws, w.length ≤ c) → (ws.map List.length).sum ≤ ws.length * c
  | [], _ => by simp
  | w :: r, h => by
    have h1 := h w (List.mem_cons_self ..)
    have h2 := sum_few (ws := r) fun x hx => h x (List.mem_cons_of_mem _ hx)
    rw [List.map_cons, List.sum_cons, List.length_cons, Nat.add_mul]
    omega
theorem eld_lo {es : List (List Nat)} {sv : Bool} (E : Eld es sv) (k : Nat) : ∀ l, es[k]? = some l → ∀ x ∈ l, x < 10 := fun l hl x hx => by
  have h1 := E.low k l hl x hx
  have h2 := (List.getElem?_eq_some_iff.mp hl).1
  have := E.hi
  omega
theorem eld_len {es : List (List Nat)} {sv : Bool} (E : Eld es sv) (k : Nat) : ∀ l, es[k]? = some l → l.length ≤ 6 := fun l hl => by
  have h2 := (List.getElem?_eq_some_iff.mp hl).1
  have := E.hi
  have s : Som k l := ⟨E.asc k l hl, E.low k l hl⟩
  have := s.len
  omega
theorem kindN_len {es : List (List Nat)} {sv : Bool} (E : Eld es sv) (cl ho : List Nat) (k : Nat) : (kindN es cl ho k).length ≤ 63 := by
  have h1 := joinL_len [32] (kindW es cl ho k)
  have h2 := sum_few (c := 6) (ws := kindW es cl ho k) fun w hw => (word_ok (cl := cl) (ho := ho) (eld_lo E k) w hw).2.2.2.2
  have h3 := kindW_len (cl := cl) (ho := ho) (eld_len E k)
  unfold kindN
  simp only [List.length_singleton, Nat.mul_one] at h1
  omega
/-! ### what a line tells -/
def kpW (ws : List (List Nat)) : Option (List Nat × Bool × Bool) :=
  if ws.head? = some kindL then
    let r := ws.drop 1
    let h := decide (r.getLast? = some hollowL)
    let r1 := if h = true then r.dropLast else r
    let c := decide (r1.getLast? = some closedL)
    let r2 := if c = true then r1.dropLast else r1
    (numsW r2).map fun ns => (ns, c, h)
  else none
theorem last_digit {l : List Nat} {w : List Nat} (hw : 1 < w.length) : (l.map fun e => [48 + e]).getLast? ≠ some w := fun h => by
  obtain ⟨e, _, rfl⟩ := List.mem_map.mp (List.mem_of_getLast? h)
  simp at hw
theorem kpW_kind {es : List (List Nat)} {cl ho : List Nat} {k : Nat} {l : List Nat} (hl : es[k]? = some l) (lo : ∀ x ∈ l, x < 10) : kpW (kindW es cl ho k) = some (l, decide (k ∈ cl), decide (k ∈ ho)) := by
  unfold kindW
  rw [hl]
  have hn := numsW_ones l lo
  unfold kpW
  show _ = _
  rw [show ((some l).getD [] : List Nat) = l from rfl]
  have d1 := last_digit (l := l) (w := hollowL) (by decide)
  have d2 := last_digit (l := l) (w := closedL) (by decide)
  have n1 : closedL ≠ hollowL := by decide
  generalize (l.map fun e => [48 + e]) = m at hn d1 d2 ⊢
  by_cases c1 : k ∈ cl <;> by_cases c2 : k ∈ ho <;> simp [c1, c2, hn, d1, d2, n1]
/-! ### words as data -/
def chOk (w : List Nat) : Prop := ∀ c ∈ w, c < 1114112
theorem kindW_ch {es : List (List Nat)} {cl ho : List Nat} {k : Nat} (lo : ∀ l, es[k]? = some l → ∀ x ∈ l, x < 10) : ∀ w ∈ kindW es cl ho k, chOk w := by
  intro w hw
  unfold kindW at hw
  have lit : ∀ m : List Nat, (m = kindL ∨ m = closedL ∨ m = hollowL) → chOk m := by
    have aux : ∀ w : List Nat, (w.all fun c => decide (c < 1114112)) = true → chOk w := fun w h c hc => of_decide_eq_true (List.all_eq_true.mp h c hc)
    rintro m (rfl | rfl | rfl) <;> exact aux _ (by decide)
  rcases List.mem_append.mp hw with h | h
  · rcases List.mem_append.mp h with h | h
    · rcases List.mem_cons.mp h with h | h
      · exact lit w (.inl h)
      · obtain ⟨e, he, rfl⟩ := List.mem_map.mp h
        have e10 : e < 10 := by
          cases hk : es[k]? with
          | none => rw [hk] at he; exact absurd he (by simp)
          | some l => rw [hk] at he; exact lo l hk e he
        intro c hc
        rw [List.mem_singleton.mp hc]
        omega
    · split at h
      · exact lit w (.inr (.inl (List.mem_singleton.mp h)))
      · cases h
  · split at h
    · exact lit w (.inr (.inr (List.mem_singleton.mp h)))
    · cases h
def wsD (ws : List (List Nat)) : PyData := .list (ws.map fun w => .str (sS w))
theorem lay_ws : ∀ ws : List (List Nat), (∀ w ∈ ws, chOk w) → PyData.canLayAll0 (ws.map fun w => .str (sS w)) = true
  | [], _ => rfl
  | w :: r, h => by
    show (PyData.strOk (sS w) && PyData.canLayAll0 (r.map fun w => .str (sS w))) = true
    rw [lay_ws r fun x hx => h x (List.mem_cons_of_mem _ hx), Bool.and_true]
    show (sS w).cps.all (· < 0x110000) = true
    rw [← Array.all_toList]
    exact List.all_eq_true.mpr fun c hc => decide_eq_true (h w (List.mem_cons_self ..) c hc)
theorem dep_ws : ∀ ws : List (List Nat), PyData.depthAll (ws.map fun w => .str (sS w)) = 0
  | [] => rfl
  | w :: r => by
    show max 0 (PyData.depthAll (r.map fun w => .str (sS w))) = 0
    rw [dep_ws r]; rfl
theorem sh_ws {ws : List (List Nat)} (h : ∀ w ∈ ws, chOk w) : SeqAt.shaped (wsD ws) = true := by
  unfold SeqAt.shaped
  show (PyData.canLayAll0 _ && decide (PyData.depthAll _ + 1 ≤ 64)) = true
  rw [lay_ws ws h, dep_ws]; rfl
theorem eqv_wsA : ∀ a b : List (List Nat), PyData.eqvAll (a.map fun w => .str (sS w)) (b.map fun w => .str (sS w)) = decide (a = b)
  | [], [] => by simp [PyData.eqvAll]
  | [], _ :: _ => by simp [PyData.eqvAll]
  | _ :: _, [] => by simp [PyData.eqvAll]
  | x :: a, y :: b => by
    have z := eqv_wsA a b
    simp only [List.map_cons, PyData.eqvAll, z, PyData.eqv]
    by_cases h : x = y
    · subst h; simp
    · have h' : ¬ sS x = sS y := fun e => h (by have := congrArg tl e; exact this)
      simp [h, h']
theorem eqv_ws (a b : List (List Nat)) : PyData.eqv (wsD a) (wsD b) = decide (a = b) := by
  unfold wsD
  simp only [PyData.eqv]
  exact eqv_wsA a b
theorem dpAll_ws {K : PySem.W.Frag} {H : Hp} : ∀ ws : List (List Nat), DpAll K H (ws.map fun w => V.str (sS w)) (ws.map fun w => .str (sS w))
  | [] => .nil
  | w :: r => .cons (.str _) (dpAll_ws r)
theorem dp_ws {K : PySem.W.Frag} {H : Hp} {a : Addr} {ws : List (List Nat)} (h : H a = some (.lst (ws.map fun w => V.str (sS w)))) : Dp K H (.ref a) (wsD ws) := .lst (SqL.of h) (dpAll_ws ws)
/-! ### cuts from behind -/
theorem cut_last (xs : List V) : cutV xs (some (-1)) none = xs.drop (xs.length - 1) := by
  unfold cutV
  have e : HT.sIx xs.length 0 (some (-1)) = xs.length - 1 := by
    unfold HT.sIx
    simp
    omega
  rw [e, HT.sIx_none, List.take_of_length_le (by rw [List.length_drop]; omega)]
theorem cut_init (xs : List V) : cutV xs none (some (-1)) = xs.dropLast := by
  unfold cutV
  have e : HT.sIx xs.length xs.length (some (-1)) = xs.length - 1 := by
    unfold HT.sIx
    simp
    omega
  rw [e, HT.sIx_none, List.drop_zero, List.dropLast_eq_take, Nat.sub_zero]
theorem cut_tail (xs : List V) : cutV xs (some 1) none = xs.drop 1 := by
  unfold cutV
  have e : HT.sIx xs.length 0 (some 1) = min 1 xs.length := by
    have := HT.sIx_nat (n := xs.length) (d := 0) 1
    exact this
  rw [e, HT.sIx_none]
  cases xs with
  | nil => rfl
  | cons x r =>
    have : min 1 (x :: r).length = 1 := by simp
    rw [this, List.take_of_length_le (by rw [List.length_drop]; omega)]
end Kf

set_option Elab.async false
set_option linter.all false
set_option maxRecDepth 100000
set_option maxHeartbeats 8000000
/-! what the program told; what is due: by a list of what is awaited -/
namespace Kc
open PySem PySem.Spec PyProof.Rows L2 Kg Kd Kr Kf Kl TL
abbrev sTo48 : Stmt := topS 24
abbrev sDu48 : Stmt := topS 23
theorem scTo48 : FnScope ["_law_value", "_law_found", "error"] ["_law_value"] (defScope sTo48) := ⟨rfl, rfl, rfl, by decide +kernel, rfl, by decide +kernel, by decide +kernel⟩
abbrev nDu48 : List Str := ["_law_text_here", "_law_waits", "_law_trees", "_law_size", "_law_at", "_law_sign", "_law_want", "_law_no", "_law_yes", "_law_kind"]
theorem scDu48 : FnScope nDu48 ["_law_text_here"] (defScope sDu48) := ⟨rfl, rfl, rfl, by decide +kernel, rfl, by decide +kernel, by decide +kernel⟩
def spTo48 : Sp := fun vs H Q _ => ∃ (v : V) (d : PyData), vs = [v] ∧ Da Kd.nil H v d ∧
  ((∃ s, d = .str s ∧ s.length ≤ 1000 ∧ (∀ e : Nat, Red (tl s) (.error e) → ∀ H', Same H H' → Q (.int ((e : Nat) : Int)) H') ∧ ∀ t, Red (tl s) (.ok t) → ∀ H' r u, Same H H' → H' r = some (.lst [u]) → Tu H' u t.d → Q (.ref r) H') ∨ (isStr d = false ∧ ∀ H', Same H H' → Q (.int (-1)) H'))
/-- what is awaited, as the law has it -/
def wtW : Wt → List Nat
  | .tree => [116, 114, 101, 101]
  | .kind => [107, 105, 110, 100]
  | .sg c => [c]
abbrev wtV (x : Wt) : V := .str (sS (wtW x))
def SvAt (H : Hp) (v : V) : Sv → Prop
  | .tr t => Tu H v t.d
  | .kd k => v = .int (-1 - ((k : Nat) : Int))
theorem SvAt.kf {H H' : Hp} {v : V} {x : Sv} (h : SvAt H v x) (k : KF H H') : SvAt H' v x := by
  cases x with
  | tr t => exact Tu.keep k h
  | kd k => exact h
/-- the values lie as what is awaited wants them -/
def need : List Wt → List Sv → Prop
  | [], S => ∃ t, S = [.tr t]
  | .tree :: W, S => ∀ t, need W (.tr t :: S)
  | .kind :: W, S => ∀ k, need W (.kd k :: S)
  | .sg x :: W, S => (x = 63 ∨ x = 32 ∧ True) ∧ need W S ∨ x = 41 ∧ ∃ n y k S', S = .tr n :: .tr y :: .kd k :: S' ∧ need W (.tr (.tst k y n) :: S')
theorem need_op {W : List Wt} {S : List Sv} (h : need (.tree :: W) S) : need (.kind :: .sg 63 :: .sg 32 :: .tree :: .sg 32 :: .tree :: .sg 41 :: W) S := by
  intro k
  refine .inl ⟨.inl rfl, .inl ⟨.inr ⟨rfl, trivial⟩, fun t => .inl ⟨.inr ⟨rfl, trivial⟩, fun u => .inr ⟨rfl, u, t, k, S, rfl, h _⟩⟩⟩⟩
section
variable {P : Program} {w : World} {K : PySem.W.Frag} {mg : Str → Option Value} {base : Heap} {f : Addr} {fd : FuncData} {k : Nat}
theorem ok_to48 {CB fB fR : Addr} {dR : FuncData} (F : Fun K "_law_told" "_law_told" sTo48 f fd) (TB : BTC K mg CB fB) (GR : FnOk P w K mg base (L2.CX P w) 18 fR dR ["value"] (spRdtX CB)) (gR : mg "read_tree" = some (.ref fR)) (kR : PySem.W.keepIn K (.ref fR) = true) (bR : Binds K dR ["value"] []) : FnOk P w K mg base CX0 19 f fd ["_law_value"] spTo48 := by
  refine F.ok scTo48 (fun vs H Q E h => ?_) (fun cdv A outer s H vs Q E hr h => ?_)
  · obtain ⟨v, d, rfl, _⟩ := h
    rfl
  · obtain ⟨v, d, rfl, dd, q⟩ := h
    refine ⟨_, pss_cons (ps_try_as (i := 2) rfl rfl scTo48.nd rfl rfl ⟨rfl, by decide, .inl TB.gB⟩ takes0
        (fun W pn xe tk _ => pss_one (ps_set (i := 1) scTo48.nd rfl (.inl rfl) (pe_callS GR hr (by rfl) gR kR bR (fun σ => passAt tk σ) (pa_cons (pv 0) pa_nil))))
        (fun a oe cls d pn hz hf => pss_one (ps_ret (pe_xf TB.xf TB.np hz hf (pv 2)))))
      (pss_one (ps_ret (pe_lst (pa_cons (pv 1) pa_nil)))), ?_⟩
    refine ⟨_, rfl, v, d, rfl, dd, ?_⟩
    rcases q with ⟨s, rfl, sl, qE, q⟩ | ⟨ns, qE⟩
    · refine .inl ⟨s, rfl, sl, fun e he H' dx s1 nd hd => ?_, fun t ht H' u s1 tu => ?_⟩
      · refine ⟨true, TB.te, fun _ a na => ?_, fun z => nomatch z⟩
        exact ⟨_, rfl, rfl, rfl, dx, _, _, rfl, hd, rfl, qE e he H' s1⟩
      · refine ⟨_, rfl, (by show 1 ≤ sizeLine; rw [sizeLine_eq]; decide), fun r nr => ?_⟩
        have s2 := same_new (o := HO.lst [u]) nr
        exact q t ht _ r u (s1.trans s2) upd_same (tu.same s2)
    · refine .inr ⟨ns, fun H' dx s1 nd hd => ?_⟩
      refine ⟨true, TB.te, fun _ a na => ?_, fun z => nomatch z⟩
      exact ⟨_, rfl, rfl, rfl, dx, _, _, rfl, hd, rfl, qE H' s1⟩
abbrev XD (P : Program) (w : World) (K : PySem.W.Frag) (mg : Str → Option Value) (base : Heap) (f : Addr) (cdv : Value) (A : Around) (out : List Env) (s : Shared) (H : Hp) (E : XK) : Cx := (cxOf CX0 P w K mg base nDu48 "_law_due" (defScope sDu48) f cdv A out s H E).nox
def forB48 (s : Stmt) : List Stmt := match s with
  | .For _ _ b _ _ => b
  | _ => []
def duS (i : Nat) : Stmt := (forB48 ((defBody sDu48).getD 1 (.Pass ⟨0, 0, 0, 0⟩))).getD i (.Pass ⟨0, 0, 0, 0⟩)
abbrev SD (x : Str) (Wa Ta : Addr) (z i c : Nat) (wv : Option V) (y7 y8 y9 : Option V) : L2.St := [some (.str x), some (.ref Wa), some (.ref Ta), some (.int ((z : Nat) : Int)), some (.int ((i : Nat) : Int)), some (.str (sS [c])), wv, y7, y8, y9]
/-- the lists of the machine -/
structure Mc (H0 H : Hp) (Wa Ta : Addr) (us : List V) (W : List Wt) (S : List Sv) : Prop where
  sm : Same H0 H
  nw : H0 Wa = none
  nt : H0 Ta = none
  ne : Wa ≠ Ta
  hw : H Wa = some (.lst ((W.map wtV).reverse))
  ht : H Ta = some (.lst us.reverse)
  sv : Paired (SvAt H) us S
theorem words : tl (Str.ofString "tree") = [116, 114, 101, 101] ∧ tl (Str.ofString "kind") = [107, 105, 110, 100] ∧ tl (Str.ofString "(") = [40] ∧ tl (Str.ofString ")") = [41] ∧ tl (Str.ofString "? ") = [63, 32] ∧ tl (Str.ofString "012345") = [48, 49, 50, 51, 52, 53] ∧ tl (Str.ofString "?") = [63] ∧ tl (Str.ofString " ") = [32] := by decide +kernel
theorem dec_sS (a b : List Nat) : decide (V.str (sS a) = V.str (sS b)) = decide (a = b) := by
  by_cases c : a = b
  · rw [c]; simp
  · rw [decide_eq_false c, decide_eq_false (sS_ne c)]
/-- one sign: the chain of tests -/
def tOne : TS := fun D σ H => ∃ (H0 : Hp) (x : Str) (Wa Ta : Addr) (z i c : Nat) (w : Wt) (W : List Wt) (S : List Sv) (us : List V) (y7 y8 y9 : Option V), σ = SD x Wa Ta z i c (some (wtV w)) y7 y8 y9 ∧ Mc H0 H Wa Ta us W S ∧ need (w :: W) S ∧ W.length ≤ 900 ∧ S.length ≤ 900 ∧ z ≤ 12 ∧
  (mstp c w W S z = none → ∀ H', Same H0 H' → D.rt (.int ((i : Nat) : Int)) H') ∧
  ∀ W' S' z', mstp c w W S z = some (W', S', z') → z' ≤ 12 → W'.length + 7 * z ≤ W.length + 7 * z' → S'.length ≤ S.length + 1 → need W' S' → ∀ (H' : Hp) (Wa' : Addr) (us' : List V) (y7 y8 y9 : Option V), Mc H0 H' Wa' Ta us' W' S' → D.nx (SD x Wa' Ta z' i c (some (wtV w)) y7 y8 y9) H'
theorem segOne {cdv : Value} {A : Around} {out : List Env} {s : Shared} {H0 : Hp} {E : XK} (B : Bl mg) : PS (XD P w K mg base f cdv A out s H0 E) (duS 3) tOne := by
  refine ps_imp (ps_if (PW.pt (pw_and (pt_cmpR op_eq (pv 6) pe_str (nomark _)) (pw_and (pt_cmpR op_eq (pv 5) pe_str (nomark _)) (pw_and1 (pt_cmpR op_lt (pv 3) pe_int (nomark _))))))
      (pss_cons (ps_set (i := 3) scDu48.nd rfl (.inl rfl) (pe_op op_add (pv 3) pe_int)) (pss_one (ps_set (i := 1) scDu48.nd rfl (.inl rfl) (pe_op op_cat (pv 1) (pe_lst (pa_cons pe_str (pa_cons pe_str (pa_cons pe_str (pa_cons pe_str (pa_cons pe_str (pa_cons pe_str (pa_cons pe_str pa_nil)))))))))))) 
      (pss_one (ps_if (PW.pt (pw_and (pt_cmpR op_eq (pv 6) pe_str (nomark _)) (pw_and1 (pt_cmpR op_in_sign (pv 5) pe_str rfl))))
        (pss_one (ps_expr (pe_bm PySem.F.plainAttrs_list PySem.F.slot_list_append PySem.F.type_list_append mt_append (pv 2) (pa_cons (pe_callTy call_int_str (by rfl) B.int PyProof.Rows.boot_int (pa_cons (pv 5) pa_nil)) pa_nil))))
      (pss_one (ps_if (PW.pt (pw_and (pt_cmpR op_eq (pv 6) pe_str (nomark _)) (pw_and1 (pt_cmpR op_in_sign (pv 5) pe_str rfl))))
        (pss_one (ps_expr (pe_bm PySem.F.plainAttrs_list PySem.F.slot_list_append PySem.F.type_list_append mt_append (pv 2) (pa_cons (pe_op op_sub (pe_un un_neg pe_int) (pe_callTy call_int_str (by rfl) B.int PyProof.Rows.boot_int (pa_cons (pv 5) pa_nil))) pa_nil))))
      (pss_one (ps_if (PW.pt (pw_and (pt_cmpR op_eq (pv 6) pe_str (nomark _)) (pw_and1 (pt_cmpR op_eq (pv 5) pe_str (nomark _)))))
        (pss_cons (ps_par3 (i := 7) (j := 8) (l := 9) (by rfl) scDu48.nd rfl rfl rfl (by decide) (by decide) (by decide) rfl rfl rfl (pa_cons (pe_bm0 PySem.F.plainAttrs_list PySem.F.slot_list_pop PySem.F.type_list_pop mt_pop (pv 2)) (pa_cons (pe_bm0 PySem.F.plainAttrs_list PySem.F.slot_list_pop PySem.F.type_list_pop mt_pop (pv 2)) (pa_cons (pe_bm0 PySem.F.plainAttrs_list PySem.F.slot_list_pop PySem.F.type_list_pop mt_pop (pv 2)) pa_nil))) (by rfl))
        (pss_one (ps_expr (pe_bm PySem.F.plainAttrs_list PySem.F.slot_list_append PySem.F.type_list_append mt_append (pv 2) (pa_cons (pe_tup (pa_cons (pe_op op_sub (pe_un un_neg pe_int) (pv 9)) (pa_cons (pv 8) (pa_cons (pv 7) pa_nil)))) pa_nil)))))
      (pss_one (ps_if (PW.pt (pw_or (pt_cmpR op_ne (pv 6) (pv 5) (nomark _)) (pw_or1 (pt_cmpR op_notIn_sign (pv 6) pe_str rfl)))) (pss_one (ps_ret (pv 4))) pss_nil))))))))) (fun D σ H h => ?_)
  obtain ⟨H1, x, Wa, Ta, z, i, c, w, W, S, us, y7, y8, y9, rfl, mc, nd, wl, sl, z12, nE, nx⟩ := h
  obtain ⟨w1, w2, w3, w4, w5, w6, w7, w8⟩ := words
  have eT := eq_sS w1
  have eK := eq_sS w2
  have eO := eq_sS w3
  have eC := eq_sS w4
  have eQ := eq_sS w7
  have eB := eq_sS w8
  have ret : mstp c w W S z = none → D.rt (.int ((i : Nat) : Int)) H := fun h => nE h H mc.sm
  have ul : us.length = S.length := mc.sv.length
  have dg : tl (Str.ofString "0123456789") = [48, 49, 50, 51, 52, 53, 54, 55, 56, 57] := dig_tl
  -- one value more
  have app : ∀ (v : V) (X : Sv), (∀ H', KF H H' → SvAt H' v X) → Mc H1 (upd H Ta (.lst (us.reverse ++ [v]))) Wa Ta (v :: us) W (X :: S) := fun v X hv => by
    have kf : KF H (upd H Ta (.lst (us.reverse ++ [v]))) := KF.putL mc.ht
    refine ⟨fun b o e => by rw [upd_ne (ne_of_none e mc.nt)]; exact mc.sm b o e, mc.nw, mc.nt, mc.ne, by rw [upd_ne mc.ne]; exact mc.hw, by rw [upd_same, List.reverse_cons], .cons (hv _ kf) (Paired.mapP mc.sv fun _ _ h => h.kf kf)⟩
  cases w with
  | tree =>
    have hT : decide (wtV .tree = V.str (Str.ofString "tree")) = true := by rw [eT]; exact (dec_sS _ _).trans (by decide)
    have hK : decide (wtV .tree = V.str (Str.ofString "kind")) = false := by rw [eK]; exact (dec_sS _ _).trans (by decide)
    have hC : decide (wtV .tree = V.str (Str.ofString ")")) = false := by rw [eC]; exact (dec_sS _ _).trans (by decide)
    have hO : decide (V.str (sS [c]) = V.str (Str.ofString "(")) = decide (c = 40) := by rw [eO, dec_sS]; simp
    by_cases a : c = 40 ∧ z < 12
    · obtain ⟨rfl, hz⟩ := a
      refine ⟨_, rfl, rfl, _, rfl, iteD hT ⟨_, rfl, rfl, _, rfl, iteD (hO.trans (by decide)) ⟨_, rfl, _, 12, rfl, rfl, _, rfl, iteD (decide_eq_true (by omega)) ?_⟩⟩⟩
      refine ⟨_, rfl, _, _, rfl, rfl, _, rfl, (by rw [sizeLine_eq]; decide : 7 ≤ sizeLine), fun L nL => ?_⟩
      generalize hl7 : [V.str (Str.ofString ")"), V.str (Str.ofString "tree"), V.str (Str.ofString " "), V.str (Str.ofString "tree"), V.str (Str.ofString " "), V.str (Str.ofString "?"), V.str (Str.ofString "kind")] = l7
      have e7 : l7 = (([Wt.kind, .sg 63, .sg 32, .tree, .sg 32, .tree, .sg 41] : List Wt).map wtV).reverse := by rw [← hl7, eT, eK, eC, eQ, eB]; rfl
      have s1 := same_new (o := HO.lst l7) nL
      have hw1 := s1 _ _ mc.hw
      refine ⟨Wa, L, _, _, rfl, rfl, hw1, upd_same, ?_, fun p np => ?_⟩
      · rw [e7, List.length_reverse, List.length_reverse, List.length_map, List.length_map, sizeLine_eq]
        show W.length + 7 ≤ _
        omega
      have s2 := same_new (o := HO.lst ((W.map wtV).reverse ++ l7)) np
      have s12 := s1.trans s2
      have hp := upd_same (H := upd H L (.lst l7)) (a := p) (o := HO.lst ((W.map wtV).reverse ++ l7))
      refine nx _ _ _ (mstp_op hz) (by omega) (by simp only [List.length_cons]; omega) (Nat.le_succ _) (need_op nd) _ p us y7 y8 y9 ⟨mc.sm.trans s12, (mc.sm.trans s1).free np, mc.nt, ?_, ?_, s12 _ _ mc.ht, Paired.mapP mc.sv fun _ _ h => h.kf (.of_same s12)⟩
      · exact fun e => by have := s1 _ _ mc.ht; rw [← e, np] at this; cases this
      · rw [hp, e7, ← List.reverse_append, ← List.map_append]; rfl
    · by_cases d : 48 ≤ c ∧ c ≤ 57
      · obtain ⟨n, rfl⟩ : ∃ n, c = 48 + n := ⟨c - 48, by omega⟩
        refine ⟨_, rfl, rfl, _, rfl, iteD hT ⟨_, rfl, rfl, _, rfl, iteE (hO.trans (decide_eq_false (by omega))) (iteF ?_)⟩⟩
        refine ⟨_, rfl, rfl, _, rfl, iteD hT ⟨_, rfl, 48 + n, _, rfl, rfl, _, rfl, iteD (decide_eq_true (by show 48 + n ∈ tl _; rw [dg, in_dig]; exact d)) ?_⟩⟩
        refine ⟨_, rfl, .inl ⟨rfl, _, SqL.of mc.ht⟩, _, rfl, _, _, rfl, int_sign n (by omega), (show 1 ≤ 640 by decide), Ta, _, _, rfl, rfl, mc.ht, small1000 (by rw [List.length_reverse]; omega), ?_⟩
        refine nx _ _ _ (mstp_an d) z12 (by omega) (Nat.le_refl _) (nd _) _ Wa _ y7 y8 y9 (app _ _ fun H' _ => ?_)
        show Tu H' _ (Tr.ans (48 + n - 48)).d
        rw [show 48 + n - 48 = n by omega]
        exact .int _
      · have no := mstp_nt (W := W) (S := S) a d
        have hne : (!decide (wtV .tree = V.str (sS [c]))) = true := by
          show (!decide (V.str (sS [116, 114, 101, 101]) = V.str (sS [c]))) = true
          rw [dec_sS]; simp
        by_cases cc : c = 40
        · refine ⟨_, rfl, rfl, _, rfl, iteD hT ⟨_, rfl, rfl, _, rfl, iteD (hO.trans (decide_eq_true cc)) ⟨_, rfl, _, 12, rfl, rfl, _, rfl, iteE (decide_eq_false (by omega)) ?_⟩⟩⟩
          refine ⟨_, rfl, rfl, _, rfl, iteD hT ⟨_, rfl, c, _, rfl, rfl, _, rfl, iteE (decide_eq_false (by show ¬ (c ∈ tl _); rw [dg, in_dig]; exact d)) ?_⟩⟩
          refine ⟨_, rfl, rfl, _, rfl, iteE hK (iteF ⟨_, rfl, rfl, _, rfl, iteE hC (iteF ⟨_, rfl, _, rfl, rfl, _, rfl, iteD hne (iteT ⟨_, rfl, ret no⟩)⟩)⟩)⟩
        · refine ⟨_, rfl, rfl, _, rfl, iteD hT ⟨_, rfl, rfl, _, rfl, iteE (hO.trans (decide_eq_false cc)) (iteF ?_)⟩⟩
          refine ⟨_, rfl, rfl, _, rfl, iteD hT ⟨_, rfl, c, _, rfl, rfl, _, rfl, iteE (decide_eq_false (by show ¬ (c ∈ tl _); rw [dg, in_dig]; exact d)) ?_⟩⟩
          refine ⟨_, rfl, rfl, _, rfl, iteE hK (iteF ⟨_, rfl, rfl, _, rfl, iteE hC (iteF ⟨_, rfl, _, rfl, rfl, _, rfl, iteD hne (iteT ⟨_, rfl, ret no⟩)⟩)⟩)⟩
  | kind =>
    have hT : decide (wtV .kind = V.str (Str.ofString "tree")) = false := by rw [eT]; exact (dec_sS _ _).trans (by decide)
    have hK : decide (wtV .kind = V.str (Str.ofString "kind")) = true := by rw [eK]; exact (dec_sS _ _).trans (by decide)
    have hC : decide (wtV .kind = V.str (Str.ofString ")")) = false := by rw [eC]; exact (dec_sS _ _).trans (by decide)
    refine ⟨_, rfl, rfl, _, rfl, iteE hT (iteF ⟨_, rfl, rfl, _, rfl, iteE hT (iteF ⟨_, rfl, rfl, _, rfl, iteD hK ⟨_, rfl, c, _, rfl, rfl, _, rfl, ?_⟩⟩)⟩)⟩
    by_cases d : 48 ≤ c ∧ c ≤ 53
    · obtain ⟨n, rfl⟩ : ∃ n, c = 48 + n := ⟨c - 48, by omega⟩
      refine iteD (decide_eq_true (by show 48 + n ∈ tl _; rw [w6, in_kin]; exact d)) ?_
      refine ⟨_, rfl, .inl ⟨rfl, _, SqL.of mc.ht⟩, 1, rfl, _, rfl, _, _, rfl, int_sign n (by omega), (show 1 ≤ 640 by decide), _, _, rfl, rfl, Ta, _, _, rfl, rfl, mc.ht, small1000 (by rw [List.length_reverse]; omega), ?_⟩
      exact nx _ _ _ (mstp_kd (by omega)) z12 (by omega) (Nat.le_refl _) (nd _) _ Wa _ y7 y8 y9 (app _ _ fun H' _ => rfl)
    · have no := mstp_nk (W := W) (S := S) (z := z) d
      refine iteE (decide_eq_false (by show ¬ (c ∈ tl _); rw [w6, in_kin]; exact d)) ?_
      have hne : (!decide (wtV .kind = V.str (sS [c]))) = true := by
        show (!decide (V.str (sS [107, 105, 110, 100]) = V.str (sS [c]))) = true
        rw [dec_sS]; simp
      exact ⟨_, rfl, rfl, _, rfl, iteE hC (iteF ⟨_, rfl, _, rfl, rfl, _, rfl, iteD hne (iteT ⟨_, rfl, ret no⟩)⟩)⟩
  | sg k =>
    have hT : decide (wtV (.sg k) = V.str (Str.ofString "tree")) = false := by rw [eT]; exact (dec_sS _ _).trans (by simp [wtW])
    have hK : decide (wtV (.sg k) = V.str (Str.ofString "kind")) = false := by rw [eK]; exact (dec_sS _ _).trans (by simp [wtW])
    have hC : decide (wtV (.sg k) = V.str (Str.ofString ")")) = decide (k = 41) := by rw [eC]; exact (dec_sS _ _).trans (by simp [wtW])
    have hS : decide (V.str (sS [c]) = V.str (Str.ofString ")")) = decide (c = 41) := by rw [eC]; exact (dec_sS _ _).trans (by simp)
    have hne : decide (wtV (.sg k) = V.str (sS [c])) = decide (k = c) := (dec_sS _ _).trans (by simp [wtW])
    refine ⟨_, rfl, rfl, _, rfl, iteE hT (iteF ⟨_, rfl, rfl, _, rfl, iteE hT (iteF ⟨_, rfl, rfl, _, rfl, iteE hK (iteF ⟨_, rfl, rfl, _, rfl, ?_⟩)⟩)⟩)⟩
    by_cases ck : c = k
    · subst ck
      rcases nd with ⟨hx, nd⟩ | ⟨rfl, n, y, kk, S', rfl, nd⟩
      · have c41 : c ≠ 41 := by rcases hx with h | ⟨h, _⟩ <;> omega
        refine iteE (hC.trans (decide_eq_false c41)) (iteF ⟨_, rfl, _, rfl, rfl, _, rfl, iteE (by show (!decide (wtV (.sg c) = V.str (sS [c]))) = false; rw [hne]; simp) ⟨_, rfl, c, _, rfl, rfl, _, rfl, iteE (by
          have : c ∈ tl (Str.ofString "? ") := by rw [w5]; rcases hx with h | ⟨h, _⟩ <;> rw [h] <;> decide
          show (!decide (c ∈ tl (Str.ofString "? "))) = false
          rw [decide_eq_true this]; rfl) ?_⟩⟩)
        exact nx _ _ _ (mstp_sg c41) z12 (by omega) (Nat.le_succ _) nd _ Wa us y7 y8 y9 mc
      · refine iteD (hC.trans rfl) ⟨_, rfl, rfl, _, rfl, iteD (hS.trans rfl) ?_⟩
        obtain ⟨sm, nw, nt, ne, hw, ht, sv⟩ := mc
        obtain ⟨un, uy, uk, us', rfl, hn, hy, hk, sv'⟩ : ∃ un uy uk us', us = un :: uy :: uk :: us' ∧ SvAt H un (.tr n) ∧ SvAt H uy (.tr y) ∧ SvAt H uk (.kd kk) ∧ Paired (SvAt H) us' S' := by
          cases sv with
          | cons a r => cases r with
            | cons b r => cases r with
              | cons c r => exact ⟨_, _, _, _, rfl, a, b, c, r⟩
        have hk : uk = .int (-1 - ((kk : Nat) : Int)) := hk
        subst hk
        have e0 : (un :: uy :: V.int (-1 - ((kk : Nat) : Int)) :: us').reverse = us'.reverse ++ [V.int (-1 - ((kk : Nat) : Int))] ++ [uy] ++ [un] := by simp
        rw [e0] at ht
        have lst : ∀ (R : List V) (v : V), (R ++ [v])[(R ++ [v]).length - 1]? = some v := fun R v => by simp
        have drp : ∀ (R : List V) (v : V), (R ++ [v]).dropLast = R := fun R v => by simp
        refine ⟨_, rfl, .inl ⟨rfl, _, SqL.of ht⟩, Ta, _, un, rfl, rfl, ht, lst _ _, ?_⟩
        rw [drp]
        have ht1 := upd_same (H := H) (a := Ta) (o := HO.lst (us'.reverse ++ [V.int (-1 - ((kk : Nat) : Int))] ++ [uy]))
        refine ⟨_, rfl, .inl ⟨rfl, _, SqL.of ht1⟩, Ta, _, uy, rfl, rfl, ht1, lst _ _, ?_⟩
        rw [drp, upd_upd]
        have ht2 := upd_same (H := H) (a := Ta) (o := HO.lst (us'.reverse ++ [V.int (-1 - ((kk : Nat) : Int))]))
        refine ⟨_, rfl, .inl ⟨rfl, _, SqL.of ht2⟩, Ta, _, _, rfl, rfl, ht2, lst _ _, ?_⟩
        rw [drp, upd_upd]
        have ht3 := upd_same (H := H) (a := Ta) (o := HO.lst us'.reverse)
        have kf3 : KF H (upd H Ta (.lst us'.reverse)) := KF.putL ht
        have sm3 : Same H1 (upd H Ta (.lst us'.reverse)) := fun b o e => by rw [upd_ne (ne_of_none e nt)]; exact sm b o e
        have hw3 : upd H Ta (.lst us'.reverse) Wa = some (.lst ((W.map wtV).reverse)) := by rw [upd_ne ne]; exact hw
        have hn3 := hn.kf kf3
        have hy3 := hy.kf kf3
        have sv3 := Paired.mapP sv' fun _ _ h => SvAt.kf h kf3
        generalize (upd H Ta (.lst us'.reverse)) = H3 at ht3 sm3 hw3 hn3 hy3 sv3
        refine ⟨_, _, _, rfl, ?_⟩
        refine ⟨_, rfl, .inl ⟨rfl, _, SqL.of ht3⟩, 1, rfl, _, rfl, _, _, rfl, rfl, _, rfl, _, rfl, (show 3 ≤ sizeLine by decide), fun qa nq => ?_⟩
        have s4 := same_new (o := HO.tup [V.int (-1 - (-1 - ((kk : Nat) : Int))), uy, un]) nq
        have hq4 := upd_same (H := H3) (a := qa) (o := HO.tup [V.int (-1 - (-1 - ((kk : Nat) : Int))), uy, un])
        have ht4 := s4 _ _ ht3
        have ul' := sv'.length
        refine ⟨Ta, _, _, rfl, rfl, ht4, small1000 (by rw [List.length_reverse]; simp at sl; omega), ?_⟩
        have eb : us'.reverse ++ [V.ref qa] = (V.ref qa :: us').reverse := by rw [List.reverse_cons]
        rw [eb]
        have kf5 : KF (upd H3 qa (HO.tup [V.int (-1 - (-1 - ((kk : Nat) : Int))), uy, un])) (upd (upd H3 qa (HO.tup [V.int (-1 - (-1 - ((kk : Nat) : Int))), uy, un])) Ta (.lst (V.ref qa :: us').reverse)) := KF.putL ht4
        have kf35 : KF H3 (upd (upd H3 qa (HO.tup [V.int (-1 - (-1 - ((kk : Nat) : Int))), uy, un])) Ta (.lst (V.ref qa :: us').reverse)) := (KF.of_same s4).trans kf5
        have tq : Tu (upd (upd H3 qa (HO.tup [V.int (-1 - (-1 - ((kk : Nat) : Int))), uy, un])) Ta (.lst (V.ref qa :: us').reverse)) (.ref qa) (Tr.tst kk y n).d := by
          refine .tup (xs := [V.int ((kk : Nat) : Int), uy, un]) ?_ (by show 3 ≤ 1000; decide) (.cons (.int _) (.cons (Tu.keep kf35 hy3) (.cons (Tu.keep kf35 hn3) .nil)))
          rw [upd_ne (ne_of hq4 ht4 (by intro y; cases y)), hq4, show (-1 - (-1 - ((kk : Nat) : Int))) = ((kk : Nat) : Int) by omega]
        refine nx _ _ _ mstp_cl z12 (by omega) (by simp) nd _ Wa (V.ref qa :: us') _ _ _ ⟨fun b o e => ?_, nw, nt, ne, ?_, upd_same, .cons tq (Paired.mapP sv3 fun _ _ h => SvAt.kf h kf35)⟩
        · rw [upd_ne (ne_of_none e nt)]; exact s4 _ _ (sm3 b o e)
        · rw [upd_ne ne]; exact s4 _ _ hw3
    · have no := mstp_no (W := W) (S := S) (z := z) ck
      have hq : (!decide (wtV (.sg k) = V.str (sS [c]))) = true := by rw [hne, decide_eq_false (fun e => ck e.symm)]; rfl
      by_cases k41 : k = 41
      · refine iteD (hC.trans (decide_eq_true k41)) ⟨_, rfl, rfl, _, rfl, iteE (hS.trans (decide_eq_false (by omega))) ⟨_, rfl, _, rfl, rfl, _, rfl, iteD hq (iteT ⟨_, rfl, ret no⟩)⟩⟩
      · exact iteE (hC.trans (decide_eq_false k41)) (iteF ⟨_, rfl, _, rfl, rfl, _, rfl, iteD hq (iteT ⟨_, rfl, ret no⟩)⟩)
theorem need_ch : ∀ (W : List Wt) (S : List Sv), need W S → ∀ x ∈ W, chOk (wtW x)
  | [], _, _ => fun x h => nomatch h
  | .tree :: W, S, h => fun x hx => by
    rcases List.mem_cons.mp hx with e | e
    · rw [e]; intro c hc; simp [wtW] at hc; omega
    · exact need_ch W _ (h (.ans 0)) x e
  | .kind :: W, S, h => fun x hx => by
    rcases List.mem_cons.mp hx with e | e
    · rw [e]; intro c hc; simp [wtW] at hc; omega
    · exact need_ch W _ (h 0) x e
  | .sg k :: W, S, h => fun x hx => by
    rcases List.mem_cons.mp hx with e | e
    · rw [e]
      intro c hc
      have hc : c = k := by simpa [wtW] using hc
      rcases h with ⟨h, _⟩ | ⟨h, _⟩
      · rcases h with h | ⟨h, _⟩ <;> omega
      · omega
    · rcases h with ⟨_, h⟩ | ⟨_, n, y, kk, S', rfl, h⟩
      · exact need_ch W _ h x e
      · exact need_ch W _ h x e
theorem wts_ws (W : List Wt) : (W.map wtV).reverse = ((W.map wtW).reverse).map fun w => V.str (sS w) := by
  rw [List.map_reverse, List.map_map]; rfl
def spDu48 : Sp := fun vs H Q _ => ∃ (s : Str), vs = [.str s] ∧ s.length ≤ 880 ∧ (∀ e : Nat, mrun (tl s) 0 [.tree] [] 0 = .error e → ∀ H', Same H H' → Q (.int ((e : Nat) : Int)) H') ∧
  ∀ t, mrun (tl s) 0 [.tree] [] 0 = .ok [.tr t] → ∀ H' r u, Same H H' → H' r = some (.lst [u]) → Tu H' u t.d → Q (.ref r) H'
theorem ok_du48 (F : Fun K "_law_due" "_law_due" sDu48 f fd) (B : Bl mg) : FnOk P w K mg base CX0 2 f fd ["_law_text_here"] spDu48 := by
  refine F.ok scDu48 (fun vs H Q E h => ?_) (fun cdv A outer s H vs Q E hr h => ?_)
  · obtain ⟨s, rfl, _⟩ := h
    rfl
  · obtain ⟨tx, rfl, tl8, qE, q⟩ := h
    have bg := big1000
    refine ⟨_, (pss_cons (ps_par3 (i := 1) (j := 2) (l := 3) (by rfl) scDu48.nd rfl rfl rfl (by decide) (by decide) (by decide) rfl rfl rfl (pa_cons (pe_lst (pa_cons pe_str pa_nil)) (pa_cons (pe_lst pa_nil) (pa_cons pe_int pa_nil))) (by rfl))
      (pss_cons (ps_for PassesOwn.never rfl (pi_range1 (by rfl) B.range (pa_cons (pe_callB call_len_str (by rfl) B.len PySem.boot_len (pa_cons (pv 0) pa_nil)) pa_nil)) (pg_name (i := 4) scDu48.nd rfl (.inl rfl))
        (pss_cons (ps_set (i := 5) scDu48.nd rfl (.inl rfl) (pe_ix ix_str (pv 0) (pv 4) (fun _ _ => rfl)))
        (pss_cons (ps_if (pt_cmpR (op_eqD hr.units) (pv 1) (pe_lst pa_nil) (nomark _)) (pss_one (ps_ret (pv 4))) pss_nil)
        (pss_cons (ps_set (i := 6) scDu48.nd rfl (.inl rfl) (pe_bm0 PySem.F.plainAttrs_list PySem.F.slot_list_pop PySem.F.type_list_pop mt_pop (pv 1)))
        (pss_one (segOne B))))))
      (pss_one (ps_ret (pe_ifExp (pt_cmpR (op_eqD hr.units) (pv 1) (pe_lst pa_nil) (nomark _)) (pv 2) (pe_callB call_len_str (by rfl) B.len PySem.boot_len (pa_cons (pv 0) pa_nil))))))), ?_⟩
    have z0 : 0 ≤ sizeLine := by omega
    have z1 : 1 ≤ sizeLine := by omega
    have eT := eq_sS words.1
    -- is nothing awaited
    have empt : ∀ {H1 H2 : Hp} {Wa Ta : Addr} {us : List V} {W : List Wt} {S : List Sv}, Mc H1 H2 Wa Ta us W S → need W S → ∀ p, H2 p = none → ∃ x y, Dp K (upd H2 p (.lst [])) (V.ref Wa) x ∧ Dp K (upd H2 p (.lst [])) (.ref p) y ∧ SeqAt.shaped x = true ∧ SeqAt.shaped y = true ∧ PyData.eqv x y = decide (W = []) := fun {H1 H2 Wa Ta us W S} mc nd p np => by
      have s1 := same_new (o := HO.lst []) np
      refine ⟨wsD (W.map wtW).reverse, wsD [], dp_ws (by rw [← wts_ws]; exact s1 _ _ mc.hw), dp_ws upd_same, sh_ws (fun w hw => ?_), sh_ws (fun w hw => nomatch hw), ?_⟩
      · rw [List.mem_reverse] at hw
        obtain ⟨x, hx, rfl⟩ := List.mem_map.mp hw
        exact need_ch W S nd x hx
      · rw [eqv_ws]
        cases W <;> simp
    refine ⟨z1, fun Wa nW => ⟨z0, fun Ta nT => ⟨_, _, _, rfl, ?_⟩⟩⟩
    have s1 := same_new (o := HO.lst [V.str (Str.ofString "tree")]) nW
    have s2 := same_new (o := HO.lst []) nT
    have hw0 := s2 _ _ (upd_same (H := H) (a := Wa) (o := HO.lst [V.str (Str.ofString "tree")]))
    have mc0 : Mc H _ Wa Ta [] [.tree] [] := ⟨s1.trans s2, nW, s1.free nT, (fun e => by rw [← e, upd_same] at nT; cases nT), (by rw [eT] at hw0; exact hw0), upd_same, .nil⟩
    have ln : tx.length = (tl tx).length := len_tl _
    refine ⟨_, rfl, tx, rfl, by omega, ((tx.length : Nat) : Int), rfl, by omega, by omega, for_range (lo := 0) (n := ((tx.length : Nat) : Int).toNat) (fun i σ H2 => ∃ (Wa Ta : Addr) (z : Nat) (us : List V) (W : List Wt) (S : List Sv) (y4 y5 y6 y7 y8 y9 : Option V), σ = [some (.str tx), some (.ref Wa), some (.ref Ta), some (.int ((z : Nat) : Int)), y4, y5, y6, y7, y8, y9] ∧ Mc H H2 Wa Ta us W S ∧ need W S ∧ W.length ≤ 1 + 7 * z ∧ S.length ≤ i ∧ z ≤ 12 ∧ mrun ((tl tx).drop i) i W S z = mrun (tl tx) 0 [.tree] [] 0)
      ⟨Wa, Ta, 0, [], [.tree], [], none, none, none, none, none, none, rfl, mc0, fun t => ⟨t, rfl⟩, Nat.le_refl _, Nat.le_refl _, by decide, rfl⟩ (fun i σ H2 hi pp => ?_) (fun σ H2 pp => ?_)⟩
    · obtain ⟨Wa, Ta, z, us, W, S, y4, y5, y6, y7, y8, y9, rfl, mc, nd, wl, sl, z12, em⟩ := pp
      rw [Int.toNat_natCast] at hi
      have hi' : i < (tl tx).length := by omega
      have hc : (tl tx)[i]? = some (tl tx)[i] := List.getElem?_eq_getElem hi'
      generalize (tl tx)[i] = c at hc
      have dr : (tl tx).drop i = c :: (tl tx).drop (i + 1) := by
        rw [List.drop_eq_getElem_cons hi']
        congr 1
        rw [List.getElem?_eq_getElem hi'] at hc
        exact Option.some.inj hc
      rw [dr] at em
      have ei : (0 : Int) + ((i : Nat) : Int) = ((i : Nat) : Int) := Int.zero_add _
      rw [ei]
      refine ⟨_, rfl, _, rfl, tx, _, c, rfl, rfl, by omega, atI_nat (j := i) hc, ?_⟩
      refine ⟨_, rfl, ?_⟩
      refine ⟨z0, fun p np => ?_⟩
      obtain ⟨xx, yy, g1, g2, g3, g4, ge⟩ := empt mc nd p np
      have s3 := same_new (o := HO.lst []) np
      refine ⟨xx, yy, g1, g2, g3, g4, _, rfl, ?_⟩
      rw [ge]
      clear g1 g2 g3 g4 ge
      generalize (upd H2 p (HO.lst [])) = H3 at s3
      cases W with
      | nil => exact iteT ⟨_, rfl, qE i (by rw [← em]; rfl) H3 (mc.sm.trans s3)⟩
      | cons w W =>
        refine iteF ?_
        have hw3 := s3 _ _ mc.hw
        rw [List.map_cons, List.reverse_cons] at hw3
        refine ⟨_, rfl, .inl ⟨rfl, _, SqL.of hw3⟩, Wa, _, wtV w, rfl, rfl, hw3, by simp, ?_⟩
        rw [List.dropLast_concat]
        have kf : KF H3 (upd H3 Wa (.lst ((W.map wtV).reverse))) := KF.putL hw3
        have mc4 : Mc H (upd H3 Wa (.lst ((W.map wtV).reverse))) Wa Ta us W S := ⟨fun b o e => by rw [upd_ne (ne_of_none e mc.nw)]; exact s3 _ _ (mc.sm b o e), mc.nw, mc.nt, mc.ne, upd_same, by rw [upd_ne (fun e => mc.ne e.symm)]; exact s3 _ _ mc.ht, Paired.mapP mc.sv fun _ _ h => h.kf ((KF.of_same s3).trans kf)⟩
        have wl' : W.length ≤ 7 * z := by rw [List.length_cons] at wl; omega
        refine ⟨H, tx, Wa, Ta, z, i, c, w, W, S, us, y7, y8, y9, rfl, mc4, nd, by omega, by omega, z12, fun no H5 s5 => qE i (by rw [← em]; exact mrun_none no) H5 s5, fun W' S' z' so z2 wl2 sl2 nd2 H5 Wa' us' y7' y8' y9' mc5 => ?_⟩
        refine ⟨Wa', Ta, z', us', W', S', _, _, _, _, _, _, rfl, mc5, nd2, by omega, by omega, z2, ?_⟩
        rw [← em]
        exact (mrun_some so).symm
    · obtain ⟨Wa, Ta, z, us, W, S, y4, y5, y6, y7, y8, y9, rfl, mc, nd, wl, sl, z12, em⟩ := pp
      rw [Int.toNat_natCast, ln, List.drop_length] at em
      refine ⟨_, rfl, ?_⟩
      refine ⟨z0, fun p np => ?_⟩
      obtain ⟨xx, yy, g1, g2, g3, g4, ge⟩ := empt mc nd p np
      have s3 := same_new (o := HO.lst []) np
      refine ⟨xx, yy, g1, g2, g3, g4, _, rfl, ?_⟩
      rw [ge]
      clear g1 g2 g3 g4 ge
      generalize (upd H2 p (HO.lst [])) = H3 at s3
      cases W with
      | nil =>
        obtain ⟨t, rfl⟩ : ∃ t, S = [.tr t] := nd
        have sv := mc.sv
        have ht := s3 _ _ mc.ht
        cases sv with
        | cons a r =>
          cases r
          exact iteT ⟨_, rfl, q t (by rw [← em]; rfl) H3 Ta _ (mc.sm.trans s3) ht (Tu.keep (.of_same s3) a)⟩
      | cons w W =>
        refine iteF ⟨_, rfl, tx, rfl, by omega, ?_⟩
        exact qE tx.length (by rw [← em, ln]; rfl) H3 (mc.sm.trans s3)
end
end Kc

set_option Elab.async false
set_option linter.all false
set_option maxRecDepth 100000
set_option maxHeartbeats 4000000
namespace Kc
open PySem PySem.Spec PyProof.Rows L2 Kg Kd
abbrev sOdd : Stmt := topS 15
abbrev nOdd : List Str := ["_law_deck_here", "_law_some"]
theorem scOdd : FnScope nOdd ["_law_deck_here"] (defScope sOdd) := ⟨rfl, rfl, rfl, by decide +kernel, rfl, by decide +kernel, by decide +kernel⟩
def odd1 : List PyData := [.none, .bool true, .bool false, .int 0, .int 1, .int 2, .int 5, .int 6, .int 9, .int 10, .int (-1), .int (10 ^ (Int.toNat 30)), .str "", .str "0", .str "add", .tuple [], .list [], .dict [], .tuple [.int 0], .tuple [.int 1], .tuple [.int 0, .int 1]]
def odd2 : List PyData := [.list [.int 0], .tuple [.bool true], .tuple [.none], .tuple [.tuple []], .tuple [.tuple [.int 0]], .tuple [.int 0, .int 0], .tuple [.int 1, .int 0], .tuple [.tuple [.int 0, .bool true], .int 1], .tuple [.int 1, .int 0, .int 1], .str "several"]
def odd3 : List PyData := [.tuple [.tuple [.int 0, .bool true]], .tuple [.tuple [.tuple [.int 0, .bool true]], .int 1], .tuple [.int 0, .bool true], .tuple [.int 0, .int 1, .int 2], .dict [(.int 0, .int 1)], .tuple [.str "full", .tuple []], .tuple [.str "0"], .tuple [.int 0, .list [.int 1]]]
def odd4 : List PyData := [.tuple [.list []], .tuple [.dict []]]
def oddA : List PyData := odd1 ++ odd2 ++ odd3 ++ odd4
theorem odd_len : oddA.length = 41 := rfl
theorem odd_depth : (oddA.all fun d => decide (d.depth ≤ 4)) = true := by decide +kernel
section
variable {X : Cx}
end
def spOdd : Sp := fun vs H Q _ => ∃ (d la lb : Addr) (b : Nat), vs = [.ref d] ∧ DeckAt H d la lb (b + 1) ∧
  ∀ (x : V) (D : PyData) H', DeckAt H' d la lb b → Keep (dk d la) H H' → Da (trk H) H' x D → D ∈ oddA → Q x H'
theorem DaAll.app {av : Addr → Prop} {H : Hp} : ∀ {xs ys : List V} {ds es : List PyData}, DaAll av H xs ds → DaAll av H ys es → DaAll av H (xs ++ ys) (ds ++ es)
  | _, _, _, _, .nil, r => r
  | _, _, _, _, .cons h t, r => .cons h (DaAll.app t r)
section
variable {P : Program} {w : World} {K : PySem.W.Frag} {mg : Str → Option Value} {base : Heap}
theorem ok_odd {f fN : Addr} {fd fdN : FuncData} {k : Nat} (F : Fun K "_law_odd" "_law_odd" sOdd f fd) (B : Bl mg) (FN : Fun K "_law_next" "_law_next" sNext fN fdN) (bN : Binds K fdN ["_law_deck_here", "_law_many"] []) (gN : mg "_law_next" = some (.ref fN)) : FnOk P w K mg base CX0 (k + 2) f fd ["_law_deck_here"] spOdd := by
  have GN : FnOk P w K mg base CX0 (k + 1) fN fdN ["_law_deck_here", "_law_many"] spNext := ok_next FN B.int B.len
  refine F.ok scOdd (fun vs H Q E h => ?_) (fun cdv A outer s H vs Q E hr h => ?_)
  · obtain ⟨d, la, lb, b, rfl, _⟩ := h
    rfl
  · obtain ⟨d, la, lb, b, rfl, D, q⟩ := h
    have hr1 : Room (k + 1) _ := hr
    refine ⟨_, pss_cons (ps_set (i := 1) scOdd.nd rfl (.inl rfl) (pd_lst (ds := odd1) (hl := show 21 ≤ 1000 by decide) (pds_cons pd_non (pds_cons pd_bl (pds_cons pd_bl (pds_cons pd_int (pds_cons pd_int (pds_cons pd_int (pds_cons pd_int (pds_cons pd_int (pds_cons pd_int (pds_cons pd_int (pds_cons pd_neg (pds_cons (pd_pow ⟨by decide, by decide, by decide⟩) (pds_cons pd_str (pds_cons pd_str (pds_cons pd_str (pds_cons (pd_tup pds_nil) (pds_cons (pd_lst pds_nil) (pds_cons pd_d0 (pds_cons (pd_tup (pds_cons pd_int pds_nil)) (pds_cons (pd_tup (pds_cons pd_int pds_nil)) (pds_cons (pd_tup (pds_cons pd_int (pds_cons pd_int pds_nil))) pds_nil)))))))))))))))))))))))
      (pss_cons (ps_set (i := 1) scOdd.nd rfl (.inl rfl) (pe_op op_cat (pv 1) (pd_lst (ds := odd2) (hl := show 10 ≤ 1000 by decide) (pds_cons (pd_lst (pds_cons pd_int pds_nil)) (pds_cons (pd_tup (pds_cons pd_bl pds_nil)) (pds_cons (pd_tup (pds_cons pd_non pds_nil)) (pds_cons (pd_tup (pds_cons (pd_tup pds_nil) pds_nil)) (pds_cons (pd_tup (pds_cons (pd_tup (pds_cons pd_int pds_nil)) pds_nil)) (pds_cons (pd_tup (pds_cons pd_int (pds_cons pd_int pds_nil))) (pds_cons (pd_tup (pds_cons pd_int (pds_cons pd_int pds_nil))) (pds_cons (pd_tup (pds_cons (pd_tup (pds_cons pd_int (pds_cons pd_bl pds_nil))) (pds_cons pd_int pds_nil))) (pds_cons (pd_tup (pds_cons pd_int (pds_cons pd_int (pds_cons pd_int pds_nil)))) (pds_cons pd_str pds_nil)))))))))))))
      (pss_cons (ps_set (i := 1) scOdd.nd rfl (.inl rfl) (pe_op op_cat (pv 1) (pd_lst (ds := odd3) (hl := show 8 ≤ 1000 by decide) (pds_cons (pd_tup (pds_cons (pd_tup (pds_cons pd_int (pds_cons pd_bl pds_nil))) pds_nil)) (pds_cons (pd_tup (pds_cons (pd_tup (pds_cons (pd_tup (pds_cons pd_int (pds_cons pd_bl pds_nil))) pds_nil)) (pds_cons pd_int pds_nil))) (pds_cons (pd_tup (pds_cons pd_int (pds_cons pd_bl pds_nil))) (pds_cons (pd_tup (pds_cons pd_int (pds_cons pd_int (pds_cons pd_int pds_nil)))) (pds_cons pd_d1 (pds_cons (pd_tup (pds_cons pd_str (pds_cons (pd_tup pds_nil) pds_nil))) (pds_cons (pd_tup (pds_cons pd_str pds_nil)) (pds_cons (pd_tup (pds_cons pd_int (pds_cons (pd_lst (pds_cons pd_int pds_nil)) pds_nil))) pds_nil)))))))))))
      (pss_cons (ps_set (i := 1) scOdd.nd rfl (.inl rfl) (pe_op op_cat (pv 1) (pd_lst (ds := odd4) (hl := show 2 ≤ 1000 by decide) (pds_cons (pd_tup (pds_cons (pd_lst pds_nil) pds_nil)) (pds_cons (pd_tup (pds_cons pd_d0 pds_nil)) pds_nil)))))
      (pss_one (ps_ret (pe_ix ix_list (pv 1) (pe_call GN hr1 (by rfl) gN FN.kp bN .nil pass0 (pa_cons (pv 0) (pa_cons (pe_callB call_len_seq (by rfl) B.len PySem.boot_len (pa_cons (pv 1) pa_nil)) pa_nil))) (fun _ _ => rfl))))))), ?_⟩
    -- one after another
    intro v1 H1 s1 h1
    cases h1 with
    | @lst l1 xs1 _ n1 e1 z1 a1 =>
      refine ⟨_, rfl, fun v2 H2 s2 h2 => ?_⟩
      cases h2 with
      | @lst l2 xs2 _ n2 e2 z2 a2 =>
        refine ⟨l1, l2, xs1, xs2, rfl, rfl, s2 _ _ e1, e2, Nat.le_of_lt (small1000 ?_), fun p np => ?_⟩
        · rw [a1.length, a2.length]; decide
        have s3 := same_new (o := HO.lst (xs1 ++ xs2)) np
        have b1 : DaAll (trk H) _ (xs1 ++ xs2) (odd1 ++ odd2) := DaAll.app (a1.keep (.of_same (s2.trans s3))) ((a2.keep (.of_same s3)).sub (trk_mono s1))
        have t1 := s1.trans (s2.trans s3)
        have f1 : (upd H2 p (HO.lst (xs1 ++ xs2))) p = some (.lst (xs1 ++ xs2)) := upd_same
        clear s3
        generalize upd H2 p (HO.lst (xs1 ++ xs2)) = H3 at b1 t1 f1 ⊢
        refine ⟨_, rfl, fun v2 H4 s4 h4 => ?_⟩
        cases h4 with
        | @lst l4 xs4 _ n4 e4 z4 a4 =>
          refine ⟨p, l4, _, xs4, rfl, rfl, s4 _ _ f1, e4, Nat.le_of_lt (small1000 ?_), fun p5 np5 => ?_⟩
          · rw [b1.length, a4.length]; decide
          have s5 := same_new (o := HO.lst (xs1 ++ xs2 ++ xs4)) np5
          have b5 : DaAll (trk H) _ (xs1 ++ xs2 ++ xs4) (odd1 ++ odd2 ++ odd3) := DaAll.app (b1.keep (.of_same (s4.trans s5))) ((a4.keep (.of_same s5)).sub (trk_mono t1))
          have t5 := t1.trans (s4.trans s5)
          have f5 : (upd H4 p5 (HO.lst (xs1 ++ xs2 ++ xs4))) p5 = some (.lst (xs1 ++ xs2 ++ xs4)) := upd_same
          clear s5
          generalize upd H4 p5 (HO.lst (xs1 ++ xs2 ++ xs4)) = H5 at b5 t5 f5 ⊢
          refine ⟨_, rfl, fun v6 H6 s6 h6 => ?_⟩
          cases h6 with
          | @lst l6 xs6 _ n6 e6 z6 a6 =>
            refine ⟨p5, l6, _, xs6, rfl, rfl, s6 _ _ f5, e6, Nat.le_of_lt (small1000 ?_), fun p7 np7 => ?_⟩
            · rw [b5.length, a6.length]; decide
            have s7 := same_new (o := HO.lst (xs1 ++ xs2 ++ xs4 ++ xs6)) np7
            have b7 : DaAll (trk H) _ (xs1 ++ xs2 ++ xs4 ++ xs6) oddA := DaAll.app (b5.keep (.of_same (s6.trans s7))) ((a6.keep (.of_same s7)).sub (trk_mono t5))
            have t7 := t5.trans (s6.trans s7)
            have f7 : (upd H6 p7 (HO.lst (xs1 ++ xs2 ++ xs4 ++ xs6))) p7 = some (.lst (xs1 ++ xs2 ++ xs4 ++ xs6)) := upd_same
            have nH7 : H p7 = none := (t5.trans s6).free np7
            clear s7
            generalize xs1 ++ xs2 ++ xs4 ++ xs6 = ys at b7 f7 t7 ⊢
            generalize upd H6 p7 (HO.lst ys) = H7 at b7 t7 f7 ⊢
            have hl : ys.length = 41 := b7.length.trans odd_len
            -- the draw
            refine ⟨_, rfl, _, rfl, _, rfl, p7, ys, rfl, .inl (SqL.of f7), ?_⟩
            refine ⟨d, la, lb, _, b, rfl, by rw [hl]; decide, by rw [hl]; decide, D.same t7, fun v H8 hv0 hv1 D8 k8 => ?_⟩
            have np : ¬ dk d la p7 := by
              intro z
              have tr := D.tracked
              rcases z with z | z
              · rw [z] at nH7; exact tr.1 nH7
              · rw [z] at nH7; exact tr.2.1 nH7
            have hvn : v.toNat < ys.length := by omega
            have b8 : DaAll (trk H) H8 ys oddA := b7.keep (fun c o hc nc => k8 c o hc (fun z => nc (by
              have tr := D.tracked
              rcases z with z | z
              · rw [z]; exact tr.1
              · rw [z]; exact tr.2.1)))
            obtain ⟨dd, g1, g2⟩ := b8.get (List.getElem?_eq_getElem hvn)
            refine ⟨p7, ys, v, ys[v.toNat], rfl, rfl, SqL.of (k8 _ _ f7 np), at_of (j := v.toNat) (by omega) (List.getElem?_eq_getElem hvn), ?_⟩
            refine q _ dd H8 D8 (fun c o hc nc => k8 c o (t7 _ _ hc) nc) g2 ?_
            exact List.mem_of_getElem? g1
end
end Kc

set_option Elab.async false
set_option linter.all false
set_option maxRecDepth 100000
set_option maxHeartbeats 8000000
namespace Kc
open PySem PySem.Spec PyProof.Rows L2 Kg Kd Kr Kf Kl TL
abbrev sLtx : Stmt := topS 22
abbrev nLtx : List Str := ["_law_tree_here"]
theorem scLtx : FnScope nLtx nLtx (defScope sLtx) := ⟨rfl, rfl, rfl, by decide +kernel, rfl, by decide +kernel, by decide +kernel⟩
def spLtx (g : Nat) : Sp := fun vs H Q _ => ∃ (v : V) (t : Tr), vs = [v] ∧ Tu H v t.d ∧ t.dep < g ∧ t.ok 10 ∧ t.size ≤ 20 ∧ Q (.str (sS t.tx)) H
section
variable {P : Program} {w : World} {K : PySem.W.Frag} {mg : Str → Option Value} {base : Heap} {f : Addr} {fd : FuncData}
theorem ok_ltx1 {g : Nat} (F : Fun K "_law_text" "_law_text" sLtx f fd) (B : Bl mg) (gS : mg "_law_text" = some (.ref f)) (bS : Binds K fd nLtx [])
    (G : FnOk P w K mg base CX0 (g + 1) f fd nLtx (spLtx g)) : FnOk P w K mg base CX0 (g + 2) f fd nLtx (spLtx (g + 1)) := by
  refine F.ok scLtx (fun vs H Q E h => ?_) (fun cdv A outer s H vs Q E hr h => ?_)
  · obtain ⟨v, t, rfl, _⟩ := h
    rfl
  · obtain ⟨v, t, rfl, tv, hg, to, ts, q⟩ := h
    refine ⟨_, (pss_cons (ps_if (pt_not (pt_val (pe_callB call_isi (by rfl) B.isi boot_isinstance (pa_cons (pv 0) (pa_cons (pe_bltn (v := .ty "tuple") (by rfl) B.tuple PyProof.Rows.boot_tuple rfl) pa_nil))))) (pss_one (ps_ret (pe_callTy call_str_int (by rfl) B.str PyProof.Rows.boot_str (pa_cons (pv 0) pa_nil)))) pss_nil)
      (pss_one (ps_ret (pe_op op_add_str (pe_op op_add_str (pe_op op_add_str (pe_op op_add_str (pe_op op_add_str (pe_op op_add_str pe_str (pe_callTy call_str_int (by rfl) B.str PyProof.Rows.boot_str (pa_cons (pe_ix ix_tup (pv 0) pe_int (fun _ _ => rfl)) pa_nil))) pe_str) (pe_call G hr (by rfl) gS F.kp bS .nil pass0 (pa_cons (pe_ix ix_tup (pv 0) pe_int (fun _ _ => rfl)) pa_nil))) pe_str) (pe_call G hr (by rfl) gS F.kp bS .nil pass0 (pa_cons (pe_ix ix_tup (pv 0) pe_int (fun _ _ => rfl)) pa_nil))) pe_str)))), ?_⟩
    refine ⟨_, rfl, _, _, _, _, isTup t.d, rfl, .ty _, tv.da.ty, kit_ty (kt_tup t.d), _, rfl, ?_⟩
    cases t with
    | ans a =>
      have e := tu_ans tv
      subst e
      have a9 : a ≤ 9 := to
      refine iteD (by rfl) ⟨_, rfl, _, rfl, log_sm a a9, ?_⟩
      have e : (Str.ofString (toString ((a : Nat) : Int))) = sS [48 + a] := num_sS (by omega)
      exact e ▸ q
    | tst kd y n =>
      obtain ⟨b, v1, v2, rfl, hb, t1, t2⟩ := tu_tst tv
      have dp : 1 + max y.dep n.dep < g + 1 := hg
      have sz : 1 + y.size + n.size ≤ 20 := ts
      have k10 : kd < 10 := to.1
      have l1 := Tr.tx_len y
      have l2 := Tr.tx_len n
      have e1 : (Str.ofString (toString ((kd : Nat) : Int))) = sS [48 + kd] := num_sS k10
      have c1 : Str.ofString "(" = sS [40] := eq_sS (by decide +kernel)
      have c2 : Str.ofString "? " = sS [63, 32] := eq_sS (by decide +kernel)
      have c3 : Str.ofString " " = sS [32] := eq_sS (by decide +kernel)
      have c4 : Str.ofString ")" = sS [41] := eq_sS (by decide +kernel)
      have bg := big1000
      refine iteE (by rfl) ⟨_, rfl, b, _, 0, .int ((kd : Nat) : Int), rfl, rfl, SqT.of hb, atI_nat (j := 0) rfl, _, rfl, log_sm kd (by omega), _, _, rfl, rfl, ?_⟩
      show (Str.ofString "(").length + (Str.ofString (toString ((kd : Nat) : Int))).length ≤ sizeLine ∧ _
      rw [c1, e1, sS_app]
      refine ⟨by rw [sS_len, sS_len]; exact (show 2 ≤ sizeLine by decide), _, _, rfl, rfl, ?_⟩
      show (sS ([40] ++ [48 + kd])).length + (Str.ofString "? ").length ≤ sizeLine ∧ _
      rw [c2, sS_app]
      refine ⟨by rw [sS_len, sS_len]; exact (show 4 ≤ sizeLine by decide), _, rfl, b, _, 1, v1, rfl, rfl, SqT.of hb, atI_nat (j := 1) rfl, v1, y, rfl, t1, by omega, to.2.1, by omega, _, _, rfl, rfl, ?_⟩
      rw [sS_app]
      refine ⟨by rw [sS_len, sS_len]; show 4 + y.tx.length ≤ sizeLine; omega, _, _, rfl, rfl, ?_⟩
      show (sS ([40] ++ [48 + kd] ++ [63, 32] ++ y.tx)).length + (Str.ofString " ").length ≤ sizeLine ∧ _
      rw [c3, sS_app]
      refine ⟨by rw [sS_len, sS_len, List.length_append]; show 4 + y.tx.length + 1 ≤ sizeLine; omega, _, rfl, b, _, 2, v2, rfl, rfl, SqT.of hb, atI_nat (j := 2) rfl, v2, n, rfl, t2, by omega, to.2.2, by omega, _, _, rfl, rfl, ?_⟩
      rw [sS_app]
      refine ⟨by rw [sS_len, sS_len, List.length_append, List.length_append]; show 4 + y.tx.length + 1 + n.tx.length ≤ sizeLine; omega, _, _, rfl, rfl, ?_⟩
      show (sS ([40] ++ [48 + kd] ++ [63, 32] ++ y.tx ++ [32] ++ n.tx)).length + (Str.ofString ")").length ≤ sizeLine ∧ _
      rw [c4, sS_app]
      refine ⟨by rw [sS_len, sS_len, List.length_append, List.length_append, List.length_append]; show 4 + y.tx.length + 1 + n.tx.length + 1 ≤ sizeLine; omega, ?_⟩
      have e : [40] ++ [48 + kd] ++ [63, 32] ++ y.tx ++ [32] ++ n.tx ++ [41] = (Tr.tst kd y n).tx := by
        show _ = 40 :: (48 + kd) :: 63 :: 32 :: (y.tx ++ 32 :: (n.tx ++ [41]))
        simp
      rw [e]; exact q
theorem ok_ltx (F : Fun K "_law_text" "_law_text" sLtx f fd) (B : Bl mg) (gS : mg "_law_text" = some (.ref f)) (bS : Binds K fd nLtx []) : ∀ g : Nat, FnOk P w K mg base CX0 (g + 1) f fd nLtx (spLtx g)
  | 0 => ⟨fun vs H Q E h => by obtain ⟨v, t, _, _, z, _⟩ := h; exact absurd z (Nat.not_lt_zero _), fun A outer s H args us vs Q E _ _ _ _ h => by obtain ⟨v, t, _, _, z, _⟩ := h; exact absurd z (Nat.not_lt_zero _)⟩
  | g + 1 => ok_ltx1 F B gS bS (ok_ltx F B gS bS g)
end
end Kc

set_option Elab.async false
set_option linter.all false
set_option maxRecDepth 100000
set_option maxHeartbeats 4000000
namespace Kc
open PySem PySem.Spec PyProof.Rows L2 Kg Kd Kr Kf Kl
abbrev sTree : Stmt := topS 16
abbrev psTree : List Str := ["_law_deck_here", "_law_many", "_law_deep"]
theorem scTree : FnScope ["_law_deck_here", "_law_many", "_law_deep", "_law_kind"] psTree (defScope sTree) := ⟨rfl, rfl, rfl, by decide +kernel, rfl, by decide +kernel, by decide +kernel⟩
def spTree (g : Nat) : Sp := fun vs H Q _ => ∃ (d la lb : Addr) (n j b : Nat), vs = [.ref d, .int (n : Nat), .int (j : Nat)] ∧ j < g ∧ 1 ≤ n ∧ n ≤ 6 ∧ DeckAt H d la lb (b + (3 * 2 ^ j - 2)) ∧
  ∀ H' v t, Go H d la lb b H' → Tu H' v t.d → Tr.ok n t → t.dep ≤ j → t.size + 1 ≤ 2 ^ j → Q v H'
section
variable {P : Program} {w : World} {K : PySem.W.Frag} {mg : Str → Option Value} {base : Heap} {f : Addr} {fd : FuncData}
theorem ok_tree1 {g : Nat} (F : Fun K "_law_tree" "_law_tree" sTree f fd) (GN : Cal P w K mg base "_law_next" 1 ["_law_deck_here", "_law_many"] spNext) (gT : mg "_law_tree" = some (.ref f)) (bT : Binds K fd psTree [])
    (G : FnOk P w K mg base CX0 (g + 1) f fd psTree (spTree g)) : FnOk P w K mg base CX0 (g + 2) f fd psTree (spTree (g + 1)) := by
  refine F.ok scTree (fun vs H Q E h => ?_) (fun cdv A outer s H vs Q E hr h => ?_)
  · obtain ⟨d, la, lb, n, j, b, rfl, _⟩ := h
    rfl
  · obtain ⟨d, la, lb, n, j, b, rfl, hj, n1, n6, D, q⟩ := h
    have hr1 := hr.mono (show 1 ≤ g + 1 by omega)
    refine ⟨_, pss_cons (ps_if (PW.pt (pw_or (pt_cmpR op_eq (pv 2) pe_int (nomark _)) (pw_or1 (pt_cmpR op_eq (pe_cal GN hr1 (by rfl) (pa_cons (pv 0) (pa_cons pe_int pa_nil))) pe_int (nomark _)))))
        (pss_one (ps_ret (pe_ix ix_list (pe_lst (pa_cons pe_int (pa_cons pe_int (pa_cons pe_int (pa_cons pe_int (pa_cons pe_int pa_nil)))))) (pe_cal GN hr1 (by rfl) (pa_cons (pv 0) (pa_cons pe_int pa_nil))) (fun _ _ => rfl)))) pss_nil)
      (pss_cons (ps_set (i := 3) scTree.nd rfl (.inl rfl) (pe_cal GN hr1 (by rfl) (pa_cons (pv 0) (pa_cons (pv 1) pa_nil))))
      (pss_one (ps_ret (pe_tup (pa_cons (pv 3) (pa_cons (pe_call G hr (by rfl) gT F.kp bT .nil pass0 (pa_cons (pv 0) (pa_cons (pv 1) (pa_cons (pe_op op_sub (pv 2) pe_int) pa_nil)))) (pa_cons (pe_call G hr (by rfl) gT F.kp bT .nil pass0 (pa_cons (pv 0) (pa_cons (pv 1) (pa_cons (pe_op op_sub (pv 2) pe_int) pa_nil)))) pa_nil))))))), ?_⟩
    have pw : 1 ≤ 2 ^ j := Nat.one_le_two_pow
    -- an answer
    have leaf : ∀ (H1 : Hp) (b1 : Nat), Go H d la lb (b + b1 + 1) H1 → ∃ (_ : 5 ≤ sizeLine), ∀ l, H1 l = none → ∃ v, (([some (.ref d), some (.int (n : Nat)), some (.int (j : Nat)), none] : L2.St)[0]? = some (some v)) ∧ ∃ (d' la' lb' : Addr) (m : Int) (b' : Nat), ([v, .int 5] ++ [] : List V) = [.ref d', .int m] ∧ 0 < m ∧ m < 1073741824 ∧ DeckAt (upd H1 l (.lst [.int 0, .int 5, .int 9, .int 7, .int 5])) d' la' lb' (b' + 1) ∧
        ∀ (r : Int) H', 0 ≤ r → r < m → DeckAt H' d' la' lb' b' → Keep (dk d' la') (upd H1 l (.lst [.int 0, .int 5, .int 9, .int 7, .int 5])) H' → ∃ p xs i z, V.ref l = .ref p ∧ V.int r = .int i ∧ SqL K H' p xs ∧ atI xs i = some z ∧ Q z H' := by
      intro H1 b1 g1
      refine ⟨by decide, fun l nl => ⟨_, rfl, d, la, lb, 5, b + b1, rfl, by decide, by decide, g1.now.same (same_new nl), fun r H2 r0 r1 D2 k2 => ?_⟩⟩
      have g2 := (g1.same (same_new (o := HO.lst [.int 0, .int 5, .int 9, .int 7, .int 5]) nl)).draw D2 k2
      have hl : H2 l = some (.lst [.int 0, .int 5, .int 9, .int 7, .int 5]) := k2 _ _ upd_same (by
        obtain ⟨a1, a2, _⟩ := g1.now.tracked
        rintro (z | z) <;> (rw [z] at nl; contradiction))
      have pick : ∃ m : Nat, atI ([.int 0, .int 5, .int 9, .int 7, .int 5] : List V) r = some (.int (m : Nat)) ∧ m ≤ 9 := by
        have : r = 0 ∨ r = 1 ∨ r = 2 ∨ r = 3 ∨ r = 4 := by omega
        rcases this with h | h | h | h | h <;> subst h
        · exact ⟨0, rfl, by decide⟩
        · exact ⟨5, rfl, by decide⟩
        · exact ⟨9, rfl, by decide⟩
        · exact ⟨7, rfl, by decide⟩
        · exact ⟨5, rfl, by decide⟩
      obtain ⟨m, hm, m9⟩ := pick
      exact ⟨l, _, r, .int (m : Nat), rfl, rfl, SqL.of hl, hm, q H2 _ (.ans m) (g2.less (by omega)) (.int _) m9 (Nat.zero_le _) (by show 0 + 1 ≤ 2 ^ j; omega)⟩
    refine ⟨_, rfl, rfl, _, rfl, ?_⟩
    by_cases j0 : j = 0
    · subst j0
      refine iteD (by simp) (iteT ?_)
      obtain ⟨z1, z2⟩ := leaf H 0 ((Go.refl D).less (by simp))
      exact ⟨z1, z2⟩
    · have e0 : decide (V.int ((j : Nat) : Int) = V.int 0) = false := decide_eq_false (fun z => j0 (by have := V.int.inj z; omega))
      rw [e0]
      obtain ⟨i, rfl⟩ : ∃ i, j = i + 1 := ⟨j - 1, by omega⟩
      have p2 : 2 ^ (i + 1) = 2 * 2 ^ i := by rw [Nat.pow_succ]; omega
      have pi1 : 1 ≤ 2 ^ i := Nat.one_le_two_pow
      refine iteF ⟨_, rfl, d, la, lb, 4, b + (6 * 2 ^ i - 3), rfl, by decide, by decide, D.less (by omega), fun r H1 r0 r1 D1 k1 => ⟨rfl, _, rfl, ?_⟩⟩
      have g1 := (Go.refl D).draw D1 k1
      refine ite2 (fun _ => ?_) (fun _ => ?_)
      · obtain ⟨z1, z2⟩ := leaf H1 1 (g1.less (by omega))
        exact ⟨z1, z2⟩
      · refine ⟨_, rfl, _, rfl, d, la, lb, (n : Nat), b + (6 * 2 ^ i - 4), rfl, by omega, by omega, D1.less (by omega), fun kd H2 kd0 kd1 D2 k2 => ?_⟩
        have g2 := g1.draw D2 k2
        obtain ⟨kk, rfl⟩ : ∃ kk : Nat, kd = (kk : Nat) := ⟨kd.toNat, by omega⟩
        have ei : (((i + 1 : Nat) : Nat) : Int) - 1 = ((i : Nat) : Int) := by omega
        refine ⟨_, rfl, _, rfl, _, rfl, _, rfl, (((i + 1 : Nat) : Nat) : Int), 1, rfl, rfl, ?_⟩
        refine ⟨d, la, lb, n, i, b + (3 * 2 ^ i - 2), (by show [V.ref d, V.int (n : Nat), V.int ((((i + 1 : Nat) : Nat) : Int) - 1)] = _; rw [ei]), by omega, n1, n6, g2.now.less (by omega), fun H3 v1 t1 g3 tv1 o1 d1 z1 => ?_⟩
        refine ⟨_, rfl, _, rfl, _, rfl, (((i + 1 : Nat) : Nat) : Int), 1, rfl, rfl, ?_⟩
        refine ⟨d, la, lb, n, i, b, (by show [V.ref d, V.int (n : Nat), V.int ((((i + 1 : Nat) : Nat) : Int) - 1)] = _; rw [ei]), by omega, n1, n6, g3.now, fun H4 v2 t2 g4 tv2 o2 d2 z2 => ⟨(show 3 ≤ sizeLine by decide), fun t nt => ?_⟩⟩
        have s5 := same_new (o := HO.tup [.int ((kk : Nat) : Int), v1, v2]) nt
        refine q _ (.ref t) (.tst kk t1 t2) (((g2.trans g3).trans g4).same s5) ?_ ⟨by omega, o1, o2⟩ ?_ ?_
        · exact .tup upd_same (by show 3 ≤ 1000; decide) (.cons (.int _) (.cons ((tv1.keep g4.kf).same s5) (.cons (tv2.same s5) .nil)))
        · show 1 + max t1.dep t2.dep ≤ i + 1
          omega
        · show 1 + t1.size + t2.size + 1 ≤ 2 ^ (i + 1)
          omega
theorem ok_tree (F : Fun K "_law_tree" "_law_tree" sTree f fd) (GN : Cal P w K mg base "_law_next" 1 ["_law_deck_here", "_law_many"] spNext) (gT : mg "_law_tree" = some (.ref f)) (bT : Binds K fd psTree []) : ∀ g : Nat, FnOk P w K mg base CX0 (g + 1) f fd psTree (spTree g)
  | 0 => ⟨fun vs H Q E h => by obtain ⟨d, la, lb, n, j, b, _, z, _⟩ := h; exact absurd z (Nat.not_lt_zero _), fun A outer s H args us vs Q E _ _ _ _ h => by obtain ⟨d, la, lb, n, j, b, _, z, _⟩ := h; exact absurd z (Nat.not_lt_zero _)⟩
  | g + 1 => ok_tree1 F GN gT bT (ok_tree F GN gT bT g)
end
end Kc

set_option Elab.async false
set_option linter.all false
set_option maxRecDepth 100000
set_option maxHeartbeats 4000000
/-! a text times a number -/
namespace Kf
open PySem PySem.Spec PyProof.Rows L2 Kg Kd TL
theorem fold_rep (a : Array Nat) : ∀ (m : Nat) (acc : Array Nat), ((List.replicate m a).foldl (· ++ ·) acc).toList = acc.toList ++ (List.replicate m a.toList).flatten
  | 0, acc => by simp
  | m + 1, acc => by
    rw [List.replicate_succ, List.foldl_cons, fold_rep a m, List.replicate_succ, List.flatten_cons]
    simp
theorem rep_len (l : List Nat) : ∀ k : Nat, (List.replicate k l).flatten.length = k * l.length
  | 0 => by simp
  | k + 1 => by
    rw [List.replicate_succ, List.flatten_cons, List.length_append, rep_len l k, Nat.add_mul]; omega
def rMulS : R2 := fun x y H Q => ∃ (l : List Nat) (k : Nat), x = .str (sS l) ∧ y = .int ((k : Nat) : Int) ∧ k ≤ 100 ∧ l.length ≤ 1000 ∧ Q (.str (sS (List.replicate k l).flatten)) H
theorem op_mulS {X : Cx} : OpR X (binaryOp .Mult) rMulS := by
  intro pins s σ H x y v u Q I rx ry h
  obtain ⟨l, k, rfl, rfl, hk, hl, q⟩ := h
  obtain ⟨t, rfl⟩ := rx
  obtain ⟨t', rfl⟩ := ry
  have e0 : ¬ (((k : Nat) : Int)) < -(2 ^ 63 : Int) := by omega
  have e1 : ¬ (((k : Nat) : Int)) ≥ 2 ^ 63 := by omega
  have len : (sS l).length = l.length := sS_len l
  refine P.mul_str (by rw [decide_eq_false e0, decide_eq_false e1]; rfl) (fun c1 c2 => ?_) (fun c1 c2 => ?_) ?_
  · rw [len]
    have : (90000000000000000 : Int) ≤ (2 ^ 63 - 1) / ((k : Nat) : Int) := by
      refine Int.le_ediv_of_mul_le (by omega) ?_
      have : (90000000000000000 : Int) * ((k : Nat) : Int) ≤ 90000000000000000 * 100 := by omega
      omega
    omega
  · rw [len, Int.toNat_natCast]
    unfold Builtin.Str.tooLong
    refine decide_eq_false ?_
    have : l.length * k ≤ 1000 * 100 := Nat.mul_le_mul hl hk
    rw [sizeLine_eq]
    omega
  · split
    · rename_i c
      have k0 : k = 0 := by omega
      subst k0
      have e : Str.empty = sS (List.replicate 0 l).flatten := rfl
      rw [e]
      exact ⟨(show 0 ≤ sizeLine by decide), .str _, H, I.tok _, ⟨_, rfl⟩, q⟩
    · split
      · rename_i c1 c2
        have e : (List.replicate k l).flatten = l := by
          rcases Bool.or_eq_true_iff.mp c2 with c | c
          · have : k = 1 := by have := eq_of_beq c; omega
            subst this; simp
          · have : l = [] := by
              have := eq_of_beq c
              rw [len] at this
              exact List.length_eq_zero_iff.mp this
            subst this; simp
        rw [e] at q
        exact ⟨.str (sS l), H, I.tok _, ⟨_, rfl⟩, q⟩
      · have e : (⟨(List.replicate (((k : Nat) : Int)).toNat (sS l).cps).foldl (· ++ ·) #[]⟩ : Str) = sS (List.replicate k l).flatten := by
          refine eq_sS ?_
          show ((List.replicate (((k : Nat) : Int)).toNat (sS l).cps).foldl (· ++ ·) #[]).toList = _
          rw [fold_rep, Int.toNat_natCast]; rfl
        rw [e]
        refine ⟨?_, .str _, H, I.tok _, ⟨_, rfl⟩, q⟩
        rw [sS_len, rep_len]
        have : k * l.length ≤ 100 * 1000 := Nat.mul_le_mul hk hl
        rw [sizeLine_eq]; omega
end Kf

set_option Elab.async false
set_option linter.all false
set_option maxRecDepth 100000
set_option maxHeartbeats 8000000
namespace Kc
open PySem PySem.Spec PyProof.Rows L2 Kg Kd Kr Kf Kl TL
abbrev sLaw : Stmt := topS 25
abbrev nLaw : List Str := ["_law_script", "_law_deck_here", "_law_turn", "_law_tree_here", "_law_more", "_law_text_here", "_law_change", "_law_at", "_law_sign", "_law_kind", "_law_rest", "_law_odd_here", "_law_due_here"]
theorem scLaw : FnScope nLaw ["_law_script"] (defScope sLaw) := ⟨rfl, rfl, rfl, by decide +kernel, rfl, by decide +kernel, by decide +kernel⟩
structure LE (P : Program) (w : World) (K : PySem.W.Frag) (mg : Str → Option Value) (base : Heap) : Prop where
  B : Bl mg
  deck : Cal P w K mg base "_law_deck" 1 ["_law_script"] (spDeck K)
  next : Cal P w K mg base "_law_next" 1 ["_law_deck_here", "_law_many"] spNext
  same : CalG P w K mg base "_law_same" 16 ["_law_found", "_law_due_here"] (spSame 16)
  odd : Cal P w K mg base "_law_odd" 2 ["_law_deck_here"] spOdd
  tree : Cal P w K mg base "_law_tree" 5 psTree (spTree 4)
  ltx : Cal P w K mg base "_law_text" 14 nLtx (spLtx 13)
  due : Cal P w K mg base "_law_due" 2 ["_law_text_here"] spDu48
  told : Cal P w K mg base "_law_told" 19 ["_law_value"] spTo48
theorem tr_up {n m : Nat} (h : n ≤ m) : ∀ {t : Tr}, t.ok n → t.ok m
  | .ans _, z => z
  | .tst _ _ _, z => ⟨Nat.lt_of_lt_of_le z.1 h, tr_up h z.2.1, tr_up h z.2.2⟩
abbrev XL (P : Program) (w : World) (K : PySem.W.Frag) (mg : Str → Option Value) (base : Heap) (f : Addr) (cdv : Value) (A : Around) (out : List Env) (s : Shared) (H : Hp) : Cx := (cxOf CX0 P w K mg base nLaw "law" (defScope sLaw) f cdv A out s H E0).nox
def turnS (i : Nat) : Stmt := (forB48 ((defBody sLaw).getD 1 (.Pass ⟨0, 0, 0, 0⟩))).getD i (.Pass ⟨0, 0, 0, 0⟩)
abbrev SL (va : V) (d : Addr) (y2 y3 y4 y5 y6 y7 y8 y9 y10 y11 y12 : Option V) : L2.St := [some va, some (.ref d), y2, y3, y4, y5, y6, y7, y8, y9, y10, y11, y12]
/-- a tree grows, at times -/
def tGr : TS := fun D σ H => ∃ (va : V) (d la lb : Addr) (b : Nat) (v : V) (t : Tr) (y2 y4 y5 y6 y7 y8 y9 y10 y11 y12 : Option V), σ = SL va d y2 (some v) y4 y5 y6 y7 y8 y9 y10 y11 y12 ∧ DeckAt H d la lb (b + 20) ∧ Tu H v t.d ∧ t.ok 6 ∧ t.dep ≤ 3 ∧ t.size ≤ 7 ∧
  ∀ (H' : Hp) (v : V) (t : Tr) (y4 : Option V), DeckAt H' d la lb b → Tu H' v t.d → t.ok 6 → t.dep ≤ 11 → t.size ≤ 15 → D.nx (SL va d y2 (some v) y4 y5 y6 y7 y8 y9 y10 y11 y12) H'
/-- a text is changed -/
def tCh : TS := fun D σ H => ∃ (va : V) (d la lb : Addr) (b : Nat) (x : Str) (y2 y3 y4 y6 y7 y8 y9 y10 y11 y12 : Option V), σ = SL va d y2 y3 y4 (some (.str x)) y6 y7 y8 y9 y10 y11 y12 ∧ DeckAt H d la lb (b + 20) ∧ x.length ≤ 106 ∧
  ∀ (H' : Hp) (x : Str) (y6 y7 y8 y9 y10 : Option V), DeckAt H' d la lb b → x.length ≤ 860 → D.nx (SL va d y2 y3 y4 (some (.str x)) y6 y7 y8 y9 y10 y11 y12) H'
/-- a text that may come -/
def txOk (d : PyData) : Prop := ∀ s, d = .str s → s.length ≤ 860
/-- something odd, at times -/
def tOd : TS := fun D σ H => ∃ (va : V) (d la lb : Addr) (b : Nat) (x : Str) (y2 y3 y4 y6 y7 y8 y9 y10 y11 y12 : Option V), σ = SL va d y2 y3 y4 (some (.str x)) y6 y7 y8 y9 y10 y11 y12 ∧ DeckAt H d la lb (b + 20) ∧ x.length ≤ 860 ∧
  ∀ (H' : Hp) (v : V) (e : PyData) (y11 : Option V), DeckAt H' d la lb b → Da Kd.nil H' v e → txOk e → D.nx (SL va d y2 y3 y4 (some v) y6 y7 y8 y9 y10 y11 y12) H'
/-- what is due -/
def DueAt (H : Hp) (u : V) (e : PyData) : Prop := (isStr e = false ∧ u = .int (-1)) ∨ ∃ s, e = .str s ∧ s.length ≤ 860 ∧ ((∃ n : Nat, mrun (tl s) 0 [.tree] [] 0 = .error n ∧ u = .int ((n : Nat) : Int)) ∨ ∃ t r y, mrun (tl s) 0 [.tree] [] 0 = .ok [.tr t] ∧ u = .ref r ∧ H r = some (.lst [y]) ∧ Tu H y t.d)
theorem odd_txt : (oddA.all fun d => match d with | .str s => decide (s.length ≤ 860) | _ => true) = true := by decide +kernel
theorem odd_tx {d : PyData} (h : d ∈ oddA) : txOk d := fun s e => by
  have := List.all_eq_true.mp odd_txt d h
  rw [e] at this
  exact of_decide_eq_true this
section
variable {P : Program} {w : World} {K : PySem.W.Frag} {mg : Str → Option Value} {base : Heap} {f : Addr} {cdv : Value} {A : Around} {out : List Env} {s : Shared} {H0 : Hp}
theorem mul_bit {z : Str} {b : Bool} {H : Hp} {Q : VK} (hz : z.length ≤ 1000) (q : ∀ y : Str, y.length ≤ z.length → Q (.str y) H) : rMulS (.str z) (.int (if b = true then 1 else 0)) H Q :=
  ⟨tl z, if b = true then 1 else 0, by rw [sS_tl], by cases b <;> rfl, by cases b <;> decide, by rw [← len_tl]; exact hz, q _ (by rw [sS_len, rep_len, ← len_tl]; cases b <;> simp)⟩
theorem segG (hr : Room 40 (XL P w K mg base f cdv A out s H0).A) (E : LE P w K mg base) : PS (XL P w K mg base f cdv A out s H0) (turnS 1) tGr := by
  have hr1 := hr.mono (show 1 ≤ 40 by decide)
  refine ps_imp (ps_if (pt_cmpR op_eq (pe_cal E.next hr1 (by rfl) (pa_cons (pv 1) (pa_cons pe_int pa_nil))) pe_int (nomark _)) (pss_one (ps_for PassesOwn.never rfl (pi_range1 (by rfl) E.B.range (pa_cons pe_int pa_nil)) (pg_name (i := 4) scLaw.nd rfl (.inl rfl))
      (pss_one (ps_set (i := 3) scLaw.nd rfl (.inl rfl) (pe_tup (pa_cons (pe_cal E.next hr1 (by rfl) (pa_cons (pv 1) (pa_cons pe_int pa_nil))) (pa_cons (pv 3) (pa_cons (pe_cal E.next hr1 (by rfl) (pa_cons (pv 1) (pa_cons pe_int pa_nil))) pa_nil)))))))) pss_nil) (fun D σ H h => ?_)
  obtain ⟨va, d, la, lb, b, v, t, y2, y4, y5, y6, y7, y8, y9, y10, y11, y12, rfl, D1, tv, to, td, ts, nx⟩ := h
  refine ⟨_, rfl, d, la, lb, 4, b + 19, rfl, by decide, by decide, D1, fun r H1 r0 r1 D2 k1 => ⟨rfl, _, rfl, ?_⟩⟩
  have g1 := (Go.refl D1).draw D2 k1
  have tv1 := tv.keep g1.kf
  refine ite2 (fun _ => ?_) (fun _ => nx H1 v t y4 (D2.less (by omega)) tv1 to (by omega) (by omega))
  refine ⟨8, rfl, by decide, by decide, for_range (lo := 0) (n := 8) (fun i σ H2 => ∃ (v : V) (t : Tr) (y4 : Option V), σ = SL va d y2 (some v) y4 y5 y6 y7 y8 y9 y10 y11 y12 ∧ DeckAt H2 d la lb (b + 19 - 2 * i) ∧ Tu H2 v t.d ∧ t.ok 6 ∧ t.dep ≤ 3 + i ∧ t.size ≤ 7 + i) ⟨v, t, y4, rfl, D2, tv1, to, td, ts⟩ (fun i σ H2 hi pp => ?_) (fun σ H2 pp => ?_)⟩
  · obtain ⟨v, t, z4, rfl, D3, tv, to, td, ts⟩ := pp
    have hi : i < 8 := hi
    obtain ⟨m, hm⟩ : ∃ m, b + 19 - 2 * i = m + 1 + 1 := ⟨b + 17 - 2 * i, by omega⟩
    rw [hm] at D3
    refine ⟨_, rfl, d, la, lb, 6, m + 1, rfl, by decide, by decide, D3, fun r H3 r0 r1 D4 k3 => ?_⟩
    refine ⟨_, rfl, _, rfl, d, la, lb, 10, m, rfl, by decide, by decide, D4, fun a H4 a0 a1 D5 k4 => ⟨(show 3 ≤ sizeLine by decide), fun q nq => ?_⟩⟩
    have g := ((Go.refl D3).draw D4 k3).draw D5 k4
    have tv4 := tv.keep g.kf
    obtain ⟨rn, rfl⟩ : ∃ n : Nat, r = (n : Nat) := ⟨r.toNat, by omega⟩
    obtain ⟨an, rfl⟩ : ∃ n : Nat, a = (n : Nat) := ⟨a.toNat, by omega⟩
    have s5 := same_new (o := HO.tup [V.int ((rn : Nat) : Int), v, V.int ((an : Nat) : Int)]) nq
    refine ⟨.ref q, .tst rn t (.ans an), _, rfl, (D5.same s5).less (by omega), .tup upd_same (by show 3 ≤ 1000; decide) (.cons (.int _) (.cons (tv4.same s5) (.cons (.int _) .nil))), ⟨by omega, to, by show an ≤ 9; omega⟩, ?_, ?_⟩
    · show 1 + max t.dep 0 ≤ 3 + (i + 1); omega
    · show 1 + t.size + 0 ≤ 7 + (i + 1); omega
  · obtain ⟨v, t, z4, rfl, D3, tv, to, td, ts⟩ := pp
    exact nx H2 v t z4 (D3.less (by omega)) tv to (by omega) (by omega)
theorem segC (hr : Room 40 (XL P w K mg base f cdv A out s H0).A) (E : LE P w K mg base) : PS (XL P w K mg base f cdv A out s H0) (turnS 3) tCh := by
  have hr1 := hr.mono (show 1 ≤ 40 by decide)
  refine ps_imp (ps_for PassesOwn.never rfl (pi_range1 (by rfl) E.B.range (pa_cons (pe_cal E.next hr1 (by rfl) (pa_cons (pv 1) (pa_cons pe_int pa_nil))) pa_nil)) (pg_name (i := 6) scLaw.nd rfl (.inl rfl))
      (pss_cons (ps_par (i := 7) (j := 8) (by rfl) scLaw.nd rfl rfl (by decide) rfl rfl (pa_cons (pe_cal E.next hr1 (by rfl) (pa_cons (pv 1) (pa_cons (pe_op op_add (pe_callB call_len_str (by rfl) E.B.len PySem.boot_len (pa_cons (pv 5) pa_nil)) pe_int) pa_nil))) (pa_cons (pe_ix ix_str pe_str (pe_cal E.next hr1 (by rfl) (pa_cons (pv 1) (pa_cons pe_int pa_nil))) (fun _ _ => rfl)) pa_nil)) (by rfl))
      (pss_cons (ps_set (i := 9) scLaw.nd rfl (.inl rfl) (pe_cal E.next hr1 (by rfl) (pa_cons (pv 1) (pa_cons pe_int pa_nil))))
      (pss_cons (ps_set (i := 10) scLaw.nd rfl (.inl rfl) (pe_op op_mulS (pe_slice sl_str (pv 5) (po_some (pe_op op_add (pv 7) (pe_callTy call_int1 (by rfl) E.B.int PyProof.Rows.boot_int (pa_cons (pe_cmpR op_gt (pv 9) pe_int (nomark _)) pa_nil)))) po_none) (pe_callTy call_int1 (by rfl) E.B.int PyProof.Rows.boot_int (pa_cons (pe_cmpR op_lt (pv 9) pe_int (nomark _)) pa_nil))))
      (pss_one (ps_set (i := 5) scLaw.nd rfl (.inl rfl) (pe_op op_add_str (pe_op op_add_str (pe_slice sl_str (pv 5) po_none (po_some (pv 7))) (pe_op op_mulS (pv 8) (pe_callTy call_int1 (by rfl) E.B.int PyProof.Rows.boot_int (pa_cons (pe_cmpR op_lt (pv 9) pe_int (nomark _)) pa_nil)))) (pv 10)))))))) (fun D σ H h => ?_)
  obtain ⟨va, d, la, lb, b, x, y2, y3, y4, y6, y7, y8, y9, y10, y11, y12, rfl, D1, xl, nx⟩ := h
  have bg := big1000
  refine ⟨_, rfl, d, la, lb, 4, b + 19, rfl, by decide, by decide, D1, fun r H1 r0 r1 D2 k1 => ?_⟩
  refine ⟨r, rfl, by omega, by omega, for_range (lo := 0) (n := r.toNat) (fun i σ H2 => ∃ (x : Str) (y6 y7 y8 y9 y10 : Option V), σ = SL va d y2 y3 y4 (some (.str x)) y6 y7 y8 y9 y10 y11 y12 ∧ DeckAt H2 d la lb (b + 19 - 3 * i) ∧ x.length + 1 ≤ 107 * 2 ^ i) ⟨x, y6, y7, y8, y9, y10, rfl, D2, by show _ ≤ 107 * 1; omega⟩ (fun i σ H2 hi pp => ?_) (fun σ H2 pp => ?_)⟩
  · obtain ⟨x, z6, z7, z8, z9, z10, rfl, D3, xl⟩ := pp
    have hi : i < 3 := by omega
    have p2 : 2 ^ i ≤ 4 := by
      have : i = 0 ∨ i = 1 ∨ i = 2 := by omega
      rcases this with h | h | h <;> subst h <;> decide
    have xl4 : x.length + 1 ≤ 428 := by omega
    obtain ⟨m, hm⟩ : ∃ m, b + 19 - 3 * i = m + 1 + 1 + 1 := ⟨b + 16 - 3 * i, by omega⟩
    rw [hm] at D3
    refine ⟨_, rfl, _, rfl, x, rfl, by omega, ((x.length : Nat) : Int), 1, rfl, rfl, d, la, lb, x.length + 1, m + 1 + 1, rfl, by omega, by omega, D3, fun at_ H3 a0 a1 D4 k3 => ?_⟩
    obtain ⟨an, rfl⟩ : ∃ n : Nat, at_ = (n : Nat) := ⟨at_.toNat, by omega⟩
    refine ⟨_, rfl, d, la, lb, 12, m + 1, rfl, by decide, by decide, D4, fun q H4 q0 q1 D5 k4 => ?_⟩
    obtain ⟨qn, rfl⟩ : ∃ n : Nat, q = (n : Nat) := ⟨q.toNat, by omega⟩
    have el : (tl (Str.ofString "()?0569 #-x\n")).length = 12 := by decide +kernel
    have hc : (tl (Str.ofString "()?0569 #-x\n"))[qn]? = some (tl (Str.ofString "()?0569 #-x\n"))[qn] := List.getElem?_eq_getElem (by rw [el]; omega)
    generalize (tl (Str.ofString "()?0569 #-x\n"))[qn] = c at hc
    refine ⟨_, _, c, rfl, rfl, by rw [len_tl, el]; omega, atI_nat (j := qn) hc, _, _, rfl, ?_⟩
    refine ⟨_, rfl, d, la, lb, 4, m, rfl, by decide, by decide, D5, fun kd H5 c0 c1 D6 k5 => ?_⟩
    -- the rest
    refine ⟨_, rfl, _, rfl, _, rfl, kd, 0, rfl, rfl, .inr ⟨_, rfl, ((an : Nat) : Int), _, rfl, rfl, ?_⟩⟩
    refine ⟨_, rfl, x, rfl, by omega, _, rfl, kd, 3, rfl, rfl, .inr ⟨_, rfl, ?_⟩⟩
    refine mul_bit (Nat.le_trans (cutS_length _ _ _) (by omega)) fun rest l1 => ?_
    have l1 := Nat.le_trans l1 (cutS_length _ _ _)
    refine ⟨_, rfl, _, rfl, _, rfl, x, rfl, by omega, _, rfl, _, rfl, kd, 2, rfl, rfl, .inr ⟨_, rfl, ?_⟩⟩
    refine mul_bit (z := sS [c]) (by show 1 ≤ 1000; decide) fun ml l2 => ?_
    have l2 : ml.length ≤ 1 := l2
    have cl2 := cutS_length x none (some ((an : Nat) : Int))
    generalize cutS x none (some ((an : Nat) : Int)) = fr at cl2
    refine ⟨fr, ml, rfl, rfl, by omega, _, rfl, _, _, rfl, rfl, by rw [app_len]; omega, ?_⟩
    refine ⟨_, _, _, _, _, _, rfl, D6.less (by omega), ?_⟩
    rw [app_len, app_len, Nat.pow_succ]
    omega
  · obtain ⟨x, z6, z7, z8, z9, z10, rfl, D3, xl⟩ := pp
    have r3 : r.toNat ≤ 3 := by omega
    have p2 : 2 ^ r.toNat ≤ 8 := by
      have : 2 ^ r.toNat ≤ 2 ^ 3 := Nat.pow_le_pow_right (by decide) r3
      exact this
    exact nx H2 x _ _ _ _ _ (D3.less (by omega)) (by omega)
theorem segO (hr : Room 40 (XL P w K mg base f cdv A out s H0).A) (E : LE P w K mg base) : PS (XL P w K mg base f cdv A out s H0) (turnS 4) tOd := by
  have hr1 := hr.mono (show 1 ≤ 40 by decide)
  have hr2 := hr.mono (show 2 ≤ 40 by decide)
  refine ps_imp (ps_if (pt_cmpR op_eq (pe_cal E.next hr1 (by rfl) (pa_cons (pv 1) (pa_cons pe_int pa_nil))) pe_int (nomark _)) (pss_cons (ps_set (i := 11) scLaw.nd rfl (.inl rfl) (pe_ix ix_list (pe_lst (pa_cons (pe_cal E.odd hr2 (by rfl) (pa_cons (pv 1) pa_nil)) (pa_cons pe_str (pa_cons pe_str (pa_cons (pe_op op_mulS pe_str pe_int) (pa_cons (pe_op op_mulS pe_str pe_int) (pa_cons pe_int (pa_cons (pe_tup (pa_cons pe_str pa_nil)) pa_nil)))))))) (pe_cal E.next hr1 (by rfl) (pa_cons (pv 1) (pa_cons pe_int pa_nil))) (fun _ _ => rfl))) (pss_one (ps_set (i := 5) scLaw.nd rfl (.inl rfl) (pv 11)))) pss_nil) (fun D σ H h => ?_)
  obtain ⟨va, d, la, lb, b, x, y2, y3, y4, y6, y7, y8, y9, y10, y11, y12, rfl, D1, xl, nx⟩ := h
  have bg := big1000
  refine ⟨_, rfl, d, la, lb, 8, b + 19, rfl, by decide, by decide, D1, fun r H1 r0 r1 D2 k1 => ⟨rfl, _, rfl, ?_⟩⟩
  refine ite2 (fun _ => ?_) (fun _ => nx H1 _ (.str x) y11 (D2.less (by omega)) (.str x) (fun s e => by cases e; exact xl))
  refine ⟨_, rfl, d, la, lb, b + 18, rfl, D2, fun xo eo H2 D3 k2 dao mem => ?_⟩
  have e4 : (tl (Str.ofString "(0? ")).length = 4 := by decide +kernel
  refine ⟨tl (Str.ofString "(0? "), 13, congrArg V.str (sS_tl _).symm, rfl, by decide, by rw [e4]; decide, tl (Str.ofString "(0? "), 12, congrArg V.str (sS_tl _).symm, rfl, by decide, by rw [e4]; decide, (by show 1 ≤ sizeLine; omega), fun tq nq => ?_⟩
  generalize hs13 : sS (List.replicate 13 (tl (Str.ofString "(0? "))).flatten = s13
  generalize hs12 : sS (List.replicate 12 (tl (Str.ofString "(0? "))).flatten = s12
  have l13 : s13.length ≤ 860 := by rw [← hs13, sS_len, rep_len, e4]; decide
  have l12 : s12.length ≤ 860 := by rw [← hs12, sS_len, rep_len, e4]; decide
  have s3 := same_new (o := HO.tup [V.str (Str.ofString "1")]) nq
  have hq := upd_same (H := H2) (a := tq) (o := HO.tup [V.str (Str.ofString "1")])
  refine ⟨(by show 7 ≤ sizeLine; omega), fun L nL => ?_⟩
  have s4 := same_new (o := HO.lst [xo, V.str (Str.ofString ""), V.str (Str.ofString "("), V.str s13, V.str s12, V.int 7, V.ref tq]) nL
  have hL := upd_same (H := upd H2 tq (HO.tup [V.str (Str.ofString "1")])) (a := L) (o := HO.lst [xo, V.str (Str.ofString ""), V.str (Str.ofString "("), V.str s13, V.str s12, V.int 7, V.ref tq])
  have hq4 := s4 _ _ hq
  have s34 := s3.trans s4
  have D4 := D3.same s34
  have dao4 := dao.keep (.of_same s34)
  have nLd : d ≠ L ∧ la ≠ L := by
    obtain ⟨a1, a2, _⟩ := (D3.same s3).tracked
    exact ⟨fun z => a1 (by rw [z]; exact nL), fun z => a2 (by rw [z]; exact nL)⟩
  have nqd : d ≠ tq ∧ la ≠ tq := by
    obtain ⟨a1, a2, _⟩ := D3.tracked
    exact ⟨fun z => a1 (by rw [z]; exact nq), fun z => a2 (by rw [z]; exact nq)⟩
  generalize (upd (upd H2 tq (HO.tup [V.str (Str.ofString "1")])) L (HO.lst [xo, V.str (Str.ofString ""), V.str (Str.ofString "("), V.str s13, V.str s12, V.int 7, V.ref tq])) = H4 at s4 hL hq4 s34 D4 dao4 ⊢
  refine ⟨_, rfl, d, la, lb, 7, b + 17, rfl, by decide, by decide, D4, fun q H5 q0 q1 D5 k5 => ?_⟩
  have hL5 := k5 _ _ hL (by rintro (z | z); exact nLd.1 z.symm; exact nLd.2 z.symm)
  have hq5 := k5 _ _ hq4 (by rintro (z | z); exact nqd.1 z.symm; exact nqd.2 z.symm)
  have dao5 : Da Kd.nil H5 xo eo := by
    have kk : Keep (trk H1) H4 H5 := fun c o e n => k5 c o e (fun z => n (by
      obtain ⟨a1, a2, _⟩ := D2.tracked
      rcases z with z | z <;> rw [z] <;> assumption))
    exact (dao4.keep kk).sub fun _ z => z.elim
  have pick : ∃ v e, atI ([xo, V.str (Str.ofString ""), V.str (Str.ofString "("), V.str s13, V.str s12, V.int 7, V.ref tq] : List V) q = some v ∧ Da Kd.nil H5 v e ∧ txOk e := by
    have st : ∀ z : Str, z.length ≤ 860 → txOk (.str z) := fun z hz s e => by cases e; exact hz
    have : q = 0 ∨ q = 1 ∨ q = 2 ∨ q = 3 ∨ q = 4 ∨ q = 5 ∨ q = 6 := by omega
    rcases this with h | h | h | h | h | h | h <;> subst h
    · exact ⟨xo, eo, rfl, dao5, odd_tx mem⟩
    · exact ⟨_, _, rfl, .str _, st _ (by decide +kernel)⟩
    · exact ⟨_, _, rfl, .str _, st _ (by decide +kernel)⟩
    · exact ⟨_, _, rfl, .str _, st _ l13⟩
    · exact ⟨_, _, rfl, .str _, st _ l12⟩
    · exact ⟨_, _, rfl, .int _, fun s e => nomatch e⟩
    · exact ⟨_, .tuple [.str (Str.ofString "1")], rfl, .tup (fun z => z.elim) hq5 (by show 1 ≤ 1000; decide) (.cons (.str _) .nil), fun s e => nomatch e⟩
  obtain ⟨v, e, hv, dv, te⟩ := pick
  refine ⟨L, _, q, v, rfl, rfl, SqL.of hL5, hv, ?_⟩
  exact ⟨_, rfl, nx H5 v e _ (D5.less (by omega)) dv te⟩
/-- what is due -/
def tDu : TS := fun D σ H => ∃ (va : V) (d : Addr) (v : V) (e : PyData) (y2 y3 y4 y6 y7 y8 y9 y10 y11 y12 : Option V), σ = SL va d y2 y3 y4 (some v) y6 y7 y8 y9 y10 y11 y12 ∧ Da Kd.nil H v e ∧ txOk e ∧
  ∀ (H' : Hp) (u : V), Same H H' → DueAt H' u e → D.nx (SL va d y2 y3 y4 (some v) y6 y7 y8 y9 y10 y11 (some u)) H'
/-- both are the same -/
def tEn : TS := fun D σ H => ∃ (va : V) (d : Addr) (v u : V) (e : PyData) (y2 y3 y4 y6 y7 y8 y9 y10 y11 : Option V), σ = SL va d y2 y3 y4 (some v) y6 y7 y8 y9 y10 y11 (some u) ∧ Da Kd.nil H v e ∧ txOk e ∧ DueAt H u e ∧
  ∀ (H' : Hp), Same H H' → D.nx (SL va d y2 y3 y4 (some v) y6 y7 y8 y9 y10 y11 (some u)) H'
theorem segD (hr : Room 40 (XL P w K mg base f cdv A out s H0).A) (E : LE P w K mg base) : PS (XL P w K mg base f cdv A out s H0) (turnS 5) tDu := by
  have hr2 := hr.mono (show 2 ≤ 40 by decide)
  refine ps_imp (ps_set (i := 12) scLaw.nd rfl (.inl rfl) (pe_ifExp (pt_val (pe_callB call_isi (by rfl) E.B.isi boot_isinstance (pa_cons (pv 5) (pa_cons (pe_bltn (v := .ty "str") (by rfl) E.B.str PyProof.Rows.boot_str rfl) pa_nil)))) (pe_cal E.due hr2 (by rfl) (pa_cons (pv 5) pa_nil)) (pe_un un_neg pe_int))) (fun D σ H h => ?_)
  obtain ⟨va, d, v, e, y2, y3, y4, y6, y7, y8, y9, y10, y11, y12, rfl, dv, te, nx⟩ := h
  refine ⟨_, rfl, _, _, _, _, isStr e, rfl, .ty _, dv.ty, kit_ty (kt_str e), _, rfl, ?_⟩
  cases hs : isStr e with
  | true =>
    obtain ⟨s, rfl⟩ : ∃ s, e = .str s := by cases e <;> first | exact ⟨_, rfl⟩ | cases hs
    have ev : v = .str s := by cases dv; rfl
    subst ev
    have sl := te s rfl
    refine iteT ⟨_, rfl, s, rfl, by omega, fun n hn H' s' => ?_, fun t ht H' r u s' hr tu => ?_⟩
    · exact nx H' _ s' (.inr ⟨s, rfl, sl, .inl ⟨n, hn, rfl⟩⟩)
    · exact nx H' _ s' (.inr ⟨s, rfl, sl, .inr ⟨t, r, u, ht, rfl, hr, tu⟩⟩)
  | false => exact iteF ⟨1, rfl, nx H _ (Same.refl _) (.inl ⟨hs, rfl⟩)⟩
theorem segE (hgu : (XL P w K mg base f cdv A out s H0).A.guards = some []) (hr : Room 40 (XL P w K mg base f cdv A out s H0).A) (E : LE P w K mg base) : PS (XL P w K mg base f cdv A out s H0) (turnS 6) tEn := by
  have hr16 := hr.mono (show 16 ≤ 40 by decide)
  have hr19 := hr.mono (show 19 ≤ 40 by decide)
  refine ps_imp (ps_if (pt_not (pt_val (pe_calG E.same hgu hr16 (by rfl) (pa_cons (pe_cal E.told hr19 (by rfl) (pa_cons (pv 5) pa_nil)) (pa_cons (pv 12) pa_nil))))) (pss_one (ps_ret pe_bl)) pss_nil) (fun D σ H h => ?_)
  obtain ⟨va, d, v, u, e, y2, y3, y4, y6, y7, y8, y9, y10, y11, rfl, dv, te, du, nx⟩ := h
  refine ⟨_, rfl, v, e, rfl, dv, ?_⟩
  rcases du with ⟨hs, rfl⟩ | ⟨s, rfl, sl, du⟩
  · refine .inr ⟨hs, fun H1 s1 => ?_⟩
    refine ⟨_, rfl, _, _, .int (-1), .int (-1), rfl, .int _, .int _, (show 0 < 16 by decide), fun H2 s2 => ⟨_, rfl, ?_⟩⟩
    exact iteE (by show (!sameD _ _) = false; rw [sameD_refl]; rfl) (nx H2 (s1.trans s2))
  · refine .inl ⟨s, rfl, by omega, fun n hn H1 s1 => ?_, fun t ht H1 r y s1 hr1 ty => ?_⟩
    · have rn := (red_run hn).1 _ rfl
      rcases du with ⟨m, hm, rfl⟩ | ⟨t, r, y, ht, _⟩
      · rw [rn] at hm
        cases hm
        refine ⟨_, rfl, _, _, .int ((n : Nat) : Int), .int ((n : Nat) : Int), rfl, .int _, .int _, (show 0 < 16 by decide), fun H2 s2 => ⟨_, rfl, ?_⟩⟩
        exact iteE (by show (!sameD _ _) = false; rw [sameD_refl]; rfl) (nx H2 (s1.trans s2))
      · rw [rn] at ht; cases ht
    · have rn := (red_run ht).2 _ rfl
      rcases du with ⟨m, hm, _⟩ | ⟨t2, r2, y2', ht2, rfl, hr2, ty2⟩
      · rw [rn] at hm; cases hm
      · rw [rn] at ht2
        cases ht2
        have td : t.dep ≤ 12 := by
          cases ht with
          | all h =>
            obtain ⟨_, _, _, sz, _⟩ := h.left _ _ _ _ rfl
            have := t.size_dep
            omega
        have d1 : Da Kd.nil H1 (.ref r) (.list [t.d]) := .lst (fun z => z.elim) hr1 (by show 1 ≤ 1000; decide) (.cons ty.da .nil)
        have d2 : Da Kd.nil H1 (.ref r2) (.list [t.d]) := .lst (fun z => z.elim) (s1 _ _ hr2) (by show 1 ≤ 1000; decide) (.cons (ty2.same s1).da .nil)
        refine ⟨_, rfl, _, _, _, _, rfl, d1, d2, ?_, fun H2 s2 => ⟨_, rfl, ?_⟩⟩
        · show max t.d.depth 0 + 1 < 16
          rw [Tr.d_dep]; omega
        · exact iteE (by show (!sameD _ _) = false; rw [sameD_refl]; rfl) (nx H2 (s1.trans s2))
end
def spLaw (K : PySem.W.Frag) : Sp := fun vs H Q _ => ∃ (a : Addr) (ns : List Int), vs = [.ref a] ∧ SqL K H a (ns.map V.int) ∧ ns.length ≤ 63 ∧ ∀ H', Q (.bl true) H'
theorem ok_law {P : Program} {w : World} {K : PySem.W.Frag} {mg : Str → Option Value} {base : Heap} {f : Addr} {fd : FuncData} (F : Fun K "law" "law" sLaw f fd) (E : LE P w K mg base) : FnG P w K mg base 41 f fd ["_law_script"] (spLaw K) := by
  refine okG F scLaw (fun vs H Q E h => ?_) (fun cdv A out s H vs Q hgu hr h => ?_)
  · obtain ⟨a, ns, rfl, _⟩ := h
    rfl
  · obtain ⟨a, ns, rfl, hS, hlen, q⟩ := h
    have hr1 := hr.mono (show 1 ≤ 40 by decide)
    have hr5 := hr.mono (show 5 ≤ 40 by decide)
    have hr14 := hr.mono (show 14 ≤ 40 by decide)
    refine ⟨_, (pss_cons (ps_set (i := 1) scLaw.nd rfl (.inl rfl) (pe_cal E.deck hr1 (by rfl) (pa_cons (pv 0) pa_nil)))
      (pss_cons (ps_for PassesOwn.never rfl (pi_range1 (by rfl) E.B.range (pa_cons pe_int pa_nil)) (pg_name (i := 2) scLaw.nd rfl (.inl rfl))
        (pss_cons (ps_set (i := 3) scLaw.nd rfl (.inl rfl) (pe_cal E.tree hr5 (by rfl) (pa_cons (pv 1) (pa_cons pe_int (pa_cons pe_int pa_nil)))))
      (pss_cons (segG hr E)
      (pss_cons (ps_set (i := 5) scLaw.nd rfl (.inl rfl) (pe_cal E.ltx hr14 (by rfl) (pa_cons (pv 3) pa_nil)))
      (pss_cons (segC hr E) (pss_cons (segO hr E) (pss_cons (segD hr E) (pss_one (segE hgu hr E)))))))))
      (pss_one (ps_ret pe_bl)))), ?_⟩
    refine ⟨_, rfl, a, ns, rfl, hS, hlen, fun H1 d la lb s1 nd nla nlb D1 => ?_⟩
    refine ⟨8, rfl, by decide, by decide, for_range (lo := 0) (n := 8) (fun i σ H2 => ∃ (y2 y3 y4 y5 y6 y7 y8 y9 y10 y11 y12 : Option V), σ = SL (.ref a) d y2 y3 y4 y5 y6 y7 y8 y9 y10 y11 y12 ∧ DeckAt H2 d la lb (1152921504606846976 - 100 * i))
      ⟨none, none, none, none, none, none, none, none, none, none, none, rfl, D1⟩ (fun i σ H2 hi hP => ?_) (fun σ H2 hP => ?_)⟩
    · obtain ⟨y2, y3, y4, y5, y6, y7, y8, y9, y10, y11, y12, rfl, D2⟩ := hP
      obtain ⟨b, hb⟩ : ∃ b, 1152921504606846976 - 100 * i = (((b + 20) + 20) + 20) + (3 * 2 ^ 3 - 2) := ⟨1152921504606846976 - 100 * i - 82, by omega⟩
      rw [hb] at D2
      refine ⟨_, rfl, d, la, lb, 6, 3, ((b + 20) + 20) + 20, rfl, by decide, by decide, by decide, D2, fun H3 v1 t1 g3 tv1 to1 td1 ts1 => ?_⟩
      have p3 : (2 : Nat) ^ 3 = 8 := rfl
      rw [p3] at ts1
      refine ⟨_, d, la, lb, (b + 20) + 20, v1, t1, _, _, _, _, _, _, _, _, _, _, rfl, g3.now, tv1, to1, td1, by omega, fun H4 v4 t4 z4 D4 tv4 to4 td4 ts4 => ?_⟩
      refine ⟨_, rfl, v4, t4, rfl, tv4, by omega, tr_up (by decide) to4, by omega, ?_⟩
      have xl : (sS t4.tx).length ≤ 106 := by rw [sS_len, Tr.tx_len]; omega
      refine ⟨_, d, la, lb, b + 20, _, _, _, _, _, _, _, _, _, _, _, rfl, D4, xl, fun H5 x5 z6 z7 z8 z9 z10 D5 xl5 => ?_⟩
      refine ⟨_, d, la, lb, b, x5, _, _, _, _, _, _, _, _, _, _, rfl, D5, xl5, fun H6 v6 e6 z11 D6 dv6 te6 => ?_⟩
      refine ⟨_, d, v6, e6, _, _, _, _, _, _, _, _, _, _, rfl, dv6, te6, fun H7 u7 s7 du7 => ?_⟩
      refine ⟨_, d, v6, u7, e6, _, _, _, _, _, _, _, _, _, rfl, dv6.same s7, te6, du7, fun H8 s8 => ?_⟩
      exact ⟨_, _, _, _, _, _, _, _, _, _, _, rfl, (D6.same (s7.trans s8)).less (by omega)⟩
    · obtain ⟨y2, y3, y4, y5, y6, y7, y8, y9, y10, y11, y12, rfl, _⟩ := hP
      exact q H2
end Kc

set_option Elab.async false
set_option linter.all false
set_option maxRecDepth 100000
set_option maxHeartbeats 4000000
/-! The law's end, where the table of modules is known to stand. -/
namespace Kg
open PySem PySem.Spec PyProof.Rows L2
/-! ### the law's end -/
theorem endH {P : Program} {w : World} {K : PySem.W.Frag} {mg mb : Str → Option Value} {k : Nat} {fa a : Addr} {fd : FuncData} {x : Str} {sp : Sp} {s₁ : Shared} {vs : List Value} {ns : List Int}
    (KX : K.In s₁.heap) (hns : s₁.heap.Ns mainGlobals mg) (hb : s₁.heap.Ns builtinsNs mb) (hbb : ∀ x : Str, x ≠ "__name__" → mb x = bootBuiltins x) (hlim : s₁.heap.NoLimit) (hg : s₁.gens = #[])
    (ha : s₁.heap.get? a = some { cls := .type "list", data := .seq vs.toArray }) (hi : IntsAre vs ns) (hl : ns.length ≤ sizeLine) (hr : Room k callerA)
    (hsm : ∃ o es n, s₁.heap.get? sysModules = some o ∧ o.data = .dict es n) (F : ∀ base : Heap, K.In base → base.Ns mainGlobals mg → (∃ o, base.get? sysModules = some o) → FnG P w K mg base k fa fd [x] sp) (hbind : ∀ (s : Shared) (u : Value), BindsTo s fd ⟨[u], []⟩ [(x, u)])
    (hsp : ∀ H : Hp, Only H → SqL K H a (ns.map V.int) → sp [.ref a] H (fun v _ => v = .bl true) E0) :
    codeAny (model P w) callerA (.call (.ref fa) ⟨[.ref a], []⟩) (fun r s' => r = .ok (.ret (.bool true)) ∧ OldK s₁.heap s'.heap ∧ s'.os = s₁.os ∧ AllBare s'.gens) s₁ := by
  have main : ∀ H : Hp, Only H → SqL K H a (ns.map V.int) → HOk P w H s₁.heap → (∀ b o, H b = some o → b = a ∧ K.lookup a = none) →
      codeAny (model P w) callerA (.call (.ref fa) ⟨[.ref a], []⟩) (fun r s' => r = .ok (.ret (.bool true)) ∧ OldK s₁.heap s'.heap ∧ s'.os = s₁.os ∧ AllBare s'.gens) s₁ := by
    intro H only sq ok one
    have notD : ∀ {b : Addr} {o : Obj} {es : Array DictEntry} {n : Nat}, s₁.heap.get? b = some o → o.data = .dict es n → H b = none := by
      intro b o es n e d
      cases q : H b with
      | none => rfl
      | some u =>
        rw [(one b u q).1, ha] at e
        rw [← Option.some.inj e] at d
        exact nomatch d
    have hid : ∀ {b : Addr} {m : Str → Option Value}, s₁.heap.Ns b m → (hidT s₁.heap H).Ns b m := by
      intro b m z
      obtain ⟨o, es, n, e, d, r⟩ := z
      exact ⟨o, es, n, hidT_get e (notD e d), d, r⟩
    have kb : K.In (hidT s₁.heap H) := by
      intro b o e
      refine hidT_get (KX b o e) ?_
      cases q : H b with
      | none => rfl
      | some u =>
        obtain ⟨z1, z2⟩ := one b u q
        rw [z1, z2] at e
        exact nomatch e
    obtain ⟨mc, l1, l2⟩ := hlim
    have env : Env0 P w K mg (hidT s₁.heap H) callerA [] s₁ H :=
      { frames := rfl, mod := ⟨kb, hid hns, ⟨mb, hid hb, hbb⟩, ⟨mc, hid l1, l2⟩⟩, bs := fun b o e => of_hidT e, bsz := Nat.le_of_eq (hidT_size _ _), funs := trivial, frf := fun b z => (nomatch (show b ∈ ([] : List Addr) from z)), hok := ok, bare := .of_eq hg }
    obtain ⟨osm, esm, nsm, hsm1, hsm2⟩ := hsm
    refine codeAny_mono ((F _ kb (hid hns) ⟨osm, hidT_get hsm1 (notD hsm1 hsm2)⟩).go callerA [] s₁ H ⟨[.ref a], []⟩ [.ref a] [.ref a] _ rfl hr env (hbind s₁ (.ref a)) (.cons rfl .nil) (hsp H only sq)) fun r s' z => ?_
    match r, z with
    | .error _, z => exact z.elim
    | .ok .next, z => exact z.elim
    | .ok .brk, z => exact z.elim
    | .ok .cont, z => exact z.elim
    | .ok (.ret u), ⟨v, H', zo, zb, un, ok', rv, ev⟩ =>
      have ev' : v = .bl true := ev
      rw [ev'] at rv
      have eu : u = Value.bool true := rv
      refine ⟨by rw [eu], OldK.of_keep fun b o e => ?_, zo, zb⟩
      cases q : H b with
      | none => exact un.keep b o e q (fun y => nomatch (show b ∈ ([] : List Addr) from y)) (fun y => nomatch y)
      | some u2 =>
        cases only b with
        | inl y => rw [q] at y; exact nomatch y
        | inr y =>
          obtain ⟨ob, xs, y⟩ := y
          have y1 : ObjOk P w H s₁.heap b (.frz ob (.lst xs)) := ok b _ y
          have y2 : ObjOk P w H' s'.heap b (.frz ob (.lst xs)) := ok' b _ (un.frzs b ob _ y)
          have y3 : some o = some ob := e.symm.trans y1.1
          rw [Option.some.inj y3]
          exact y2.1
  have rv := vals_ints hi
  cases hk : K.lookup a with
  | none =>
    let H0 : Hp := fun b => if b = a then some (.frz { cls := .type "list", data := .seq vs.toArray } (.lst (ns.map V.int))) else none
    have at0 : ∀ b o, H0 b = some o → b = a ∧ o = .frz { cls := .type "list", data := .seq vs.toArray } (.lst (ns.map V.int)) := by
      intro b o e
      by_cases z : b = a
      · exact ⟨z, (Option.some.inj ((if_pos z).symm.trans e)).symm⟩
      · exact nomatch ((if_neg z).symm.trans e)
    refine main H0 (fun b => ?_) (.inl (.inr ⟨_, if_pos rfl⟩)) (fun b o e => ?_) (fun b o e => ⟨(at0 b o e).1, hk⟩)
    · cases q : H0 b with
      | none => exact .inl rfl
      | some o => exact .inr ⟨_, _, by rw [(at0 b o q).2]⟩
    · obtain ⟨z1, z2⟩ := at0 b o e
      rw [z1, z2]
      exact ⟨ha, by rw [List.length_map]; exact hl, vs, _, rv, ha⟩
  | some o =>
    have eo : ({ cls := .type "list", data := .seq vs.toArray } : Obj) = o := Option.some.inj (ha.symm.trans (KX a o hk))
    rw [← eo] at hk
    refine main (fun _ => none) (fun _ => .inl rfl) (.inr ⟨_, vs.toArray, _, hk, rfl, rfl, rfl, ?_, by simpa using rv⟩) (fun b o e => nomatch (show (none : Option HO) = some o from e)) (fun b o e => nomatch (show (none : Option HO) = some o from e))
    rw [List.size_toArray, hi.length]; exact hl
/-- what k_head leaves, from the law's promise; the script's bits are told -/
theorem walkH {l : PySem.W.OpenLaw} {n k : Nat} {q : Program} {loose : List Str} {XP : (Str → Option Value) → Heap → Prop} {YP : World → Heap → Prop} {d : DefRec} {K : Params → PySem.W.Frag} {sp : PySem.W.Frag → Sp} {x : Str}
    (himp : importsNone q = true) (hn : l.most = some n) (hn2 : n ≤ sizeLine) (hdf : d.params.defaults = []) (hr : Room k callerA) (hY : ∀ (w : World) (h : Heap), YP w h → (K w.params).In h)
    (F : ∀ (w : World) (mg : Str → Option Value) (fa : Addr) (h : Heap), (K w.params).In h → h.Ns mainGlobals mg → mg d.name = some (.ref fa) →
      ∃ fd : FuncData, (∀ (s : Shared) (u : Value), BindsTo s fd ⟨[u], []⟩ [(x, u)]) ∧ ∀ base : Heap, (K w.params).In base → base.Ns mainGlobals mg → (∃ o, base.get? sysModules = some o) → FnG l.prog w (K w.params) mg base k fa fd [x] (sp (K w.params)))
    (hsp : ∀ (K : PySem.W.Frag) (H : Hp) (a : Addr) (ns : List Int), ns.length ≤ n → (∀ z ∈ ns, Builtin.Int.intBits z ≤ 1048576) → Only H → SqL K H a (ns.map V.int) → sp K [.ref a] H (fun v _ => v = .bl true) E0) :
    PySem.W.WalkO q loose XP YP l.row.toRowW d [] (fun f vs => PySem.call f vs) := by
  refine Att.attach_callB hn hdf fun w s₀ s₁ mg mb fa o pm cd dc a vs ns G Y ho hd hcd hmg hobj hints hlen hbits hgen => ?_
  obtain ⟨fd, hbi, hF⟩ := F w mg fa _ (hY w _ Y) G.T.g hmg
  exact endH (hY w _ Y) G.T.g G.T.b G.T.builtins G.T.nolimit hgen hobj hints (Nat.le_trans hlen hn2) hr (by
    obtain ⟨mm, ⟨o, es, n', e1, e2, _⟩, _⟩ := (G.T.seer himp).mods
    exact ⟨o, es, n', e1, e2⟩) hF hbi fun H hO hS => hsp (K w.params) H a ns hlen hbits hO hS
end Kg

set_option Elab.async false
set_option linter.all false
set_option maxRecDepth 100000
set_option maxHeartbeats 8000000
namespace Kc
open PySem PySem.Spec PyProof.Rows L2 Kg Kd Kr Kf Kl
theorem ba2 {a b : Bool} (h : (a && b) = true) : a = true ∧ b = true := Bool.and_eq_true_iff.mp h
def excCB (K : PySem.W.Frag) (C : Addr) : Bool := decide (PySem.W.findIn K (.ref C) "__getattribute__" = some (some (.builtin "BaseException.__getattribute__"))) && (decide (PySem.W.findIn K (.ref C) "__getattr__" = some none) && (decide (PySem.W.subIn K (.ref C) (.type "BaseException") = some true) && (PySem.W.hasDictIn K C &&
  (decide (PySem.W.findIn K (.ref C) "__class__" = some (some (.builtin "object.__class__"))) && (decide (PySem.W.specialIn K (.builtin "object.__class__") "__get__" = some (some (.builtin "getset_descriptor.__get__"))) && (decide (PySem.W.takesIn K (.builtin "object.__class__") = some true) && decide (PySem.W.mroIn K C (.type "object") = some true)))))))
theorem excCB_ok {K : PySem.W.Frag} {C : Addr} (h : excCB K C = true) : ExcC K C := by
  obtain ⟨h1, h⟩ := ba2 h
  obtain ⟨h2, h⟩ := ba2 h
  obtain ⟨h3, h⟩ := ba2 h
  obtain ⟨h4, h⟩ := ba2 h
  obtain ⟨h5, h⟩ := ba2 h
  obtain ⟨h6, h⟩ := ba2 h
  obtain ⟨h7, h8⟩ := ba2 h
  exact ⟨of_decide_eq_true h1, of_decide_eq_true h2, of_decide_eq_true h3, h4, of_decide_eq_true h5, of_decide_eq_true h6, of_decide_eq_true h7, of_decide_eq_true h8⟩
def bkB (K : PySem.W.Frag) (C KE fI : Addr) : Bool := decide (PySem.W.findIn K (.ref C) "__setattr__" = some (some (.builtin "object.__setattr__"))) && (decide (PySem.W.typeIn K (.ref C) = some (.type "type")) && (PySem.W.keepIn K (.ref C) && (decide (PySem.W.findIn K (.ref C) "place" = some none) &&
  (decide (PySem.W.typeIn K (.ref fI) = some (.type "function")) && (excCB K C && decide (PySem.W.exmOne K (.ref C) (.ref C) = some true))))))
theorem btB_ok {K : PySem.W.Frag} {mg : Str → Option Value} {C KE fI NN : Addr} {nm qq : Str} {bs : List Value} {sn : List Str} {sub : List Value} {ab : Bool} {col : Option Bool} {dd : Option Addr} {m0 m1 m2 m3 m5 : Option Value}
    (gB : mg "BadTree" = some (.ref C)) (y : PySem.W.findIn K (.ref C) "__init__" = some (some (.ref fI))) (tL : K.lookup C = some (excClassObj nm qq C NN bs [.ref KE, .type "ValueError", .type "Exception", .type "BaseException", .type "object"] true sn sub ab col dd m0 m1 m2 m3 m5 "ValueError.__new__")) (h : bkB K C KE fI = true) : BTC K mg C fI := by
  obtain ⟨h1, h⟩ := ba2 h
  obtain ⟨h2, h⟩ := ba2 h
  obtain ⟨h3, h⟩ := ba2 h
  obtain ⟨h4, h⟩ := ba2 h
  obtain ⟨h5, h⟩ := ba2 h
  obtain ⟨h6, h7⟩ := ba2 h
  have x := excCB_ok h6
  exact ⟨⟨⟨nm, qq, NN, bs, _, sn, sub, ab, col, dd, m0, m1, m2, m3, m5, tL, rfl⟩, of_decide_eq_true h1, x.hs, of_decide_eq_true h2, h3⟩, of_decide_eq_true h4, y, of_decide_eq_true h5, ⟨x.hg, x.hk, x.hs, x.hd⟩, of_decide_eq_true h7, gB⟩
/-! ### what the top has written -/
theorem all_mk {l : PySem.W.OpenLaw} {w : World} {K : PySem.W.Frag} {h : Heap} {mg : Str → Option Value} {fa f_law_deck f_law_next f_law_same f_law_odd f_law_tree f_law_text f_behind_sign f_tree_at f_read_tree f_law_due f_law_told f_law c_BadTree f_i_BadTree c_KindError : Addr} (X : K.In h) (G : h.Ns mainGlobals mg) (hfa : mg "law" = some (.ref fa))
    (a_law_deck : PySem.W.nsIn K mainGlobals "_law_deck" = some (some (.ref f_law_deck)))
    {oclaw_deck kVlaw_deck dclaw_deck pmlaw_deck cdlaw_deck ctlaw_deck : Value} {odlaw_deck anlaw_deck : Option Addr} {sllaw_deck : Array (Option Value)}
    (l_law_deck : K.lookup f_law_deck = some ⟨oclaw_deck, odlaw_deck, .func (PySem.W.fnOf "_law_deck" "_law_deck" (defArgs sDeck) (defBody sDeck) (defScope sDeck) .none kVlaw_deck dclaw_deck pmlaw_deck anlaw_deck cdlaw_deck ctlaw_deck), sllaw_deck⟩)
    (x_law_deck : PySem.W.codeIn K cdlaw_deck "_law_deck" = true)
    (k_law_deck : PySem.W.keepIn K (.ref f_law_deck) = true)
    (a_law_next : PySem.W.nsIn K mainGlobals "_law_next" = some (some (.ref f_law_next)))
    {oclaw_next kVlaw_next dclaw_next pmlaw_next cdlaw_next ctlaw_next : Value} {odlaw_next anlaw_next : Option Addr} {sllaw_next : Array (Option Value)}
    (l_law_next : K.lookup f_law_next = some ⟨oclaw_next, odlaw_next, .func (PySem.W.fnOf "_law_next" "_law_next" (defArgs sNext) (defBody sNext) (defScope sNext) .none kVlaw_next dclaw_next pmlaw_next anlaw_next cdlaw_next ctlaw_next), sllaw_next⟩)
    (x_law_next : PySem.W.codeIn K cdlaw_next "_law_next" = true)
    (k_law_next : PySem.W.keepIn K (.ref f_law_next) = true)
    (a_law_same : PySem.W.nsIn K mainGlobals "_law_same" = some (some (.ref f_law_same)))
    {oclaw_same kVlaw_same dclaw_same pmlaw_same cdlaw_same ctlaw_same : Value} {odlaw_same anlaw_same : Option Addr} {sllaw_same : Array (Option Value)}
    (l_law_same : K.lookup f_law_same = some ⟨oclaw_same, odlaw_same, .func (PySem.W.fnOf "_law_same" "_law_same" (defArgs sSame) (defBody sSame) (defScope sSame) .none kVlaw_same dclaw_same pmlaw_same anlaw_same cdlaw_same ctlaw_same), sllaw_same⟩)
    (x_law_same : PySem.W.codeIn K cdlaw_same "_law_same" = true)
    (k_law_same : PySem.W.keepIn K (.ref f_law_same) = true)
    (a_law_odd : PySem.W.nsIn K mainGlobals "_law_odd" = some (some (.ref f_law_odd)))
    {oclaw_odd kVlaw_odd dclaw_odd pmlaw_odd cdlaw_odd ctlaw_odd : Value} {odlaw_odd anlaw_odd : Option Addr} {sllaw_odd : Array (Option Value)}
    (l_law_odd : K.lookup f_law_odd = some ⟨oclaw_odd, odlaw_odd, .func (PySem.W.fnOf "_law_odd" "_law_odd" (defArgs sOdd) (defBody sOdd) (defScope sOdd) .none kVlaw_odd dclaw_odd pmlaw_odd anlaw_odd cdlaw_odd ctlaw_odd), sllaw_odd⟩)
    (x_law_odd : PySem.W.codeIn K cdlaw_odd "_law_odd" = true)
    (k_law_odd : PySem.W.keepIn K (.ref f_law_odd) = true)
    (a_law_tree : PySem.W.nsIn K mainGlobals "_law_tree" = some (some (.ref f_law_tree)))
    {oclaw_tree kVlaw_tree dclaw_tree pmlaw_tree cdlaw_tree ctlaw_tree : Value} {odlaw_tree anlaw_tree : Option Addr} {sllaw_tree : Array (Option Value)}
    (l_law_tree : K.lookup f_law_tree = some ⟨oclaw_tree, odlaw_tree, .func (PySem.W.fnOf "_law_tree" "_law_tree" (defArgs sTree) (defBody sTree) (defScope sTree) .none kVlaw_tree dclaw_tree pmlaw_tree anlaw_tree cdlaw_tree ctlaw_tree), sllaw_tree⟩)
    (x_law_tree : PySem.W.codeIn K cdlaw_tree "_law_tree" = true)
    (k_law_tree : PySem.W.keepIn K (.ref f_law_tree) = true)
    (a_law_text : PySem.W.nsIn K mainGlobals "_law_text" = some (some (.ref f_law_text)))
    {oclaw_text kVlaw_text dclaw_text pmlaw_text cdlaw_text ctlaw_text : Value} {odlaw_text anlaw_text : Option Addr} {sllaw_text : Array (Option Value)}
    (l_law_text : K.lookup f_law_text = some ⟨oclaw_text, odlaw_text, .func (PySem.W.fnOf "_law_text" "_law_text" (defArgs sLtx) (defBody sLtx) (defScope sLtx) .none kVlaw_text dclaw_text pmlaw_text anlaw_text cdlaw_text ctlaw_text), sllaw_text⟩)
    (x_law_text : PySem.W.codeIn K cdlaw_text "_law_text" = true)
    (k_law_text : PySem.W.keepIn K (.ref f_law_text) = true)
    (a_behind_sign : PySem.W.nsIn K mainGlobals "behind_sign" = some (some (.ref f_behind_sign)))
    {ocbehind_sign kVbehind_sign dcbehind_sign pmbehind_sign cdbehind_sign ctbehind_sign : Value} {odbehind_sign anbehind_sign : Option Addr} {slbehind_sign : Array (Option Value)}
    (l_behind_sign : K.lookup f_behind_sign = some ⟨ocbehind_sign, odbehind_sign, .func (PySem.W.fnOf "behind_sign" "behind_sign" (defArgs sBhs) (defBody sBhs) (defScope sBhs) .none kVbehind_sign dcbehind_sign pmbehind_sign anbehind_sign cdbehind_sign ctbehind_sign), slbehind_sign⟩)
    (x_behind_sign : PySem.W.codeIn K cdbehind_sign "behind_sign" = true)
    (k_behind_sign : PySem.W.keepIn K (.ref f_behind_sign) = true)
    (a_tree_at : PySem.W.nsIn K mainGlobals "tree_at" = some (some (.ref f_tree_at)))
    {octree_at kVtree_at dctree_at pmtree_at cdtree_at cttree_at : Value} {odtree_at antree_at : Option Addr} {sltree_at : Array (Option Value)}
    (l_tree_at : K.lookup f_tree_at = some ⟨octree_at, odtree_at, .func (PySem.W.fnOf "tree_at" "tree_at" (defArgs sTat) (defBody sTat) (defScope sTat) .none kVtree_at dctree_at pmtree_at antree_at cdtree_at cttree_at), sltree_at⟩)
    (x_tree_at : PySem.W.codeIn K cdtree_at "tree_at" = true)
    (k_tree_at : PySem.W.keepIn K (.ref f_tree_at) = true)
    (a_read_tree : PySem.W.nsIn K mainGlobals "read_tree" = some (some (.ref f_read_tree)))
    {ocread_tree kVread_tree dcread_tree pmread_tree cdread_tree ctread_tree : Value} {odread_tree anread_tree : Option Addr} {slread_tree : Array (Option Value)}
    (l_read_tree : K.lookup f_read_tree = some ⟨ocread_tree, odread_tree, .func (PySem.W.fnOf "read_tree" "read_tree" (defArgs sRdt) (defBody sRdt) (defScope sRdt) .none kVread_tree dcread_tree pmread_tree anread_tree cdread_tree ctread_tree), slread_tree⟩)
    (x_read_tree : PySem.W.codeIn K cdread_tree "read_tree" = true)
    (k_read_tree : PySem.W.keepIn K (.ref f_read_tree) = true)
    (a_law_due : PySem.W.nsIn K mainGlobals "_law_due" = some (some (.ref f_law_due)))
    {oclaw_due kVlaw_due dclaw_due pmlaw_due cdlaw_due ctlaw_due : Value} {odlaw_due anlaw_due : Option Addr} {sllaw_due : Array (Option Value)}
    (l_law_due : K.lookup f_law_due = some ⟨oclaw_due, odlaw_due, .func (PySem.W.fnOf "_law_due" "_law_due" (defArgs sDu48) (defBody sDu48) (defScope sDu48) .none kVlaw_due dclaw_due pmlaw_due anlaw_due cdlaw_due ctlaw_due), sllaw_due⟩)
    (x_law_due : PySem.W.codeIn K cdlaw_due "_law_due" = true)
    (k_law_due : PySem.W.keepIn K (.ref f_law_due) = true)
    (a_law_told : PySem.W.nsIn K mainGlobals "_law_told" = some (some (.ref f_law_told)))
    {oclaw_told kVlaw_told dclaw_told pmlaw_told cdlaw_told ctlaw_told : Value} {odlaw_told anlaw_told : Option Addr} {sllaw_told : Array (Option Value)}
    (l_law_told : K.lookup f_law_told = some ⟨oclaw_told, odlaw_told, .func (PySem.W.fnOf "_law_told" "_law_told" (defArgs sTo48) (defBody sTo48) (defScope sTo48) .none kVlaw_told dclaw_told pmlaw_told anlaw_told cdlaw_told ctlaw_told), sllaw_told⟩)
    (x_law_told : PySem.W.codeIn K cdlaw_told "_law_told" = true)
    (k_law_told : PySem.W.keepIn K (.ref f_law_told) = true)
    (a_law : PySem.W.nsIn K mainGlobals "law" = some (some (.ref f_law)))
    {oclaw kVlaw dclaw pmlaw cdlaw ctlaw : Value} {odlaw anlaw : Option Addr} {sllaw : Array (Option Value)}
    (l_law : K.lookup f_law = some ⟨oclaw, odlaw, .func (PySem.W.fnOf "law" "law" (defArgs sLaw) (defBody sLaw) (defScope sLaw) .none kVlaw dclaw pmlaw anlaw cdlaw ctlaw), sllaw⟩)
    (x_law : PySem.W.codeIn K cdlaw "law" = true)
    (k_law : PySem.W.keepIn K (.ref f_law) = true)
    (n_KindError : PySem.W.nsIn K mainGlobals "KindError" = some (some (.ref c_KindError)))
    (n_BadTree : PySem.W.nsIn K mainGlobals "BadTree" = some (some (.ref c_BadTree)))
    (y_i_BadTree : PySem.W.findIn K (.ref c_BadTree) "__init__" = some (some (.ref f_i_BadTree)))
    {oci_BadTree kVi_BadTree dci_BadTree pmi_BadTree cdi_BadTree cti_BadTree : Value} {odi_BadTree ani_BadTree : Option Addr} {sli_BadTree : Array (Option Value)}
    (l_i_BadTree : K.lookup f_i_BadTree = some ⟨oci_BadTree, odi_BadTree, .func (PySem.W.fnOf "__init__" "BadTree.__init__" (defArgs sBT) (defBody sBT) (defScope sBT) .none kVi_BadTree dci_BadTree pmi_BadTree ani_BadTree cdi_BadTree cti_BadTree), sli_BadTree⟩)
    (x_i_BadTree : PySem.W.codeIn K cdi_BadTree "BadTree.__init__" = true)
    (k_i_BadTree : PySem.W.keepIn K (.ref f_i_BadTree) = true)
    {nmBadTree qqBadTree : Str} {NNBadTree : Addr} {bsBadTree : List Value} {snBadTree : List Str} {subBadTree : List Value} {abBadTree : Bool} {colBadTree : Option Bool} {ddBadTree : Option Addr} {m0BadTree m1BadTree m2BadTree m3BadTree m5BadTree : Option Value}
    (tL_BadTree : K.lookup c_BadTree = some (excClassObj nmBadTree qqBadTree c_BadTree NNBadTree bsBadTree [.ref c_KindError, .type "ValueError", .type "Exception", .type "BaseException", .type "object"] true snBadTree subBadTree abBadTree colBadTree ddBadTree m0BadTree m1BadTree m2BadTree m3BadTree m5BadTree "ValueError.__new__"))
    (tB_BadTree : bkB K c_BadTree c_KindError f_i_BadTree = true)
    (z_abs : PySem.W.nsIn K mainGlobals "abs" = some none)
    (z_len : PySem.W.nsIn K mainGlobals "len" = some none)
    (z_int : PySem.W.nsIn K mainGlobals "int" = some none)
    (z_isinstance : PySem.W.nsIn K mainGlobals "isinstance" = some none)
    (z_tuple : PySem.W.nsIn K mainGlobals "tuple" = some none)
    (z_list : PySem.W.nsIn K mainGlobals "list" = some none)
    (z_str : PySem.W.nsIn K mainGlobals "str" = some none)
    (z_bool : PySem.W.nsIn K mainGlobals "bool" = some none)
    (z_dict : PySem.W.nsIn K mainGlobals "dict" = some none)
    (z_zip : PySem.W.nsIn K mainGlobals "zip" = some none)
    (z_all : PySem.W.nsIn K mainGlobals "all" = some none)
    (z_repr : PySem.W.nsIn K mainGlobals "repr" = some none)
    (z_range : PySem.W.nsIn K mainGlobals "range" = some none)
    {t_DIGITS : Tok}
    (u_DIGITS : PySem.W.nsIn K mainGlobals "DIGITS" = some (some (.str (Str.ofString "0123456789") t_DIGITS)))
    {t_MAX_ANSWER : Tok}
    (u_MAX_ANSWER : PySem.W.nsIn K mainGlobals "MAX_ANSWER" = some (some (.int 9 t_MAX_ANSWER)))
    {t_MAX_KINDS : Tok}
    (u_MAX_KINDS : PySem.W.nsIn K mainGlobals "MAX_KINDS" = some (some (.int 6 t_MAX_KINDS)))
    {t_MAX_TESTS : Tok}
    (u_MAX_TESTS : PySem.W.nsIn K mainGlobals "MAX_TESTS" = some (some (.int 12 t_MAX_TESTS)))
    : ∃ fd : FuncData, (∀ (s : Shared) (v : Value), BindsTo s fd ⟨[v], []⟩ [("_law_script", v)]) ∧ ∀ base : Heap, K.In base → base.Ns mainGlobals mg → (∃ o, base.get? sysModules = some o) → FnG l.prog w K mg base 41 fa fd ["_law_script"] (spLaw K) := by
  have e := hfa.symm.trans (PySem.W.mg_of X G a_law)
  cases e
  have F_law_deck := fun_mk (st := sDeck) l_law_deck x_law_deck k_law_deck
  have F_law_next := fun_mk (st := sNext) l_law_next x_law_next k_law_next
  have F_law_same := fun_mk (st := sSame) l_law_same x_law_same k_law_same
  have F_law_odd := fun_mk (st := sOdd) l_law_odd x_law_odd k_law_odd
  have F_law_tree := fun_mk (st := sTree) l_law_tree x_law_tree k_law_tree
  have F_law_text := fun_mk (st := sLtx) l_law_text x_law_text k_law_text
  have F_behind_sign := fun_mk (st := sBhs) l_behind_sign x_behind_sign k_behind_sign
  have F_tree_at := fun_mk (st := sTat) l_tree_at x_tree_at k_tree_at
  have F_read_tree := fun_mk (st := sRdt) l_read_tree x_read_tree k_read_tree
  have F_law_due := fun_mk (st := sDu48) l_law_due x_law_due k_law_due
  have F_law_told := fun_mk (st := sTo48) l_law_told x_law_told k_law_told
  have F_law := fun_mk (st := sLaw) l_law x_law k_law
  have F_i_BadTree := fun_mk (st := sBT) l_i_BadTree x_i_BadTree k_i_BadTree
  have b_law_deck := F_law_deck.binds (ps := ["_law_script"]) fun _ _ _ _ _ _ us hl => match us, hl with | [_], _ => rfl
  have b_law_next := F_law_next.binds (ps := ["_law_deck_here", "_law_many"]) fun _ _ _ _ _ _ us hl => match us, hl with | [_, _], _ => rfl
  have b_law_same := F_law_same.binds (ps := ["_law_found", "_law_due_here"]) fun _ _ _ _ _ _ us hl => match us, hl with | [_, _], _ => rfl
  have b_law_odd := F_law_odd.binds (ps := ["_law_deck_here"]) fun _ _ _ _ _ _ us hl => match us, hl with | [_], _ => rfl
  have b_law_tree := F_law_tree.binds (ps := ["_law_deck_here", "_law_many", "_law_deep"]) fun _ _ _ _ _ _ us hl => match us, hl with | [_, _, _], _ => rfl
  have b_law_text := F_law_text.binds (ps := ["_law_tree_here"]) fun _ _ _ _ _ _ us hl => match us, hl with | [_], _ => rfl
  have b_behind_sign := F_behind_sign.binds (ps := ["text", "place", "wanted"]) fun _ _ _ _ _ _ us hl => match us, hl with | [_, _, _], _ => rfl
  have b_tree_at := F_tree_at.binds (ps := ["text", "place", "room"]) fun _ _ _ _ _ _ us hl => match us, hl with | [_, _, _], _ => rfl
  have b_read_tree := F_read_tree.binds (ps := ["value"]) fun _ _ _ _ _ _ us hl => match us, hl with | [_], _ => rfl
  have b_law_due := F_law_due.binds (ps := ["_law_text_here"]) fun _ _ _ _ _ _ us hl => match us, hl with | [_], _ => rfl
  have b_law_told := F_law_told.binds (ps := ["_law_value"]) fun _ _ _ _ _ _ us hl => match us, hl with | [_], _ => rfl
  have b_i_BadTree := F_i_BadTree.binds (ps := ["self", "place"]) fun _ _ _ _ _ _ us hl => match us, hl with | [_, _], _ => rfl
  have g_law_deck := PySem.W.mg_of X G a_law_deck
  have g_law_next := PySem.W.mg_of X G a_law_next
  have g_law_same := PySem.W.mg_of X G a_law_same
  have g_law_odd := PySem.W.mg_of X G a_law_odd
  have g_law_tree := PySem.W.mg_of X G a_law_tree
  have g_law_text := PySem.W.mg_of X G a_law_text
  have g_behind_sign := PySem.W.mg_of X G a_behind_sign
  have g_tree_at := PySem.W.mg_of X G a_tree_at
  have g_read_tree := PySem.W.mg_of X G a_read_tree
  have g_law_due := PySem.W.mg_of X G a_law_due
  have g_law_told := PySem.W.mg_of X G a_law_told
  have g_law := PySem.W.mg_of X G a_law
  have B : Bl mg := ⟨(PySem.W.mg_none_of X G z_abs), (PySem.W.mg_none_of X G z_len), (PySem.W.mg_none_of X G z_int), (PySem.W.mg_none_of X G z_isinstance), (PySem.W.mg_none_of X G z_tuple), (PySem.W.mg_none_of X G z_list), (PySem.W.mg_none_of X G z_str), (PySem.W.mg_none_of X G z_bool), (PySem.W.mg_none_of X G z_dict), (PySem.W.mg_none_of X G z_zip), (PySem.W.mg_none_of X G z_all), (PySem.W.mg_none_of X G z_repr), (PySem.W.mg_none_of X G z_range)⟩
  have v_DIGITS := PySem.W.mg_of X G u_DIGITS
  have v_MAX_ANSWER := PySem.W.mg_of X G u_MAX_ANSWER
  have v_MAX_KINDS := PySem.W.mg_of X G u_MAX_KINDS
  have v_MAX_TESTS := PySem.W.mg_of X G u_MAX_TESTS
  refine ⟨PySem.W.fnOf "law" "law" (defArgs sLaw) (defBody sLaw) (defScope sLaw) .none kVlaw dclaw pmlaw anlaw cdlaw ctlaw, fun s v => .of_eq rfl, fun base _ _ hsys => ?_⟩
  have g_BadTree := PySem.W.mg_of X G n_BadTree
  have g_KindError := PySem.W.mg_of X G n_KindError
  have G_law_deck : FnOk l.prog w K mg base CX0 1 f_law_deck _ ["_law_script"] (spDeck K) := ok_deck (k := 0) F_law_deck B.abs B.len
  have C_law_deck : Cal l.prog w K mg base "_law_deck" 1 ["_law_script"] (spDeck K) := ⟨_, _, g_law_deck, k_law_deck, b_law_deck, G_law_deck⟩
  have G_law_next : FnOk l.prog w K mg base CX0 1 f_law_next _ ["_law_deck_here", "_law_many"] spNext := ok_next (k := 0) F_law_next B.int B.len
  have C_law_next : Cal l.prog w K mg base "_law_next" 1 ["_law_deck_here", "_law_many"] spNext := ⟨_, _, g_law_next, k_law_next, b_law_next, G_law_next⟩
  have C_law_same : CalG l.prog w K mg base "_law_same" 16 ["_law_found", "_law_due_here"] (spSame 16) := ⟨_, _, g_law_same, k_law_same, b_law_same, ok_same F_law_same B b_law_same g_law_same 16⟩
  have G_law_odd : FnOk l.prog w K mg base CX0 2 f_law_odd _ ["_law_deck_here"] spOdd := ok_odd (k := 0) F_law_odd B F_law_next b_law_next g_law_next
  have C_law_odd : Cal l.prog w K mg base "_law_odd" 2 ["_law_deck_here"] spOdd := ⟨_, _, g_law_odd, k_law_odd, b_law_odd, G_law_odd⟩
  have G_law_tree : FnOk l.prog w K mg base CX0 5 f_law_tree _ ["_law_deck_here", "_law_many", "_law_deep"] (spTree 4) := ok_tree F_law_tree C_law_next g_law_tree b_law_tree 4
  have C_law_tree : Cal l.prog w K mg base "_law_tree" 5 ["_law_deck_here", "_law_many", "_law_deep"] (spTree 4) := ⟨_, _, g_law_tree, k_law_tree, b_law_tree, G_law_tree⟩
  have G_law_text : FnOk l.prog w K mg base CX0 14 f_law_text _ ["_law_tree_here"] (spLtx 13) := ok_ltx F_law_text B g_law_text b_law_text 13
  have C_law_text : Cal l.prog w K mg base "_law_text" 14 ["_law_tree_here"] (spLtx 13) := ⟨_, _, g_law_text, k_law_text, b_law_text, G_law_text⟩
  have TB : BTC K mg c_BadTree f_i_BadTree := btB_ok (KE := c_KindError) g_BadTree y_i_BadTree tL_BadTree tB_BadTree
  have GJ : FnOk l.prog w K mg base CX0 1 f_i_BadTree _ ["self", "place"] (spBT c_BadTree) := ok_bt (k := 0) F_i_BadTree TB
  have G_behind_sign : FnOk l.prog w K mg base (L2.CX l.prog w) 3 f_behind_sign _ nBhs (spBhsX c_BadTree) := ok_bhsX F_behind_sign B TB GJ b_i_BadTree
  have G_tree_at : FnOk l.prog w K mg base (L2.CX l.prog w) 17 f_tree_at _ psTat (spTatX c_BadTree 13) := ok_tatX F_tree_at B G_behind_sign g_behind_sign k_behind_sign b_behind_sign v_DIGITS v_MAX_ANSWER v_MAX_KINDS g_tree_at b_tree_at 13
  have G_read_tree : FnOk l.prog w K mg base (L2.CX l.prog w) 18 f_read_tree _ ["value"] (spRdtX c_BadTree) := ok_rdtX F_read_tree B TB GJ b_i_BadTree G_tree_at g_tree_at k_tree_at b_tree_at v_MAX_TESTS
  have G_law_due : FnOk l.prog w K mg base CX0 2 f_law_due _ ["_law_text_here"] spDu48 := ok_du48 F_law_due B
  have C_law_due : Cal l.prog w K mg base "_law_due" 2 ["_law_text_here"] spDu48 := ⟨_, _, g_law_due, k_law_due, b_law_due, G_law_due⟩
  have G_law_told : FnOk l.prog w K mg base CX0 19 f_law_told _ ["_law_value"] spTo48 := ok_to48 F_law_told TB G_read_tree g_read_tree k_read_tree b_read_tree
  have C_law_told : Cal l.prog w K mg base "_law_told" 19 ["_law_value"] spTo48 := ⟨_, _, g_law_told, k_law_told, b_law_told, G_law_told⟩
  exact ok_law F_law ⟨B, C_law_deck, C_law_next, C_law_same, C_law_odd, C_law_tree, C_law_text, C_law_due, C_law_told⟩
end Kc

set_option Elab.async false
set_option linter.all false
open PySem PySem.W PyProof.Rows
set_option maxRecDepth 100000 in
set_option maxHeartbeats 0 in
theorem PySem.Challenge.cw_kindstocome_k48_wrong_texts_of_trees_holds : PySem.Challenge.rw_kindstocome_k48_wrong_texts_of_trees.Holds := by
  w_on; o_law; k_head; (case hw => w_witness2)
  k_fill
  refine Kg.walkH (l := PySem.Challenge.rw_kindstocome_k48_wrong_texts_of_trees) (n := 63) (k := 41) (x := "_law_script") (sp := Kc.spLaw) ?I rfl (by decide) rfl ⟨rfl, by decide, by decide⟩ (fun w h Y => PySem.W.kIn_of Y) ?F (fun K H a ns hl _ _ hS => ⟨a, ns, rfl, hS, hl, fun _ => rfl⟩)
  case I => first | rfl | decide +kernel | kernel_rfl
  case F =>
    intro w mg fa h KX G hmg
    refine' Kc.all_mk KX G hmg ?a_law_deck ?l_law_deck ?x_law_deck ?k_law_deck ?a_law_next ?l_law_next ?x_law_next ?k_law_next ?a_law_same ?l_law_same ?x_law_same ?k_law_same ?a_law_odd ?l_law_odd ?x_law_odd ?k_law_odd ?a_law_tree ?l_law_tree ?x_law_tree ?k_law_tree ?a_law_text ?l_law_text ?x_law_text ?k_law_text ?a_behind_sign ?l_behind_sign ?x_behind_sign ?k_behind_sign ?a_tree_at ?l_tree_at ?x_tree_at ?k_tree_at ?a_read_tree ?l_read_tree ?x_read_tree ?k_read_tree ?a_law_due ?l_law_due ?x_law_due ?k_law_due ?a_law_told ?l_law_told ?x_law_told ?k_law_told ?a_law ?l_law ?x_law ?k_law ?n_KindError ?n_BadTree ?y_i_BadTree ?l_i_BadTree ?x_i_BadTree ?k_i_BadTree ?tL_BadTree ?tB_BadTree ?z_abs ?z_len ?z_int ?z_isinstance ?z_tuple ?z_list ?z_str ?z_bool ?z_dict ?z_zip ?z_all ?z_repr ?z_range ?u_DIGITS ?u_MAX_ANSWER ?u_MAX_KINDS ?u_MAX_TESTS
    (case a_law_deck => k_is)
    (case l_law_deck => k_is)
    (case x_law_deck => k_is)
    (case k_law_deck => k_is)
    (case a_law_next => k_is)
    (case l_law_next => k_is)
    (case x_law_next => k_is)
    (case k_law_next => k_is)
    (case a_law_same => k_is)
    (case l_law_same => k_is)
    (case x_law_same => k_is)
    (case k_law_same => k_is)
    (case a_law_odd => k_is)
    (case l_law_odd => k_is)
    (case x_law_odd => k_is)
    (case k_law_odd => k_is)
    (case a_law_tree => k_is)
    (case l_law_tree => k_is)
    (case x_law_tree => k_is)
    (case k_law_tree => k_is)
    (case a_law_text => k_is)
    (case l_law_text => k_is)
    (case x_law_text => k_is)
    (case k_law_text => k_is)
    (case a_behind_sign => k_is)
    (case l_behind_sign => k_is)
    (case x_behind_sign => k_is)
    (case k_behind_sign => k_is)
    (case a_tree_at => k_is)
    (case l_tree_at => k_is)
    (case x_tree_at => k_is)
    (case k_tree_at => k_is)
    (case a_read_tree => k_is)
    (case l_read_tree => k_is)
    (case x_read_tree => k_is)
    (case k_read_tree => k_is)
    (case a_law_due => k_is)
    (case l_law_due => k_is)
    (case x_law_due => k_is)
    (case k_law_due => k_is)
    (case a_law_told => k_is)
    (case l_law_told => k_is)
    (case x_law_told => k_is)
    (case k_law_told => k_is)
    (case a_law => k_is)
    (case l_law => k_is)
    (case x_law => k_is)
    (case k_law => k_is)
    (case n_KindError => k_is)
    (case n_BadTree => k_is)
    (case y_i_BadTree => k_is)
    (case l_i_BadTree => k_is)
    (case x_i_BadTree => k_is)
    (case k_i_BadTree => k_is)
    (case tL_BadTree => k_is)
    (case tB_BadTree => kernel_rfl)
    (case z_abs => k_is)
    (case z_len => k_is)
    (case z_int => k_is)
    (case z_isinstance => k_is)
    (case z_tuple => k_is)
    (case z_list => k_is)
    (case z_str => k_is)
    (case z_bool => k_is)
    (case z_dict => k_is)
    (case z_zip => k_is)
    (case z_all => k_is)
    (case z_repr => k_is)
    (case z_range => k_is)
    (case u_DIGITS => k_is)
    (case u_MAX_ANSWER => k_is)
    (case u_MAX_KINDS => k_is)
    (case u_MAX_TESTS => k_is)
#print axioms PySem.Challenge.cw_kindstocome_k48_wrong_texts_of_trees_holds

