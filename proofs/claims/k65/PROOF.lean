import PyProof.Rows.All
import Wide.All
import OpenK.AllK
import Wide.FinOn
import PyProof.EqAt
import PyProof.EqKinds
import PyProof.TupleCall
import PySem.Challenge.RW_sparecut_k65_whole_no_tree_is_less
import HandS.ForMost
import HandS.Evl
import HandS.Conv
import HandS.Exc
import HandS.ExcOwn
import HandS.ExcInit
import HandS.ExcValue
import HandS.ExcIs
import KE.KExcIs
import KE.KxText
import HandS.AnyAll
import HandS.GenOver
import HandS.GenList
import HandS.SortInts
import HandS.TupAny
import HandS.TupMul
import HandS.Strs
import HandS.IsInst
import HandS.EndTab
import HandS.EndOwn
import HandS.SetFor
import KE.KNestM
import KE.GoesEnum
import HandS.FStr
import HandS.RaiseMore
import KE.DatumOrd
import HandS.Zip
import HandS.Style
import HandS.RevRange
import HandS.TryOnly
import HandS.WordsExc
import KE.LtData
import HandS.TupLe
import HandS.ExcField
import HandS.Dict
import HandS.More
import HandS.WordsDict
import HandS.SetKeys
import HandS.DictComp
import KE.GoesMore
import HandS.DictTup
import HandS.TupLen
import HandS.Walk
import HandS.TupSets
import HandS.Iter
import HandS.ForDict
import HandS.Deep
import HandS.Text
import HandS.StrMore
import KE.IntTextLaws
import KE.KDictCopyH
import KE.KDictDisplayH
import PyProof.DictMoreH
import HandS.CallLocal
import HandS.Lambda
import KE.DataMinKey
import KE.KSortTup
import KE.KDictSum
import HandS.SortOrd
import HandS.NamedTupSort
import HandS.Conv
set_option Elab.async false
set_option linter.all false
set_option maxRecDepth 100000
set_option maxHeartbeats 2000000
namespace Nw
open PySem PySem.Spec PyProof.Rows L2
/-! ### readings that hide the heap: what is new is told by its facts alone -/
theorem same_new {H : Hp} {p : Addr} {o : HO} (h : H p = none) : Same H (upd H p o) := fun b x e => by
  rw [upd_ne (ne_of_none e h)]
  exact e
theorem sqt {K : PySem.W.Frag} {H H' : Hp} {a : Addr} {xs : List V} (e : Same H H') (h : SqT K H a xs) : SqT K H' a xs := by
  rcases h with (h | ⟨o, h⟩) | h
  · exact .inl (.inl (e _ _ h))
  · exact .inl (.inr ⟨o, e _ _ h⟩)
  · exact .inr h
/-- a new object o at a place of its own -/
def New (H : Hp) (o : HO) (Q : VK) : Prop := ∀ p H2, H p = none → Same H H2 → H2 p = some o → (∀ b, b ≠ p → H2 b = H b) → Q (.ref p) H2
theorem New.to {H : Hp} {o : HO} {Q : VK} (h : New H o Q) : ∀ p, H p = none → Q (.ref p) (upd H p o) := fun p n => h p _ n (same_new n) upd_same fun b nb => upd_ne nb
section
variable {X : Cx} {e : Expr} {es : List Expr} {t t' : TE} {ta : TA} {pos : Pos}
theorem pe_weak (h : PE X e t) (i : ∀ σ H Q, t' σ H Q → t σ H Q) : PE X e t' := ⟨fun pins s σ H Q I q => h.run pins s σ H Q I (i σ H Q q)⟩
theorem op_weak {f : Value → Value → Sem Value} {r r' : R2} (h : OpR X f r) (i : ∀ x y H Q, r' x y H Q → r x y H Q) : OpR X f r' := fun pins s σ H x y v u Q I rx ry q => h pins s σ H x y v u Q I rx ry (i x y H Q q)
theorem call_weak {f : Value} {r r' : List V → Hp → VK → Prop} (h : CallR X f r) (i : ∀ xs H Q, r' xs H Q → r xs H Q) : CallR X f r' := fun pins s σ H xs us Q I rx q => h pins s σ H xs us Q I rx (i xs H Q q)
theorem mt_weak {id : String} {r r' : V → List V → Hp → VK → Prop} (h : MtR X id r) (i : ∀ x xs H Q, r' x xs H Q → r x xs H Q) : MtR X id r' := fun pins s σ H x xs v us Q I rx rs q => h pins s σ H x xs v us Q I rx rs (i x xs H Q q)
theorem sl_weak {r r' : V → Option Int → Option Int → Hp → VK → Prop} (h : SlR X r) (i : ∀ x lo hi H Q, r' x lo hi H Q → r x lo hi H Q) : SlR X r' := fun pins s σ H x v vl vu lo hi sl Q I rx a b c q => h pins s σ H x v vl vu lo hi sl Q I rx a b c (i x lo hi H Q q)
/-- what follows may be asked for less -/
def clA (t : TA) : TA := fun σ H R => ∃ R' : List V → Hp → Prop, (∀ xs H1, R' xs H1 → R xs H1) ∧ t σ H R'
theorem pa_cl (h : PA X es ta) : PA X es (clA ta) := ⟨fun ps pins s σ H Q I ⟨R', i, q⟩ => thn (h.run ps pins s σ H R' I q) fun us s1 ⟨vs, H1, I1, r1, q1⟩ => ⟨vs, H1, I1, r1, i vs H1 q1⟩⟩
def clE (t : TE) : TE := fun σ H R => ∃ R' : VK, (∀ v H1, R' v H1 → R v H1) ∧ t σ H R'
theorem pe_cl (h : PE X e t) : PE X e (clE t) := ⟨fun pins s σ H Q I ⟨R', i, q⟩ => thn (h.run pins s σ H R' I q) fun u s1 ⟨v, H1, I1, r1, q1⟩ => ⟨v, H1, I1, r1, i v H1 q1⟩⟩
def nLst (t : TA) : TE := fun σ H Q => t σ H fun xs H1 => xs.length ≤ sizeLine ∧ New H1 (.lst xs) Q
def nTup (t : TA) : TE := fun σ H Q => t σ H fun xs H1 => xs.length ≤ sizeLine ∧ New H1 (.tup xs) Q
theorem pe_lstN (h : PA X es ta) : PE X (.List es pos) (nLst ta) := pe_weak (pe_lst (pa_cl h)) fun _ _ _ q => ⟨_, fun _ _ z => ⟨z.1, z.2.to⟩, q⟩
theorem pe_tupN {x1} (h : PA X es ta) : PE X (.Tuple es x1 pos) (nTup ta) := pe_weak (pe_tup (pa_cl h)) fun _ _ _ q => ⟨_, fun _ _ z => ⟨z.1, z.2.to⟩, q⟩
/-- xs + ys (lists) -/
def rCatN : R2 := fun x y H Q => ∃ p q xs ys, x = .ref p ∧ y = .ref q ∧ H p = some (.lst xs) ∧ H q = some (.lst ys) ∧ xs.length + ys.length ≤ sizeLine ∧ New H (.lst (xs ++ ys)) Q
theorem op_catN : OpR X (binaryOp .Add) rCatN := op_weak op_cat fun x y H Q ⟨p, q, xs, ys, h1, h2, h3, h4, h5, h6⟩ => ⟨p, q, xs, ys, h1, h2, h3, h4, h5, h6.to⟩
/-- a tuple of xs, new or not -/
def ResT (H : Hp) (xs : List V) (Q : VK) : Prop := ∀ p H2, Same H H2 → H2 p = some (.tup xs) → Q (.ref p) H2
theorem call_list_ofN : CallR X (.type "list") (fun xs H Q => ∃ p ys, xs = [.ref p] ∧ (SqL X.K H p ys ∨ SqT X.K H p ys) ∧ New H (.lst ys) Q) := call_weak call_list_of fun _ _ _ ⟨p, ys, h1, h2, h3⟩ => ⟨p, ys, h1, h2, h3.to⟩
theorem call_tuple_ofN : CallR X (.type "tuple") (fun xs H Q => ∃ p ys, xs = [.ref p] ∧ SqL X.K H p ys ∧ New H (.tup ys) Q) := call_weak call_tuple_of fun _ _ _ ⟨p, ys, h1, h2, h3⟩ => ⟨p, ys, h1, .inl ⟨h2, h3.to⟩⟩
theorem sl_listN : SlR X (fun x lo hi H Q => ∃ a xs, x = .ref a ∧ SqL X.K H a xs ∧ New H (.lst (cutV xs lo hi)) Q) := sl_weak sl_list fun _ _ _ _ _ ⟨a, xs, h1, h2, h3⟩ => ⟨a, xs, h1, h2, h3.to⟩
end
/-! ### data by its values -/
theorem dp_bls {K : PySem.W.Frag} {H : Hp} : ∀ bs : List Bool, DpAll K H (bs.map V.bl) (bs.map PyData.bool)
  | [] => .nil
  | b :: r => .cons (.bl b) (dp_bls r)
theorem dp_ints {K : PySem.W.Frag} {H : Hp} : ∀ ns : List Int, DpAll K H (ns.map V.int) (ns.map PyData.int)
  | [] => .nil
  | b :: r => .cons (.int b) (dp_ints r)
/-- flat data: numbers, truths, None -/
def flatD : PyData → Bool
  | .none | .bool _ | .int _ => true
  | _ => false
theorem flat_lay : ∀ ds : List PyData, ds.all flatD = true → PyData.canLayAll0 ds = true
  | [], _ => rfl
  | d :: r, h => by
    rw [List.all_cons, Bool.and_eq_true] at h
    show (PyData.canLay0 d && PyData.canLayAll0 r) = true
    rw [flat_lay r h.2, Bool.and_true]
    cases d <;> first | rfl | exact Bool.noConfusion h.1
theorem flat_depth : ∀ ds : List PyData, ds.all flatD = true → PyData.depthAll ds ≤ 1
  | [], _ => by decide
  | d :: r, h => by
    rw [List.all_cons, Bool.and_eq_true] at h
    have ih := flat_depth r h.2
    have hd : PyData.depth d ≤ 1 := by
      cases d <;> first | decide | exact Bool.noConfusion h.1 | exact Nat.zero_le _ | exact Nat.le_refl _
    show Nat.max (PyData.depth d) (PyData.depthAll r) ≤ 1
    exact Nat.max_le.mpr ⟨hd, ih⟩
theorem shaped_list {ds : List PyData} (h : ds.all flatD = true) : SeqAt.shaped (.list ds) = true := by
  have e := flat_depth ds h
  have e2 : PyData.depth (.list ds) ≤ 64 := by
    show PyData.depthAll ds + 1 ≤ 64
    omega
  show (PyData.canLayAll0 ds && decide (PyData.depth (.list ds) ≤ 64)) = true
  rw [flat_lay ds h, decide_eq_true e2]
  rfl
theorem shaped_tuple {ds : List PyData} (h : ds.all flatD = true) : SeqAt.shaped (.tuple ds) = true := by
  have e := flat_depth ds h
  have e2 : PyData.depth (.tuple ds) ≤ 64 := by
    show PyData.depthAll ds + 1 ≤ 64
    omega
  show (PyData.canLayAll0 ds && decide (PyData.depth (.tuple ds) ≤ 64)) = true
  rw [flat_lay ds h, decide_eq_true e2]
  rfl
theorem flat_bls (bs : List Bool) : (bs.map PyData.bool).all flatD = true := by
  rw [List.all_map, List.all_eq_true]
  exact fun _ _ => rfl
theorem flat_ints (ns : List Int) : (ns.map PyData.int).all flatD = true := by
  rw [List.all_map, List.all_eq_true]
  exact fun _ _ => rfl
theorem eqv_self {d : PyData} (h : SeqAt.shaped d = true) : PyData.eqv d d = true := SeqAt.eqv_refl d (SeqAt.canLay_of_shaped h)
end Nw
namespace Nw
open PySem PySem.Spec PyProof.Rows L2
section
variable {X : Cx}
theorem cr_sortedN : CallR X (.builtin "sorted") (fun vs H Q => ∃ (a : Addr) (ns : List Int), vs = [V.ref a] ∧ SqL X.K H a (ns.map V.int) ∧ ∀ ns' : List Int, ns'.Perm ns → ns'.Pairwise (· ≤ ·) → New H (.lst (ns'.map V.int)) Q) :=
  call_weak cr_sortedI fun _ _ _ ⟨a, ns, h1, h2, h3⟩ => ⟨a, ns, h1, h2, fun ns' p hp hs np => (h3 ns' hp hs).to p np⟩
theorem cutV_all {xs : List V} {lo hi : Option Int} (h : HT.sIx xs.length 0 lo = 0 ∧ HT.sIx xs.length xs.length hi = xs.length) : cutV xs lo hi = xs := by
  unfold cutV
  rw [h.1, h.2]
  exact List.take_length
theorem sl_tupN : SlR X (fun x lo hi H Q => ∃ a xs, x = .ref a ∧ H a = some (.tup xs) ∧ ResT H (cutV xs lo hi) Q) := sl_weak sl_tupA fun _ lo hi H Q ⟨a, xs, h1, h2, h3⟩ =>
  ⟨a, xs, h1, .of h2, fun z => h3 a H (Same.refl H) (by rw [cutV_all z]; exact h2), fun _ p np => h3 p _ (same_new np) upd_same⟩
theorem op_catTN : OpR X (binaryOp .Add) (fun x y H Q => ∃ a b xs ys, x = .ref a ∧ y = .ref b ∧ H a = some (.tup xs) ∧ H b = some (.tup ys) ∧ xs.length + ys.length ≤ sizeLine ∧ ResT H (xs ++ ys) Q) :=
  op_weak op_catA fun _ _ H Q ⟨a, b, xs, ys, h1, h2, h3, h4, h5, h6⟩ => ⟨a, b, xs, ys, h1, h2, .of h3, .of h4, h5, fun z => h6 b H (Same.refl H) (by rw [z]; exact h4), fun _ z => h6 a H (Same.refl H) (by rw [z, List.append_nil]; exact h3), fun _ _ p np => h6 p _ (same_new np) upd_same⟩
theorem op_repTN : OpR X (binaryOp .Mult) (fun x y H Q => ∃ l k xs, x = .ref l ∧ y = .int k ∧ H l = some (.tup xs) ∧ xs ≠ [] ∧ 2 ≤ k ∧ k ≤ 1000 ∧ xs.length ≤ 1000 ∧ ResT H (List.replicate k.toNat xs).flatten Q) :=
  op_weak op_repT fun _ _ H Q ⟨l, k, xs, h1, h2, h3, h4, h5, h6, h7, h8⟩ => ⟨l, k, xs, h1, h2, .of h3, h4, h5, h6, h7, fun p np => h8 p _ (same_new np) upd_same⟩
/-! the same rules with the written part by its name (for comprehensions' blocks) -/
variable {K : PySem.W.Frag}
theorem ix_tupB (h : X.K = K) : IxR X (rIxT K) := by subst h; exact ix_tup
theorem ix_listB (h : X.K = K) : IxR X (rIxL K) := by subst h; exact ix_list
theorem op_in_seqB (h : X.K = K) : OpR X (compareOp .In) (rIn K false) := by subst h; exact op_in_seq
theorem op_notIn_seqB (h : X.K = K) : OpR X (compareOp .NotIn) (rIn K true) := by subst h; exact op_notIn_seq
theorem call_len_seqB (h : X.K = K) : CallR X (.builtin "len") (fun xs H Q => ∃ p ys, xs = [.ref p] ∧ (SqL K H p ys ∨ SqT K H p ys) ∧ Q (.int ys.length) H) := by subst h; exact call_len_seq
theorem call_isiB (h : X.K = K) : CallR X (.builtin "isinstance") (rIsi K) := by subst h; exact call_isi
theorem op_eqDB (h : X.K = K) (hu : X.A.units + 64 < cLine) : OpR X (compareOp .Eq) (rEqD K) := by subst h; exact op_eqD hu
theorem op_neDB (h : X.K = K) (hu : X.A.units + 64 < cLine) : OpR X (compareOp .NotEq) (rNeD K) := by subst h; exact op_neD hu
end
end Nw
namespace Ev1
open PySem PySem.Spec PyProof.Rows L2 Nw
/-! ### exceptions as values -/
/-- at a an exception of the class cls, its dict d -/
def ExV (cls : Value) (d : Option Addr) (a : Addr) : HO := .ext fun h => ∃ (oe : Obj) (vs : Array Value), h.get? a = some oe ∧ Zc cls d oe ∧ oe.data = .fields vs
/-- an exception that was made of the class cls, its dict d: it stands at a place of its own -/
def Made (H1 : Hp) (cls : Value) (d : Option Addr) (Q : VK) : Prop := ∀ a H3, H1 a = none → Same H1 H3 → H3 a = some (ExV cls d a) → Q (.ref a) H3
theorem pe_made {X : Cx} {e : Expr} {t : L2.St → Hp → XK → Prop} (m : PMk X e t) : PE X e (fun σ H Q => t σ H fun cls d H1 => Made H1 cls d Q) := by
  refine ⟨fun pins s σ H Q I h => thn (m pins s σ H _ I h) fun u s1 z => ?_⟩
  obtain ⟨a, oe, vs, sI, H1, cls, d, rfl, J, k, na, ha, hz, hd, _, ha1, os, ag, _, q⟩ := z
  have new : ObjOk X.prog X.w (upd H1 a (ExV cls d a)) s1.heap a (ExV cls d a) := ⟨⟨oe, vs, ha, hz, hd⟩, ⟨oe, ha⟩, fun h1 h2 ⟨o, v, y, r⟩ i => ⟨o, v, i o y, r⟩⟩
  exact ⟨.ref a, upd H1 a (ExV cls d a), J.call' (ch := []) os (Un.laidN k na ha1) (J.hok.laidN k ha1 new) ag (fun b y => absurd y (by simp)), rfl, q a _ ha1 (same_new ha1) upd_same⟩
/-- at a an exception of the class D, with the field at = y -/
def ExF (H : Hp) (a D : Addr) (y : V) : Prop := ∃ dx, H a = some (ExV (.ref D) (some dx) a) ∧ H dx = some (.xd [(("at" : Str), y)])
/-- at a an exception of the class D -/
def ExAt (H : Hp) (a D : Addr) : Prop := H a = some (ExO (.ref D) a) ∨ ∃ y, ExF H a D y
theorem ExF.same {H H' : Hp} {a D : Addr} {y : V} (h : ExF H a D y) (s : Same H H') : ExF H' a D y := by
  obtain ⟨dx, h1, h2⟩ := h
  exact ⟨dx, s _ _ h1, s _ _ h2⟩
theorem ExAt.same {H H' : Hp} {a D : Addr} (h : ExAt H a D) (s : Same H H') : ExAt H' a D := by
  rcases h with h | ⟨y, h⟩
  · exact .inl (s _ _ h)
  · exact .inr ⟨y, h.same s⟩
theorem notCls_of {o : Obj} {vs : Array Value} (hd : o.data = .fields vs) : PySem.W.notCls o = true := by
  unfold PySem.W.notCls
  rw [hd]
section
variable {X : Cx} {pins : List (Addr × Obj)} {σ : L2.St} {H : Hp} {s : Shared} {a D : Addr} {y : V}
theorem ExF.inst (I : Inv X pins σ H s) (h : ExF H a D y) : ∃ ox od u, PySem.W.InstAt s.heap a ox D (some od) ∧ PySem.W.lookIn "at" od = some (some u) ∧ RelV y u := by
  obtain ⟨dx, h1, h2⟩ := h
  have z1 : ObjOk X.prog X.w H s.heap a (.ext fun h => ∃ (oe : Obj) (vs : Array Value), h.get? a = some oe ∧ Zc (.ref D) (some dx) oe ∧ oe.data = .fields vs) := I.hok a _ h1
  obtain ⟨⟨oe, vs, ha, ⟨hc, hd⟩, hv⟩, _⟩ := z1
  have z2 : ObjOk X.prog X.w H s.heap dx (.xd [(("at" : Str), y)]) := I.hok dx _ h2
  obtain ⟨mA, hn, hr⟩ := z2
  obtain ⟨od, ho, hl⟩ := lookIn_ns hn
  have l : List.lookup ("at" : Str) [(("at" : Str), y)] = some y := by simp [List.lookup]
  obtain ⟨u, hu, ru⟩ := RelO.some_of (v := y) (o := mA "at") (by rw [← l]; exact hr "at")
  exact ⟨oe, od, u, ⟨ha, hc, notCls_of hv, by rw [hd]; exact ho⟩, by rw [hl, hu], ru⟩
theorem ExAt.inst (I : Inv X pins σ H s) (h : ExAt H a D) : ∃ ox od, PySem.W.InstAt s.heap a ox D od := by
  rcases h with h | ⟨y, h⟩
  · obtain ⟨⟨oe, vs, ha, ⟨hc, hd⟩, hv, _⟩, _⟩ := I.hok a _ h
    exact ⟨oe, none, ⟨ha, hc, notCls_of hv, by rw [hd]; exact trivial⟩⟩
  · obtain ⟨ox, od, _, J, _⟩ := h.inst I
    exact ⟨ox, some od, J⟩
end
/-- X(e), X an own class without own __init__ -/
def tExN (C : Addr) (te : TE) : TE := fun σ H Q => te σ H fun _ H1 => ∀ a H2, H1 a = none → Same H1 H2 → H2 a = some (ExO (.ref C) a) → Q (.ref a) H2
theorem pe_excN {X : Cx} {C : Addr} {bmB : List Value} {B newId initId : String} {x : Str} {e : Expr} {te : TE} {p pos : Pos} (F : ExcBaseFacts B newId initId bmB) (q : PySem.W.excIn X.K C bmB newId = true) (gC : X.mg x = some (.ref C)) (kC : PySem.W.keepIn X.K (.ref C) = true) (hg : Gl X x)
    (he : PE X e te) (hs : starEach [e] X.env = (false, eval e X.env) :: starEach [] X.env := by rfl) (hdb : (x == ("__debug__" : Str)) = false := by decide) : PE X (.Call (.Name x p) [e] [] pos) (tExN C te) :=
  pe_weak (pe_exc1 F q gC kC hg (pe_cl he) hs hdb) fun _ _ _ h => ⟨_, fun _ _ z a na => z a _ na (same_new na) upd_same, h⟩
/-- isinstance(e, c) of an exception -/
def rIsX (K : PySem.W.Frag) : List V → Hp → VK → Prop := fun xs H Q => ∃ (a D : Addr) (c : V) (cv : Value) (b : Bool), xs = [.ref a, c] ∧ ExAt H a D ∧ ExcC K D ∧ (∀ u, RelV c u → u = cv) ∧ PySem.W.kitOne K (.ref D) cv = some b ∧ Q (.bl b) H
theorem call_isX {X : Cx} : CallR X (.builtin "isinstance") (rIsX X.K) := by
  intro pins s σ H xs us Q I r h
  obtain ⟨a, D, c, cv, b, rfl, hE, C, hcv, e, q⟩ := h
  cases r with
  | cons rx rr =>
    cases rr with
    | cons rt rr =>
      cases rr
      cases rx
      have ec := hcv _ rt
      subst ec
      obtain ⟨ox, od, J⟩ := hE.inst I
      have cl : (PySem.W.clsIn X.K D).isSome = true := by
        obtain ⟨cd, hc, _⟩ := PySem.W.any_some C.hd
        rw [hc]
        rfl
      exact PySem.W.kia_one (PySem.W.kitx_exc cl C.hg C.hk C.hs C.ha C.hn C.ht C.hm) I.kIn J e (fun z => nomatch z) fun tk => ⟨.bl b, H, I.kept (t' := tk) fun _ _ z => z, rfl, q⟩
/-- e.at of an exception -/
def tAtX (K : PySem.W.Frag) (te : TE) : TE := fun σ H Q => te σ H fun x H1 => ∃ (a D : Addr) (y : V), x = .ref a ∧ ExF H1 a D y ∧ ExcC K D ∧ PySem.W.findIn K (.ref D) "at" = some none ∧ Q y H1
theorem pe_atX {X : Cx} {e : Expr} {te : TE} {pos : Pos} (he : PE X e te) (hb : attributeBase e "at" X.env (eval e X.env) = eval e X.env := by rfl) : PE X (.Attribute e "at" pos) (tAtX X.K te) := by
  refine ⟨fun pins s σ H Q I h => attr_of hb (thn (he.run pins s σ H _ I h) fun u s1 hh => ?_)⟩
  obtain ⟨x, H1, I1, rx, a, D, y, rfl, hE, C, nf, q⟩ := hh
  cases rx
  obtain ⟨ox, od, u, J, l, ru⟩ := hE.inst I1
  exact HandSPX.exc_get I1.kIn J C.hg C.hk C.hs (PySem.W.findObj_own C.hd nf rfl l) (handed_of ru) ⟨y, H1, I1.tok _, ru, q⟩
/-- the promise of «def __init__(self, at): self.at = at» -/
def spInit (K : PySem.W.Frag) : Sp := fun vs H Q _ => ∃ (a C : Addr) (y : V), vs = [.ref a, y] ∧ OexC K C ∧ PySem.W.findIn K (.ref C) "at" = some none ∧ H a = some (exo a C none) ∧
  ∀ dx, H dx = none → dx ≠ a → Q .non (upd (upd H dx (exd dx [(("at" : Str), y)])) a (exo a C (some dx)))
theorem del_new {H1 : Hp} {a dx : Addr} {o1 o2 o3 : HO} (na : H1 a = none) (ne : dx ≠ a) : del (upd (upd (upd H1 a o1) dx o2) a o3) a = upd H1 dx o2 := by
  funext b
  by_cases hb : b = a
  · subst hb
    rw [del_same, upd_ne (Ne.symm ne), na]
  · rw [del_ne hb, upd_ne hb]
    by_cases hd : b = dx
    · subst hd
      rw [upd_same, upd_same]
    · rw [upd_ne hd, upd_ne hd, upd_ne hb]
/-- what C(y) asks, C with that __init__: the exception and its field -/
theorem made_F {K : PySem.W.Frag} {C : Addr} {y : V} {H1 : Hp} {Q : VK} (T : OexC K C) (nf : PySem.W.findIn K (.ref C) "at" = some none) (h : ∀ a H2, H1 a = none → Same H1 H2 → ExF H2 a C y → Q (.ref a) H2) :
    [y].length ≤ 1000 ∧ ∀ a, H1 a = none → spInit K (.ref a :: ([y] ++ [])) (upd H1 a (exo a C none)) (fun v H2 => v = .non ∧ ∃ (d : Addr) (fs : List (Str × V)), H2 a = some (exo a C (some d)) ∧ H2 d = some (exd d fs) ∧ H1 d = none ∧
      Made (upd (del H2 a) d (.xd fs)) (Value.ref C) (some d) Q) (fun _ _ _ => False) := by
  refine ⟨by simp, fun a na => ⟨a, C, y, rfl, T, nf, upd_same, fun dx nd ne => ?_⟩⟩
  have nd1 : H1 dx = none := by
    rw [upd_ne ne] at nd
    exact nd
  refine ⟨rfl, dx, [(("at" : Str), y)], upd_same, by rw [upd_ne ne, upd_same], nd1, ?_⟩
  rw [del_new na ne, upd_upd]
  intro b H3 nb s3 e3
  have sd : Same H1 (upd H1 dx (.xd [(("at" : Str), y)])) := same_new nd1
  exact h b H3 (sd.free nb) (sd.trans s3) ⟨dx, e3, s3 _ _ upd_same⟩
end Ev1
namespace Gx
open PySem PySem.Spec PyProof.Rows L2 GxR
/-! ### any, all of a generator expression whose element is run by the layer's own rules -/
/-- the generator's frame running, awake under any | all -/
abbrev gCx (X : Cx) (ge : Expr) (s : Shared) (H : Hp) (cenv : Env) (it : Addr) (fp : List Addr) (pn : List (Addr × Obj)) : Cx :=
  { X with
    s_0 := s
    H_0 := H
    env := cenv
    outer := X.stack
    stack := cenv :: X.stack
    ex := fp
    fn := fun _ => false
    pn := pn
    xe := fun _ _ => False
    A := X.A.in1.in1.over (.compLoop ge 0 (.ref it) .none cenv) [] }
theorem room_gen {k : Nat} {X : Cx} {elt : Expr} {gs : List Comprehension} {scope : Scope} {pos : Pos} {s : Shared} {H : Hp} {cenv : Env} {it : Addr} {fp : List Addr} {pn : List (Addr × Obj)} (r : Room (k + 1) X.A) :
    Room k (gCx X (.GeneratorExp elt gs scope pos) s H cenv it fp pn).A := by
  refine ⟨r.hd, ?_, ?_⟩
  · have := r.dp
    show X.A.depth + 0 + 1 + 3 * k + 5 < recursionLimit
    omega
  · have := r.un
    show X.A.units + 1 + 1 + 0 + 3 + 16 * k + 200 < cLine
    omega
/-- gens, drawn and toks say nothing but that all are bare -/
theorem inv_gens {X : Cx} {pins : List (Addr × Obj)} {σ : L2.St} {H : Hp} {s s' : Shared} (I : Inv X pins σ H s) (hh : s'.heap = s.heap) (ho : s'.os = s.os) (hb : AllBare s'.gens) : Inv X pins σ H s' := by
  obtain ⟨h, g, d, t, o⟩ := s
  obtain ⟨h', g', d', t', o'⟩ := s'
  dsimp only at hh ho hb
  subst hh ho
  exact { ok := I.ok, os := I.os, bare := hb, base := I.base, loc := I.loc, cell := I.cell, free := I.free, freeC := I.freeC, pin := I.pin, hok := I.hok, len := I.len }
theorem bare_set {s : Shared} {g : Nat} {x : GenState} (h : AllBare s.gens) (hx : x.bare = true) : AllBare (s.setGen g x).gens := by
  intro y hy
  have hy' : y ∈ s.gens.setIfInBounds g x := hy
  obtain ⟨i, hi, e⟩ := Array.mem_iff_getElem.mp hy'
  by_cases hg : g = i
  · subst hg
    rw [Array.getElem_setIfInBounds_self] at e
    rw [← e]
    exact hx
  · rw [Array.getElem_setIfInBounds_ne (by simpa using hi) hg] at e
    rw [← e]
    exact h _ (Array.getElem_mem _)
section
variable {X : Cx} {pins : List (Addr × Obj)} {σ : L2.St} {H : Hp} {s : Shared}
/-- what the frame of the generator knows as it begins -/
theorem gen_start {ge : Expr} {scope : Scope} {own : List (Str × Nat)} {fp : List Addr} {it a : Addr} {code : Value} {go : Obj} {gs : Array GenState} {tk : Nat} {h5 : Heap} {m : Str → Option Value} (I : Inv X pins σ H s) (hc : X.calm = true) (ok : BlkOk X.N X.env.scope scope own) (hN : X.N.Nodup)
    (nc : ∀ y ∈ scope.names, y.2 ≠ .cell) (hfp : ∀ b ∈ fp, FpOk X pins H b ∧ b < s.heap.objs.size) (fr : (X.A.in1.in1.over (.compLoop ge 0 (.ref it) .none (genEnv scope (cloFrom X.env.cells scope.names []) s.heap.objs.size code builtinsNs X.env)) []).frames = some (genEnv scope (cloFrom X.env.cells scope.names []) s.heap.objs.size code builtinsNs X.env :: X.stack))
    (hg : AllBare gs) (kp : ∀ b o, s.heap.get? b = some o → h5.get? b = some o) (hns : h5.Ns s.heap.objs.size m) (ha : h5.get? a = some go) (ha1 : s.heap.objs.size < a) (hd : ∀ v, go.data ≠ .cell v) :
    Inv (gCx X ge s H (genEnv scope (cloFrom X.env.cells scope.names []) s.heap.objs.size code builtinsNs X.env) it fp [(a, go)]) [] (wipe σ (own.map (·.2))) H { s with gens := gs, toks := tk, heap := h5 } := by
  have cm : ∀ {y : Str} {c : Addr}, (cloFrom X.env.cells scope.names []).lookup y = some c → X.env.cells.lookup y = some c := fun {y c} e => by
    rcases cloFrom_mem (PySem.mem_of_lookup e) with z | ⟨h1, z⟩
    · cases z
    · have q : ∃ c', X.env.cells.lookup y = some c' := by
        rcases ok.free (y, .free) h1 rfl with k | k
        · exact I.ok.has y (.inl k)
        · exact I.ok.has y (.inr k)
      obtain ⟨c', q⟩ := q
      rw [q] at z
      rw [q, z]
      rfl
  have ch : ∀ {y : Str}, scope.names.lookup y = some .free → ∃ c, (cloFrom X.env.cells scope.names []).lookup y = some c := fun {y} e => mem_lookup (cloFrom_has (PySem.mem_of_lookup e))
  have noc : ∀ {y : Str}, scope.names.lookup y ≠ some .cell := fun {y} e => nc _ (PySem.mem_of_lookup e) rfl
  have stL : ∀ b ∈ frs X.stack, b < s.heap.objs.size := fun b hb => by
    obtain ⟨_, o, e, _⟩ := I.stack.mem hb
    exact Heap.lt_size e
  have okG : (gCx X ge s H (genEnv scope (cloFrom X.env.cells scope.names []) s.heap.objs.size code builtinsNs X.env) it fp [(a, go)]).Ok := {
    mod := I.ok.mod
    kind := ok.kind
    glob := I.ok.glob
    blt := rfl
    above := Nat.le_refl _
    inj := fun x y c h1 h2 => I.ok.inj x y c (cm h1) (cm h2)
    has := fun x h => h.elim (fun k => absurd k noc) fun k => ch k
    cab := fun x c h => Bool.noConfusion h
    hd := fun h => I.ok.hd h
    frames := fr
    stk := .inr ⟨rfl, rfl⟩
    exf := fun b hb => ⟨Nat.ne_of_lt (hfp b hb).2, fun x c e => (hfp b hb).1.2.2.2.2.1 x c (cm e)⟩
    bs := I.bs
    bsz := Nat.le_trans I.ok.bsz I.sz
    noex := fun b o e hb => by
      rcases (hfp b hb).1.2.2.2.1 with z | z
      · exact I.ok.noex b o e z
      · exact Nat.lt_irrefl _ (Nat.lt_of_lt_of_le (Heap.lt_size e) (Nat.le_trans I.ok.bsz z))
    exfs := fun b hb z => by
      rcases List.mem_cons.mp (I.stkSub b z) with y | y
      · exact (hfp b hb).1.2.1 y
      · exact (hfp b hb).1.2.2.1 y
    funs := I.stack
    frf := I.stkFree }
  refine { ok := okG, os := rfl, bare := hg, base := Un.kept kp, loc := ⟨m, hns, fun i x v e1 e2 e3 => ?_⟩, cell := fun x c e => ?_, free := I.hok.fresh (Nat.le_refl _), freeC := fun x c e => I.freeC x c (cm e), pin := fun p hp => ?_, hok := I.hok.kept kp, len := (wipe_length _ _).trans I.len }
  · obtain ⟨e2, hi⟩ := wipe_some e2
    have hf : scope.names.lookup x = some .free := by
      have no : ∀ k, scope.names.lookup x = some k → ¬ (k = .local ∨ k = .cell) := fun k hk hh => by
        rcases ok.own _ (PySem.mem_of_lookup hk) hh with z | z
        · obtain ⟨p, hp, hx⟩ := List.mem_map.mp z
          have q := ok.ix p hp
          have hx' : p.1 = x := hx
          rw [hx'] at q
          exact hi (List.mem_map.mpr ⟨p, hp, nodup_ix hN q e1⟩)
        · exact z (List.mem_of_getElem? e1)
      have e3 : Vis scope x := e3
      rcases e3 with k | k | k
      · exact absurd (.inl rfl) (no _ k)
      · exact absurd (.inr rfl) (no _ k)
      · exact k
    have hv := ok.free _ (PySem.mem_of_lookup hf) rfl
    obtain ⟨m0, _, hl⟩ := I.loc
    obtain ⟨u, ru, q⟩ := hl i x v e1 e2 (.inr hv)
    refine ⟨u, ru, .inr ⟨.inr hf, ?_⟩⟩
    rcases q with ⟨k, _⟩ | ⟨_, c, ec, z⟩
    · have k' : X.env.scope.names.lookup x = some .local := k
      rcases hv with y | y
      · have y' : X.env.scope.names.lookup x = some .cell := y
        rw [k'] at y'
        cases y'
      · have y' : X.env.scope.names.lookup x = some .free := y
        rw [k'] at y'
        cases y'
    · obtain ⟨c', e'⟩ := ch hf
      have e2 := cm e'
      rw [ec] at e2
      cases e2
      exact ⟨c, e', z.keeps kp⟩
  · obtain ⟨v, z⟩ := I.cell x c (cm e)
    exact ⟨v, z.keeps kp⟩
  · have hp' : p ∈ [(a, go)] ++ ([] : List (Addr × Obj)) := hp
    have e : p = (a, go) := by simpa using hp'
    subst e
    refine ⟨ha, I.hok.fresh (Nat.le_of_lt ha1), Nat.ne_of_gt ha1, fun z => ?_, hd⟩
    exact Nat.lt_irrefl _ (Nat.lt_trans (stL _ z) ha1)
end
/-- what a turn's way through the generator must reach. stopb: the truth at which any (true), all (false) stops -/
def GEndP (Y : Cx) (σw : L2.St) (stopb : Bool) (Q : VK) : Nat → Shared → Shared → Prop := fun _ _ s => ∃ H', Inv Y [] σw H' s ∧ Q (.bl (!stopb)) H'
def GProto (Y : Cx) (σw : L2.St) (fp : List Addr) (tn : Nat → Heap → Prop) (W : Nat → Nat → Hp → Prop) (stopb : Bool) (Q : VK) : Protocol := fun n _ v s kap => ∃ (k : Bool) (H' : Hp), v = .bool k ∧ Inv Y [] σw H' s ∧
  ((k = stopb ∧ Q (.bl stopb) H') ∨ (k = !stopb ∧ ∃ i m, m < n ∧ W i m H' ∧ ∀ s'' : Shared, s''.heap = s.heap → s''.os = s.os → AllBare s''.gens → kap (.send .none) s''))
section
variable {X : Cx} {elt tg iter : Expr} {ifs : List Expr} {scope : Scope} {gpos : Pos} {s4 : Shared} {H4 : Hp} {cenv : Env} {it : Addr} {fp : List Addr} {pn : List (Addr × Obj)} {J : It} {tn : Nat → Heap → Prop} {g : TG} {tt : TT} {te : TE} {own : List Nat} {σ : L2.St} {stopb : Bool} {Q : VK} {W : Nat → Nat → Hp → Prop}
/-- the turns of the generator's own loop -/
theorem gen_loop (hc : X.calm = true) (hco : cenv.scope.isCoroutine = false) (T : Turn X.prog X.w X.K tg J fp it tn) (hpn : ∀ p ∈ pn, ∀ b ∈ fp, p.1 ≠ b)
    (pg : PG (gCx X (.GeneratorExp elt [⟨tg, iter, ifs, 0⟩] scope gpos) s4 H4 cenv it fp pn) tg g) (pt : PTs (gCx X (.GeneratorExp elt [⟨tg, iter, ifs, 0⟩] scope gpos) s4 H4 cenv it fp pn) ifs tt) (pe : PE (gCx X (.GeneratorExp elt [⟨tg, iter, ifs, 0⟩] scope gpos) s4 H4 cenv it fp pn) elt te)
    (turn : ∀ i m H, W i m H → (J.stop i H ∧ Q (.bl (!stopb)) H) ∨ (J.go i H ∧ ∃ Nx : Hp → Prop, (∀ H', Nx H' → ∃ m', m' < m ∧ W (i + 1) m' H') ∧ ∀ x H', J.yld i H x H' → g x (wipe σ own) H' fun σ2 H2 => wipe σ2 own = wipe σ own ∧ tt σ2 H2 fun b H3 =>
      if b = true then te σ2 H3 fun y H4 => (y = .bl stopb ∧ Q (.bl stopb) H4) ∨ (y = .bl (!stopb) ∧ Nx H4) else Nx H3)) :
    ∀ (m n i : Nat) (s0 s : Shared) (H' : Hp), m < n → W i m H' → Inv (gCx X (.GeneratorExp elt [⟨tg, iter, ifs, 0⟩] scope gpos) s4 H4 cenv it fp pn) [] (wipe σ own) H' s → tn i s.heap → (∀ b ∈ fp, H' b = none) →
      Seg (model X.prog X.w) X.A.in1.in1 (fun n s0 r s1 => r = .ok .next ∧ GEndP (gCx X (.GeneratorExp elt [⟨tg, iter, ifs, 0⟩] scope gpos) s4 H4 cenv it fp pn) (wipe σ own) stopb Q n s0 s1)
        (GProto (gCx X (.GeneratorExp elt [⟨tg, iter, ifs, 0⟩] scope gpos) s4 H4 cenv it fp pn) (wipe σ own) fp tn W stopb Q) n s0
        (.compLoop (.GeneratorExp elt [⟨tg, iter, ifs, 0⟩] scope gpos) 0 (.ref it) .none cenv) ((model X.prog X.w).den (.compLoop (.GeneratorExp elt [⟨tg, iter, ifs, 0⟩] scope gpos) 0 (.ref it) .none cenv)) [] s := by
  intro m
  induction m using Nat.strongRecOn with
  | ind m ih =>
    intro n i s0 s H' hmn w I st nf
    have fpk : ∀ {σ' : L2.St} {H' : Hp} {s' : Shared}, Inv (gCx X (.GeneratorExp elt [⟨tg, iter, ifs, 0⟩] scope gpos) s4 H4 cenv it fp pn) [] σ' H' s' → (∀ b ∈ fp, H' b = none) → ∀ b ∈ fp, FpOk (gCx X (.GeneratorExp elt [⟨tg, iter, ifs, 0⟩] scope gpos) s4 H4 cenv it fp pn) [] H' b := fun {σ' H' s'} I' hn b hb =>
      ⟨hn b hb, (I'.ok.exf b hb).1, I'.ok.exfs b hb, .inl hb, (I'.ok.exf b hb).2, fun p hp => hpn p (by simpa using hp) b hb⟩
    show Seg _ _ _ _ n s0 _ ((compTurn (.GeneratorExp elt [⟨tg, iter, ifs, 0⟩] scope gpos) 0 (.ref it) .none cenv).onRaise (leaving cenv)) [] s
    rw [compTurn_gen, Sem.onRaise_eq_wrap]
    refine seg_bind_wrap (wpAny_standAt ?_)
    rcases turn i m H' w with ⟨stop, q⟩ | ⟨go, Nx, hNx, step⟩
    · refine seg_bind_wrap (thnF (T.done (gCx X (.GeneratorExp elt [⟨tg, iter, ifs, 0⟩] scope gpos) s4 H4 cenv it fp pn) rfl rfl rfl hc i [] s _ H' (fun _ _ => False) I (fpk I nf) st stop) fun r s1 z => ?_)
      obtain ⟨rfl, I1⟩ := z
      exact seg_end (.ok .next) ⟨rfl, H', I1, q⟩
    · refine seg_bind_wrap (thnF (T.item (gCx X (.GeneratorExp elt [⟨tg, iter, ifs, 0⟩] scope gpos) s4 H4 cenv it fp pn) rfl rfl rfl hc i [] s _ H' (fun _ _ => False) I (fpk I nf) st go) fun r s1 z => ?_)
      obtain ⟨u, rfl, z⟩ := z
      refine seg_bind_wrap (thnF z fun _ s2 z2 => ?_)
      obtain ⟨x, H2, I2, r2, y2, st2, n2⟩ := z2
      have P2 := I2.pinned (fpk I2 n2) (T.obj _ _ st2)
      refine seg_bind_wrap (thnF (pg.run _ s2 _ H2 x u _ P2 r2 (step x H2 y2)) fun _ s3 z3 => ?_)
      obtain ⟨σ3, H3, I3, hw, q3⟩ := z3
      refine seg_bind_wrap (thnF (pt.run _ s3 σ3 H3 _ I3 q3) fun b sb zb => ?_)
      obtain ⟨Hb, Ib, qb⟩ := zb
      have back : ∀ {s' : Shared} {H' : Hp}, Inv (gCx X (.GeneratorExp elt [⟨tg, iter, ifs, 0⟩] scope gpos) s4 H4 cenv it fp pn) ([] ++ pinsAt fp s2.heap) σ3 H' s' →
          Inv (gCx X (.GeneratorExp elt [⟨tg, iter, ifs, 0⟩] scope gpos) s4 H4 cenv it fp pn) [] (wipe σ own) H' s' ∧ tn (i + 1) s'.heap ∧ ∀ b ∈ fp, H' b = none := fun {s' H'} I' => by
        have pin' : ∀ b ∈ fp, ∀ o, s2.heap.get? b = some o → s'.heap.get? b = some o ∧ H' b = none := fun b hb o e =>
          have y := I'.pin (b, o) (List.mem_append_right _ (List.mem_append_right _ (mem_pinsAt hb e)))
          ⟨y.1, y.2.1⟩
        have hl : (wipe σ own).length = σ3.length := by
          rw [← hw, wipe_length]
        refine ⟨(I'.unpinned (pins := [])).weak hl (fun j v e => ?_), T.keep _ _ _ st2 (fun b hb o e => (pin' b hb o e).1), fun b hb => ?_⟩
        · rw [← hw] at e
          exact (wipe_some e).1
        · obtain ⟨o, e, _⟩ := T.obj _ _ st2 b hb
          exact (pin' b hb o e).2
      cases b with
      | false =>
        simp only [Bool.false_eq_true, if_false] at qb ⊢
        obtain ⟨m', hm, w'⟩ := hNx _ qb
        obtain ⟨I', st', n'⟩ := back Ib
        exact seg_again rfl (ih m' hm n (i + 1) s0 sb Hb (Nat.lt_trans hm hmn) w' I' st' n')
      | true =>
        simp only [if_true] at qb ⊢
        have hy : ∀ v, yieldOut cenv v = yieldValue v := fun v => by simp only [yieldOut, hco, Bool.false_eq_true, if_false]
        simp only [hy]
        rw [Sem.bind_eq_wrap', Sem.bind_eq_wrap', Sem.wrap_wrap, Sem.wrap_wrap]
        refine seg_wrap (thnF (pe.run _ sb σ3 Hb _ Ib qb) fun z sy zy => ?_)
        obtain ⟨v, Hy, Iy, ry, qy⟩ := zy
        obtain ⟨I', st', n'⟩ := back Iy
        obtain ⟨n1, rfl⟩ : ∃ n1, n = n1 + 1 := ⟨n - 1, by omega⟩
        refine seg_at (seg_yield rfl rfl rfl ?_)
        rcases qy with ⟨rfl, q⟩ | ⟨rfl, q⟩
        · cases ry
          exact ⟨stopb, Hy, rfl, I', .inl ⟨rfl, q⟩⟩
        · cases ry
          obtain ⟨m', hm, w'⟩ := hNx _ q
          refine ⟨!stopb, Hy, rfl, I', .inr ⟨rfl, i + 1, m', by omega, w', fun s'' hh ho hb => ?_⟩⟩
          exact seg_again rfl (ih m' hm n1 (i + 1) s'' s'' Hy (by omega) w' (inv_gens I' hh ho hb) (by rw [hh]; exact st') n')
/-- the start of the generator's code -/
theorem gen_begin {n : Nat} {s0 s : Shared} {R : GenEnd} {Y : Protocol} (T : Turn X.prog X.w X.K tg J fp it tn) (st : tn 0 s.heap)
    (loop : Seg (model X.prog X.w) X.A.in1.in1 R Y n s0 (.compLoop (.GeneratorExp elt [⟨tg, iter, ifs, 0⟩] scope gpos) 0 (.ref it) .none cenv) ((model X.prog X.w).den (.compLoop (.GeneratorExp elt [⟨tg, iter, ifs, 0⟩] scope gpos) 0 (.ref it) .none cenv)) [] s) :
    Seg (model X.prog X.w) X.A.in1.in1 R Y n s0 (.compStart (.GeneratorExp elt [⟨tg, iter, ifs, 0⟩] scope gpos) 0 (.ref it) .none cenv) ((model X.prog X.w).den (.compStart (.GeneratorExp elt [⟨tg, iter, ifs, 0⟩] scope gpos) 0 (.ref it) .none cenv)) [] s := by
  show Seg _ _ _ _ n s0 _ ((compStart (.GeneratorExp elt [⟨tg, iter, ifs, 0⟩] scope gpos) 0 (.ref it) .none cenv).onRaise (leaving cenv)) [] s
  unfold compStart
  rw [Sem.onRaise_eq_wrap]
  refine seg_bind_wrap (wpAny_askSetting ?_)
  split
  · exact seg_again rfl loop
  · refine seg_bind_wrap (wpAny_rule ?_)
    show Seg _ _ _ _ n s0 _ ((standAt iter.pos >>= _).wrap _ _ _ _) [] s
    refine seg_bind_wrap (wpAny_standAt (seg_bind_wrap ?_))
    exact T.self _ 0 s _ _ st (seg_again rfl loop)
end
/-- the generator at a, number gn, is asleep (or fresh), with n turns at most -/
def Asleep (X Y : Cx) (σw : L2.St) (fp : List Addr) (tn : Nat → Heap → Prop) (W : Nat → Nat → Hp → Prop) (stopb : Bool) (Q : VK) (gn n : Nat) (s : Shared) : Prop :=
  ∃ (gs : GenState) (H' : Hp), s.gens[gn]? = some gs ∧ Inv Y [] σw H' s ∧ ∀ s'' : Shared, s''.heap = s.heap → s''.os = s.os → AllBare s''.gens →
    gs.Goes (model X.prog X.w) X.A.in1.in1 (fun n s0 r s1 => r = .ok .next ∧ GEndP Y σw stopb Q n s0 s1) (GProto Y σw fp tn W stopb Q) n (.send .none) s''
section
variable {X Y : Cx} {σw : L2.St} {fp : List Addr} {tn : Nat → Heap → Prop} {W : Nat → Nat → Hp → Prop} {Q : VK} {gn : Nat} {a : Addr} {go : Obj} {R : Result → Shared → Prop}
theorem set_at {s : Shared} {x : GenState} (h : gn < s.gens.size) : (s.setGen gn x).gens[gn]? = some x := by
  show (s.gens.setIfInBounds gn x)[gn]? = some x
  rw [Array.getElem?_setIfInBounds_self_of_lt h]
/-- one waking of the generator -/
theorem wake {stopb : Bool} {n : Nat} {s : Shared} {Q' : Option Value → Shared → Prop} {E : Value → Shared → Prop} (hh : X.A.handled = none) (hroom : X.A.depth < recursionLimit) (hp : (a, go) ∈ Y.pn) (hgo : ∀ h : Heap, h.get? a = some go → h.IsGen a gn) (S : Asleep X Y σw fp tn W stopb Q gn n s)
    (stop : ∀ s' H', Inv Y [] σw H' s' → Q (.bl stopb) H' → Q' (some (.bool stopb)) s') (next : ∀ s' m, m < n → Asleep X Y σw fp tn W stopb Q gn m s' → Q' (some (.bool (!stopb))) s') (done : ∀ s' H', Inv Y [] σw H' s' → Q (.bl (!stopb)) H' → Q' none s') :
    wpAny (model X.prog X.w) X.A.in1 (pyNext (.ref a)) Q' E s := by
  obtain ⟨gs, H', hg, I, hG⟩ := S
  have hlt : gn < s.gens.size := by
    rcases Nat.lt_or_ge gn s.gens.size with z | z
    · exact z
    · rw [Array.getElem?_eq_none z] at hg
      cases hg
  have ig : s.heap.IsGen a gn := hgo _ (I.pin (a, go) (List.mem_append_left _ hp)).1
  refine GenW.wpAny_gsz (n := s.gens.size) (Nat.le_refl _) ?_
  refine wpAny_pyNext_genexpQ (A := X.A.in1) hh I.nolimit hroom ig hg (hG _ rfl rfl (bare_set I.bare rfl)) (fun v s1 gs' hb hv sz => ?_) (fun s1 hp1 h' hk sz => ?_)
  · obtain ⟨k, H1, rfl, I1, z⟩ := hv
    have sz1 : gn < s1.gens.size := by
      have e : (s1.setGen gn gs').gens.size = s1.gens.size := GenW.setGen_size _ _ _
      rw [e] at sz
      omega
    have I2 : Inv Y [] σw H1 (s1.setGen gn gs') := inv_gens I1 rfl rfl (bare_set I1.bare hb)
    rcases z with ⟨rfl, q⟩ | ⟨rfl, i, m, hm, w, kap⟩
    · exact stop _ H1 I2 q
    · cases n with
      | zero => omega
      | succ n1 =>
        refine next _ n1 (Nat.lt_succ_self _) ⟨gs', H1, set_at sz1, I2, fun s'' h1 h2 h3 => ?_⟩
        exact kap s'' h1 h2 h3
  · obtain ⟨H1, I1, q⟩ := hp1
    refine done _ H1 ?_ q
    have I2 : Inv Y [] σw H1 (s1.setGen gn .finished) := inv_gens I1 rfl rfl (bare_set I1.bare rfl)
    exact I2.kept (h' := h') (t' := s1.toks) fun b o e => hk b o e
theorem any_loop (hh : X.A.handled = none) (hroom : X.A.depth < recursionLimit) (hp : (a, go) ∈ Y.pn) (hgo : ∀ h : Heap, h.get? a = some go → h.IsGen a gn)
    (fin : ∀ s' H' b, Inv Y [] σw H' s' → Q (.bl b) H' → R (.ok (.ret (.bool b))) s') : ∀ (n : Nat) (s : Shared), Asleep X Y σw fp tn W true Q gn n s → codeAny (model X.prog X.w) X.A (.builtin "any.loop" ⟨[.ref a], []⟩) R s := by
  intro n
  induction n using Nat.strongRecOn with
  | ind n ih =>
    intro s S
    refine codeAny_builtin F.entry_any_loop ?_
    rw [Around.under_plainId F.plain_any_loop _]
    show wpAny _ X.A.in1 (pyNext (.ref a) >>= _) _ _ s
    refine wpAny_bind (wake hh hroom hp hgo S (fun s' H' I q => ?_) (fun s' m hm S' => ?_) (fun s' H' I q => ?_))
    · refine wpAny_bind (wpAny_holding (wpAny_truthy_bool (wpAny_bind (wpAny_letGo ?_))))
      simp only [if_true]
      exact wpAny_bind (wpAny_rule (wpAny_pure (fin s' H' true I q)))
    · refine wpAny_bind (wpAny_holding (wpAny_truthy_bool (wpAny_bind (wpAny_letGo ?_))))
      simp only [Bool.not_true, Bool.false_eq_true, if_false]
      exact wpAny_pure ⟨plainId_quiet F.plain_any_loop _, ih m hm s' S'⟩
    · exact wpAny_bind (wpAny_rule (wpAny_pure (fin s' H' false I q)))
theorem all_loop (hh : X.A.handled = none) (hroom : X.A.depth < recursionLimit) (hp : (a, go) ∈ Y.pn) (hgo : ∀ h : Heap, h.get? a = some go → h.IsGen a gn)
    (fin : ∀ s' H' b, Inv Y [] σw H' s' → Q (.bl b) H' → R (.ok (.ret (.bool b))) s') : ∀ (n : Nat) (s : Shared), Asleep X Y σw fp tn W false Q gn n s → codeAny (model X.prog X.w) X.A (.builtin "all.loop" ⟨[.ref a], []⟩) R s := by
  intro n
  induction n using Nat.strongRecOn with
  | ind n ih =>
    intro s S
    refine codeAny_builtin F.entry_all_loop ?_
    rw [Around.under_plainId F.plain_all_loop _]
    show wpAny _ X.A.in1 (pyNext (.ref a) >>= _) _ _ s
    refine wpAny_bind (wake hh hroom hp hgo S (fun s' H' I q => ?_) (fun s' m hm S' => ?_) (fun s' H' I q => ?_))
    · refine wpAny_bind (wpAny_holding (wpAny_truthy_bool (wpAny_bind (wpAny_letGo ?_))))
      simp only [Bool.false_eq_true, if_false]
      exact wpAny_bind (wpAny_rule (wpAny_pure (fin s' H' false I q)))
    · refine wpAny_bind (wpAny_holding (wpAny_truthy_bool (wpAny_bind (wpAny_letGo ?_))))
      simp only [Bool.not_false, if_true]
      exact wpAny_pure ⟨plainId_quiet F.plain_all_loop _, ih m hm s' S'⟩
    · exact wpAny_bind (wpAny_rule (wpAny_pure (fin s' H' true I q)))
end
/-- any(elt for target in iter if ..) (stopb true), all(..) (stopb false): W by the turn and a measure, Nx what a turn is to reach; P: the def's table of code objects -/
def tAA (P : Addr) (stopb : Bool) (wi : TI) (g : TG) (tt : TT) (te : TE) (vs : List Nat) : TE := fun σ H Q => wi σ H fun J H1 => TabG H1 P ∧ ∀ H2, Tabbed P H1 H2 → ∃ W : Nat → Nat → Hp → Prop, (∃ m, W 0 m H2) ∧
  ∀ i m H, W i m H → (J.stop i H ∧ Q (.bl (!stopb)) H) ∨ (J.go i H ∧ ∃ Nx : Hp → Prop, (∀ H', Nx H' → ∃ m', m' < m ∧ W (i + 1) m' H') ∧ ∀ x H', J.yld i H x H' → g x (wipe σ vs) H' fun σ2 H2 => wipe σ2 vs = wipe σ vs ∧ tt σ2 H2 fun b H3 =>
    if b = true then te σ2 H3 fun y H4 => (y = .bl stopb ∧ Q (.bl stopb) H4) ∨ (y = .bl (!stopb) ∧ Nx H4) else Nx H3)
/-- over a tuple that stays -/
theorem aa_tup {K : PySem.W.Frag} {a : Addr} {xs : List V} {g : TG} {tt : TT} {te : TE} {vs : List Nat} {σ : L2.St} {H1 : Hp} {stopb : Bool} {Q : VK} (Pv : Nat → Hp → Prop) (h0 : Pv 0 H1) (hl : ∀ i H, i ≤ xs.length → Pv i H → SqT K H a xs)
    (hs : ∀ i x H, xs[i]? = some x → Pv i H → g x (wipe σ vs) H fun σ2 H2 => wipe σ2 vs = wipe σ vs ∧ tt σ2 H2 fun b H3 => if b = true then te σ2 H3 fun y H4 => (y = .bl stopb ∧ Q (.bl stopb) H4) ∨ (y = .bl (!stopb) ∧ Pv (i + 1) H4) else Pv (i + 1) H3) (hd : ∀ H, Pv xs.length H → Q (.bl (!stopb)) H) :
    ∃ W : Nat → Nat → Hp → Prop, (∃ m, W 0 m H1) ∧ ∀ i m H, W i m H → ((Itt K a).stop i H ∧ Q (.bl (!stopb)) H) ∨ ((Itt K a).go i H ∧ ∃ Nx : Hp → Prop, (∀ H', Nx H' → ∃ m', m' < m ∧ W (i + 1) m' H') ∧ ∀ x H', (Itt K a).yld i H x H' → g x (wipe σ vs) H' fun σ2 H2 => wipe σ2 vs = wipe σ vs ∧ tt σ2 H2 fun b H3 =>
      if b = true then te σ2 H3 fun y H4 => (y = .bl stopb ∧ Q (.bl stopb) H4) ∨ (y = .bl (!stopb) ∧ Nx H4) else Nx H3) := by
  refine ⟨fun i m H => i + m = xs.length ∧ Pv i H, ⟨xs.length, Nat.zero_add _, h0⟩, fun i m H ⟨e, p⟩ => ?_⟩
  have sq := hl i H (by omega) p
  cases m with
  | zero =>
    have ei : i = xs.length := by omega
    subst ei
    exact .inl ⟨⟨xs, sq, Nat.le_refl _⟩, hd H p⟩
  | succ m =>
    have lt : i < xs.length := by omega
    refine .inr ⟨⟨xs, xs[i], sq, List.getElem?_eq_getElem lt⟩, Pv (i + 1), fun H' q => ⟨m, Nat.lt_succ_self m, by omega, q⟩, fun x H' y => ?_⟩
    obtain ⟨rfl, y⟩ := y
    exact hs i x _ (y xs sq) p
section
variable {X : Cx} {pins : List (Addr × Obj)} {σ : L2.St} {H : Hp} {s : Shared} {c P : Addr} {elt tg iter : Expr} {ifs : List Expr} {scope : Scope} {own : List (Str × Nat)} {gpos : Pos} {wi : TI} {g : TG} {tt : TT} {te : TE} {stopb : Bool} {k : Nat}
/-- the scope of a generator expression: no cells of its own -/
structure GSc (scope : Scope) : Prop where
  co : scope.isCoroutine = false
  nc : ∀ y ∈ scope.names, y.2 ≠ .cell
  dot : scope.names.lookup (".0" : Str) = some NameKind.local
theorem gen_make {Q : VK} {Q' : Value → Shared → Prop} (hr : Room k X.A) (hc : X.calm = true) (hN : X.N.Nodup) (TB : TabB X.base X.mg c P) (hcode : X.env.code = .ref c) (hi : PI X tg iter wi) (ok : BlkOk X.N X.env.scope scope own) (S : GSc scope)
    (hg : ∀ (s : Shared) (H : Hp) (C : Addr) (code : Value) (it : Addr) (fp : List Addr) (pn : List (Addr × Obj)), PG (gCx X (.GeneratorExp elt [⟨tg, iter, ifs, 0⟩] scope gpos) s H (genEnv scope (cloFrom X.env.cells scope.names []) C code builtinsNs X.env) it fp pn) tg g)
    (ht : ∀ (s : Shared) (H : Hp) (C : Addr) (code : Value) (it : Addr) (fp : List Addr) (pn : List (Addr × Obj)), PTs (gCx X (.GeneratorExp elt [⟨tg, iter, ifs, 0⟩] scope gpos) s H (genEnv scope (cloFrom X.env.cells scope.names []) C code builtinsNs X.env) it fp pn) ifs tt)
    (he : ∀ (s : Shared) (H : Hp) (C : Addr) (code : Value) (it : Addr) (fp : List Addr) (pn : List (Addr × Obj)), PE (gCx X (.GeneratorExp elt [⟨tg, iter, ifs, 0⟩] scope gpos) s H (genEnv scope (cloFrom X.env.cells scope.names []) C code builtinsNs X.env) it fp pn) elt te)
    (hs : ∀ x, genFold iter X.env x = pure x) (I : Inv X pins σ H s) (h : tAA P stopb wi g tt te (own.map (·.2)) σ H Q)
    (hQ : ∀ (a : Addr) (go : Obj) (gn n : Nat) (Y : Cx) (fp : List Addr) (tn : Nat → Heap → Prop) (W : Nat → Nat → Hp → Prop) (s5 : Shared), (a, go) ∈ Y.pn → (∀ h : Heap, h.get? a = some go → h.IsGen a gn) → (∀ s' H', Inv Y [] (wipe σ (own.map (·.2))) H' s' → Inv X pins σ H' s') → s5.heap.get? a = some go →
      Asleep X Y (wipe σ (own.map (·.2))) fp tn W stopb Q gn n s5 → Q' (.ref a) s5) :
    wpAny (model X.prog X.w) X.A (eval (.GeneratorExp elt [⟨tg, iter, ifs, 0⟩] scope gpos) X.env) Q' X.xe s := by
  have hfree : ∀ y ∈ scope.names, y.2 = .free → ∃ c, X.env.cells.lookup y.1 = some c := fun y hy e => by
    rcases ok.free y hy e with z | z
    · exact I.ok.has _ (.inl z)
    · exact I.ok.has _ (.inr z)
  refine wpAny_GeneratorExp_make S.co (closure_ok hfree) S.nc S.dot ok.kind (by have := hr.dp; omega) (thn (hi.run pins s σ H _ I h) fun xv s1 hx => thn hx fun itv s2 h2 => ?_) hs
  obtain ⟨it, fp, tn, J, H2, rfl, I2, T, st2, f2, ⟨ps, hP, hT⟩, q⟩ := h2
  have hPs : s2.heap.get? P = some { cls := .none, data := .fields ps } := I2.hok P _ hP
  have cd : PySem.W.CodeHd s2.heap c P := TB.code.keeps I2.bk
  have szf : ∀ b ∈ fp, b < s2.heap.objs.size := fun b hb => by
    obtain ⟨o, e, _⟩ := T.obj _ _ st2 b hb
    exact Heap.lt_size e
  have nP : ∀ b ∈ fp, b ≠ P := fun b hb z => by
    have e := (f2 b hb).1
    rw [z, hP] at e
    cases e
  refine ⟨I2.nolimit, ?_⟩
  have cont : ∀ (code : Value) (h3 : Heap) (tk : Nat) (more : Array Value), Heap.ExtBut P s2.heap h3 → s2.heap.objs.size ≤ h3.objs.size → h3.get? P = some { cls := .none, data := .fields (ps ++ more) } → TriplesOk (ps ++ more).toList →
      wpAny (model X.prog X.w) X.A (builtinsFor X.env.globals X.env.builtins) (fun bi s4 => ∀ h', h'.Ns s4.heap.objs.size (fun y => if y = ".0" then some (.ref it) else none) → Heap.SameBut s4.heap.objs.size (s4.heap.push { cls := .type "frame", data := .dict #[] }) h' →
        Q' (.ref h'.objs.size) { s4 with
          gens := s4.gens.push (.fresh (.compStart (.GeneratorExp elt [⟨tg, iter, ifs, 0⟩] scope gpos) 0 (.ref it) .none (genEnv scope (cloFrom X.env.cells scope.names []) s4.heap.objs.size code bi X.env))),
          toks := s4.toks + 1 + 1 + 1,
          heap := h'.push { cls := .type "generator", data := .fields #[.int s4.gens.size 0, .str "<genexpr>" (s4.toks + 1), .str (X.env.qual ++ "<genexpr>") (s4.toks + 1 + 1)] } }) X.xe { s2 with heap := h3, toks := tk } := by
    intro code h3 tk more hx hsz hP3 hT3
    obtain ⟨bm, ob, e1, e2, e3, e4, e5, e6, e7, e8⟩ := TB.bm
    have I3 : Inv X pins σ (upd H2 P (.tbl (ps ++ more))) { s2 with heap := h3, toks := tk } := inv_tab (g' := s2.gens) (d' := s2.drawn) (t' := tk) I2 hP (fun b o hb e => hx b o hb e) hP3 I2.bare
    have f3 : ∀ b ∈ fp, FpOk X pins (upd H2 P (.tbl (ps ++ more))) b ∧ b < h3.objs.size := fun b hb => ⟨⟨by rw [upd_ne (nP b hb)]; exact (f2 b hb).1, (f2 b hb).2⟩, Nat.lt_of_lt_of_le (szf b hb) hsz⟩
    have st3 : tn 0 h3 := T.keep _ _ _ st2 fun b hb o e => hx b o (nP b hb) e
    obtain ⟨W, ⟨m0, w0⟩, turn⟩ := q (upd H2 P (.tbl (ps ++ more))) ⟨⟨_, upd_same, hT3⟩, fun b hb => upd_ne hb⟩
    refine wpAny_builtinsFor (m := X.mg) (by rw [I3.ok.glob]; exact I3.mod.glob.keeps I3.bk) e1 e2 (hx _ _ e4 (I2.bk _ _ e5)) e6 e7 e8 ?_
    intro h' hn' hs'
    have hsz' : h'.objs.size = h3.objs.size + 1 := by
      rw [hs'.1]
      exact Heap.size_push ..
    have kp : ∀ b o, h3.get? b = some o → (h'.push { cls := .type "generator", data := .fields #[.int s2.gens.size 0, .str "<genexpr>" (tk + 1), .str (X.env.qual ++ "<genexpr>") (tk + 1 + 1)] }).get? b = some o := fun b o e =>
      Heap.get?_push_of_some _ (hs'.extBut b o (Nat.ne_of_lt (Heap.lt_size e)) (Heap.get?_push_of_some _ e))
    have st5 := T.keep _ _ _ st3 fun b hb o e => kp b o e
    have nf : ∀ b ∈ fp, (upd H2 P (.tbl (ps ++ more))) b = none := fun b hb => (f3 b hb).1.1
    have IG := gen_start (ge := .GeneratorExp elt [⟨tg, iter, ifs, 0⟩] scope gpos) (it := it) (code := code) (tk := tk + 1 + 1 + 1)
      (gs := s2.gens.push (.fresh (.compStart (.GeneratorExp elt [⟨tg, iter, ifs, 0⟩] scope gpos) 0 (.ref it) .none (genEnv scope (cloFrom X.env.cells scope.names []) h3.objs.size code builtinsNs X.env)))) I3 hc ok hN S.nc f3
      (by show pushEnvs [_] (pushEnvs [] X.A.frames) = _; rw [I.ok.frames]; rfl) (I2.bare.push rfl) kp (hn'.keeps fun b o e => Heap.get?_push_of_some _ e) (Heap.get?_push_size h' rfl) (show h3.objs.size < h'.objs.size by omega) (fun v z => by cases z)
    refine hQ h'.objs.size _ s2.gens.size (m0 + 1) _ fp tn W _ List.mem_cons_self (fun h0 e => ?_) (fun s' H' J' => ?_) (Heap.get?_push_size h' rfl) ⟨_, _, Array.getElem?_push_size .., IG, fun s'' h1 h2 h3' => ?_⟩
    · exact ⟨_, _, _, e, rfl, rfl, rfl⟩
    · exact I3.call' (ch := fp) J'.os J'.base J'.hok J'.bare fun b hb => ⟨(f3 b hb).1.2.2.2.1, (f3 b hb).1.2.1, (f3 b hb).1.2.2.2.2.1, (f3 b hb).1.2.2.2.2.2⟩
    · refine ⟨rfl, gen_begin T (by rw [h1]; exact st5) ?_⟩
      refine gen_loop hc S.co T (fun p hp b hb z => ?_) (hg _ _ _ _ _ _ _) (ht _ _ _ _ _ _ _) (he _ _ _ _ _ _ _) turn m0 (m0 + 1) 0 s'' s'' _ (Nat.lt_succ_self _) w0 (inv_gens IG h1 h2 h3') (by rw [h1]; exact st5) nf
      rw [List.mem_singleton.mp hp] at z
      have z1 := (f3 b hb).2
      rw [← z] at z1
      have z2 : h'.objs.size < h3.objs.size := z1
      omega
  cases hf : codeAmong gpos ps.toList with
  | none =>
    refine wpAny_genexprCodeX hcode (cd.code hPs hT) (cd.tab hPs) hf fun c' h' tk hx hge hlt hco' _ htab' _ => ?_
    have tr : TriplesOk (ps ++ #[rawInt gpos.line, rawInt gpos.col, Value.ref c']).toList := by
      obtain ⟨_, _, _, _, _, _, _, _, _, _, _, _, _, _, _, _, _, _, _, z, _⟩ := hco'
      exact z
    exact cont _ h' tk _ hx (Nat.le_trans hge (Nat.le_of_lt hlt)) htab'.2 tr
  | some cv =>
    refine wpAny_genexprCode_hit hcode (cd.code hPs hT) hf ?_
    exact cont cv s2.heap s2.toks #[] (Heap.ExtBut.refl _ _) (Nat.le_refl _) (by rw [Array.append_empty]; exact hPs) (by rw [Array.append_empty]; exact hT)
theorem pe_any {p pos : Pos} (hr : Room k X.A) (hb : Gl X "any") (hm : X.mg "any" = none) (hc : X.calm = true) (hN : X.N.Nodup) (TB : TabB X.base X.mg c P) (hcode : X.env.code = .ref c) (hi : PI X tg iter wi) (ok : BlkOk X.N X.env.scope scope own) (S : GSc scope)
    (hg : ∀ (s : Shared) (H : Hp) (C : Addr) (code : Value) (it : Addr) (fp : List Addr) (pn : List (Addr × Obj)), PG (gCx X (.GeneratorExp elt [⟨tg, iter, ifs, 0⟩] scope gpos) s H (genEnv scope (cloFrom X.env.cells scope.names []) C code builtinsNs X.env) it fp pn) tg g)
    (ht : ∀ (s : Shared) (H : Hp) (C : Addr) (code : Value) (it : Addr) (fp : List Addr) (pn : List (Addr × Obj)), PTs (gCx X (.GeneratorExp elt [⟨tg, iter, ifs, 0⟩] scope gpos) s H (genEnv scope (cloFrom X.env.cells scope.names []) C code builtinsNs X.env) it fp pn) ifs tt)
    (he : ∀ (s : Shared) (H : Hp) (C : Addr) (code : Value) (it : Addr) (fp : List Addr) (pn : List (Addr × Obj)), PE (gCx X (.GeneratorExp elt [⟨tg, iter, ifs, 0⟩] scope gpos) s H (genEnv scope (cloFrom X.env.cells scope.names []) C code builtinsNs X.env) it fp pn) elt te)
    (hs : ∀ x, genFold iter X.env x = pure x := by intro _; rfl)
    (hst : starEach [.GeneratorExp elt [⟨tg, iter, ifs, 0⟩] scope gpos] X.env = (false, eval (.GeneratorExp elt [⟨tg, iter, ifs, 0⟩] scope gpos) X.env) :: starEach [] X.env := by rfl) :
    PE X (.Call (.Name "any" p) [.GeneratorExp elt [⟨tg, iter, ifs, 0⟩] scope gpos] [] pos) (tAA P true wi g tt te (own.map (·.2))) := by
  refine ⟨fun pins s σ H Q I h => wpAny_Call_Name_kw (ld_blt I hb hm boot_any (PyProof.Rows.callWith_builtin1 ?_ hst (by rfl)))⟩
  rw [hst]
  refine Calls.spliced_cons (gen_make hr hc hN TB hcode hi ok S hg ht he hs I h fun a go gn n Y fp tn W s5 h1 h2 h3 h4 SL => Calls.spliced_nil ?_)
  refine call_function_tree F.kind_any F.plain_any F.entry_any (F.args_any1 _) ?_
  unfold Builtin.«any»
  refine wpAny_bind (m := oneArg "any" _) (wpAny_pure (wpAny_bind (wpAny_pyIter_gen (h2 _ h4) (wpAny_pure ⟨plainId_quiet F.plain_any_loop _, ?_⟩))))
  exact any_loop (I.ok.hd hc) hr.depth h1 h2 (fun s' H' b J q => ⟨.bl b, H', h3 s' H' J, rfl, q⟩) n s5 SL
theorem pe_all {p pos : Pos} (hr : Room k X.A) (hb : Gl X "all") (hm : X.mg "all" = none) (hc : X.calm = true) (hN : X.N.Nodup) (TB : TabB X.base X.mg c P) (hcode : X.env.code = .ref c) (hi : PI X tg iter wi) (ok : BlkOk X.N X.env.scope scope own) (S : GSc scope)
    (hg : ∀ (s : Shared) (H : Hp) (C : Addr) (code : Value) (it : Addr) (fp : List Addr) (pn : List (Addr × Obj)), PG (gCx X (.GeneratorExp elt [⟨tg, iter, ifs, 0⟩] scope gpos) s H (genEnv scope (cloFrom X.env.cells scope.names []) C code builtinsNs X.env) it fp pn) tg g)
    (ht : ∀ (s : Shared) (H : Hp) (C : Addr) (code : Value) (it : Addr) (fp : List Addr) (pn : List (Addr × Obj)), PTs (gCx X (.GeneratorExp elt [⟨tg, iter, ifs, 0⟩] scope gpos) s H (genEnv scope (cloFrom X.env.cells scope.names []) C code builtinsNs X.env) it fp pn) ifs tt)
    (he : ∀ (s : Shared) (H : Hp) (C : Addr) (code : Value) (it : Addr) (fp : List Addr) (pn : List (Addr × Obj)), PE (gCx X (.GeneratorExp elt [⟨tg, iter, ifs, 0⟩] scope gpos) s H (genEnv scope (cloFrom X.env.cells scope.names []) C code builtinsNs X.env) it fp pn) elt te)
    (hs : ∀ x, genFold iter X.env x = pure x := by intro _; rfl)
    (hst : starEach [.GeneratorExp elt [⟨tg, iter, ifs, 0⟩] scope gpos] X.env = (false, eval (.GeneratorExp elt [⟨tg, iter, ifs, 0⟩] scope gpos) X.env) :: starEach [] X.env := by rfl) :
    PE X (.Call (.Name "all" p) [.GeneratorExp elt [⟨tg, iter, ifs, 0⟩] scope gpos] [] pos) (tAA P false wi g tt te (own.map (·.2))) := by
  refine ⟨fun pins s σ H Q I h => wpAny_Call_Name_kw (ld_blt I hb hm (show bootBuiltins "all" = some (.builtin "all") by decide +kernel) (PyProof.Rows.callWith_builtin1 ?_ hst (by rfl)))⟩
  rw [hst]
  refine Calls.spliced_cons (gen_make hr hc hN TB hcode hi ok S hg ht he hs I h fun a go gn n Y fp tn W s5 h1 h2 h3 h4 SL => Calls.spliced_nil ?_)
  refine call_function_tree F.kind_all F.plain_all F.entry_all (F.args_all1 _) ?_
  unfold Builtin.«all»
  refine wpAny_bind (m := oneArg "all" _) (wpAny_pure (wpAny_bind (wpAny_pyIter_gen (h2 _ h4) (wpAny_pure ⟨plainId_quiet F.plain_all_loop _, ?_⟩))))
  exact all_loop (I.ok.hd hc) hr.depth h1 h2 (fun s' H' b J q => ⟨.bl b, H', h3 s' H' J, rfl, q⟩) n s5 SL
end
end Gx
namespace Gk
open PySem
open Sem (wp)
/-! ### what runs well whatever sleeps in the table of generators leaves the sleepers as they are
A sleeper is put into the table in place of each one that shows the same and can't be woken: where all goes well there too, none was woken. -/
/-- woken, it is stuck -/
def bad : Resume → Sem PySem.Fin := fun _ => .unsupported "asleep"
theorem stuck0 {M : Model} {Γ : Ctx} {p : Pos} {m : String} {s s' : Shared} {e : End} : ¬ Runs M Γ p (.unsupported m) [] s e s' := fun h => by cases h
theorem stuck {M : Model} {Γ : Ctx} {p : Pos} {m : String} {fs : List Frame} {s s' : Shared} {e : End} (h : Runs M Γ p (.unsupported m) fs s e s') : False := by
  cases h with
  | segRet a _ => exact stuck0 a
  | segGen a _ => exact stuck0 a
  | segSuspOut _ a => exact stuck0 a
  | segSuspGen _ a _ _ => exact stuck0 a
def ClS : GenState → Prop
  | .suspended _ _ _ _ fs _ => splitAtGen fs = none
  | _ => True
def ClE : End → Prop
  | .susp _ _ _ _ _ _ fs => splitAtGen fs = none
  | .ret _ => True
theorem ClE.st {e : End} (h : ClE e) : ClS e.genState := by
  cases e with
  | ret r => trivial
  | susp v g l k c p fs => exact h
/-- the one shows what the other shows -/
def PR (x y : GenState) : Prop := (∃ k l c p fs cl, x = .suspended bad l c p fs cl ∧ y = .suspended k l c p fs cl) ∨ (x = y ∧ ClS x)
theorem PR.seen {x y : GenState} (h : PR x y) : x.seen = y.seen := by
  rcases h with ⟨k, l, c, p, fs, cl, rfl, rfl⟩ | ⟨rfl, _⟩ <;> rfl
theorem PR.bare {x y : GenState} (h : PR x y) : x.bare = y.bare := by
  rcases h with ⟨k, l, c, p, fs, cl, rfl, rfl⟩ | ⟨rfl, _⟩ <;> rfl
structure Rel (A B : Array GenState) : Prop where
  sz : A.size = B.size
  pr : ∀ (i : Nat) (x : GenState), A[i]? = some x → ∃ y, B[i]? = some y ∧ PR x y
theorem Rel.set {A B : Array GenState} (h : Rel A B) {g : Nat} {x : GenState} (c : ClS x) : Rel (A.setIfInBounds g x) (B.setIfInBounds g x) := by
  refine ⟨by rw [Array.size_setIfInBounds, Array.size_setIfInBounds, h.sz], fun i y e => ?_⟩
  by_cases z : g = i
  · subst z
    by_cases l : g < A.size
    · rw [Array.getElem?_setIfInBounds_self_of_lt l] at e
      cases e
      exact ⟨x, Array.getElem?_setIfInBounds_self_of_lt (by rw [← h.sz]; exact l), .inr ⟨rfl, c⟩⟩
    · rw [Array.getElem?_eq_none (by rw [Array.size_setIfInBounds]; omega)] at e
      cases e
  · rw [Array.getElem?_setIfInBounds_ne z] at e ⊢
    exact h.pr i y e
theorem Rel.push {A B : Array GenState} (h : Rel A B) {x : GenState} (c : ClS x) : Rel (A.push x) (B.push x) := by
  refine ⟨by rw [Array.size_push, Array.size_push, h.sz], fun i y e => ?_⟩
  rw [Array.getElem?_push] at e ⊢
  by_cases z : i = A.size
  · rw [if_pos z] at e
    rw [if_pos (z.trans h.sz)]
    cases e
    exact ⟨x, rfl, .inr ⟨rfl, c⟩⟩
  · rw [if_neg z] at e
    rw [if_neg (fun y => z (y.trans h.sz.symm))]
    exact h.pr i y e
/-- the sleepers are kept -/
def Kp (A A' B B' : Array GenState) : Prop := ∀ (i : Nat) (k : Resume → Sem PySem.Fin) (l : List Value) (c : Code) (p : Pos) (fs : List Frame) (cl : Bool), A[i]? = some (.suspended bad l c p fs cl) → B[i]? = some (.suspended k l c p fs cl) →
  A'[i]? = some (.suspended bad l c p fs cl) ∧ B'[i]? = some (.suspended k l c p fs cl)
theorem Kp.refl (A B : Array GenState) : Kp A A B B := fun _ _ _ _ _ _ _ a b => ⟨a, b⟩
theorem Kp.trans {A A' A'' B B' B'' : Array GenState} (a : Kp A A' B B') (b : Kp A' A'' B' B'') : Kp A A'' B B'' := fun i k l c p fs cl h1 h2 =>
  let ⟨h3, h4⟩ := a i k l c p fs cl h1 h2
  b i k l c p fs cl h3 h4
theorem Kp.set {A B : Array GenState} {g : Nat} {x : GenState} (h : ∀ l c p fs cl, A[g]? ≠ some (.suspended bad l c p fs cl)) : Kp A (A.setIfInBounds g x) B (B.setIfInBounds g x) := fun i k l c p fs cl h1 h2 => by
  have ne : g ≠ i := fun z => h l c p fs cl (by rw [z]; exact h1)
  rw [Array.getElem?_setIfInBounds_ne ne, Array.getElem?_setIfInBounds_ne ne]
  exact ⟨h1, h2⟩
theorem Kp.woke {A A1 A2 B B1 B2 : Array GenState} {g : Nat} {x y : GenState} (h : ∀ l c p fs cl, A[g]? ≠ some (.suspended bad l c p fs cl)) (k1 : Kp (A.setIfInBounds g x) A1 (B.setIfInBounds g x) B1) (k2 : Kp (A1.setIfInBounds g y) A2 (B1.setIfInBounds g y) B2) : Kp A A2 B B2 := fun i k l c p fs cl h1 h2 => by
  have ne : g ≠ i := fun z => h l c p fs cl (by rw [z]; exact h1)
  obtain ⟨h3, h4⟩ := k1 i k l c p fs cl (by rw [Array.getElem?_setIfInBounds_ne ne]; exact h1) (by rw [Array.getElem?_setIfInBounds_ne ne]; exact h2)
  exact k2 i k l c p fs cl (by rw [Array.getElem?_setIfInBounds_ne ne]; exact h3) (by rw [Array.getElem?_setIfInBounds_ne ne]; exact h4)
theorem Kp.push {A B : Array GenState} {x : GenState} : Kp A (A.push x) B (B.push x) := fun i k l c p fs cl h1 h2 => by
  have l1 := (Array.getElem?_eq_some_iff.mp h1).1
  have l2 := (Array.getElem?_eq_some_iff.mp h2).1
  rw [Array.getElem?_push, Array.getElem?_push, if_neg (by omega), if_neg (by omega)]
  exact ⟨h1, h2⟩
abbrev wg (s : Shared) (B : Array GenState) : Shared := { s with gens := B }
/-- what a run of the one table tells of the other -/
def Lk (M : Model) (Γ : Ctx) (p : Pos) (t : Sem PySem.Fin) (fs : List Frame) (s : Shared) (e : End) (s' : Shared) : Prop :=
  splitAtGen fs = none → ∀ B, Rel s.gens B → ∃ B', Runs M Γ p t fs (wg s B) e (wg s' B') ∧ Rel s'.gens B' ∧ ClE e ∧ Kp s.gens s'.gens B B'
theorem split_app : ∀ {fs gs : List Frame}, splitAtGen fs = none → splitAtGen gs = none → splitAtGen (fs ++ gs) = none
  | [], _, _, h => h
  | .gen _ _ _ _ _ :: _, _, h, _ => by cases h
  | .ret k h' g l c p kp :: rest, gs, h, h2 => by
    have h1 : (splitAtGen rest).map _ = none := h
    show (splitAtGen (rest ++ gs)).map _ = none
    rw [split_app (Option.map_eq_none_iff.mp h1) h2]
    rfl
theorem split_tail {k h g l c p kp} {fs : List Frame} (e : splitAtGen (.ret k h g l c p kp :: fs) = none) : splitAtGen fs = none := by
  have e1 : (splitAtGen fs).map _ = none := e
  exact Option.map_eq_none_iff.mp e1
theorem lock {M : Model} {Γ : Ctx} {p : Pos} {t : Sem PySem.Fin} {fs : List Frame} {s : Shared} {e : End} {s' : Shared} (h : Runs M Γ p t fs s e s') : Lk M Γ p t fs s e s' := by
  induction h with
  | done => exact fun _ B R => ⟨B, .done, R, trivial, .refl _ _⟩
  | raise => exact fun _ B R => ⟨B, .raise, R, trivial, .refl _ _⟩
  | again q _ ih => exact fun f B R => let ⟨B', r, R', c, k⟩ := ih f B R; ⟨B', .again q r, R', c, k⟩
  | rule _ ih => exact fun f B R => let ⟨B', r, R', c, k⟩ := ih f B R; ⟨B', .rule r, R', c, k⟩
  | «at» _ ih => exact fun f B R => let ⟨B', r, R', c, k⟩ := ih f B R; ⟨B', .at r, R', c, k⟩
  | load q _ ih => exact fun f B R => let ⟨B', r, R', c, k⟩ := ih f B R; ⟨B', .load q r, R', c, k⟩
  | update q _ ih => exact fun f B R => let ⟨B', r, R', c, k⟩ := ih f B R; ⟨B', .update q r, R', c, k⟩
  | loadIfAlive _ ih => exact fun f B R => let ⟨B', r, R', c, k⟩ := ih f B R; ⟨B', .loadIfAlive r, R', c, k⟩
  | point _ ih => exact fun f B R => let ⟨B', r, R', c, k⟩ := ih f B R; ⟨B', .point r, R', c, k⟩
  | alloc _ ih => exact fun f B R => let ⟨B', r, R', c, k⟩ := ih f B R; ⟨B', .alloc r, R', c, k⟩
  | fresh _ ih => exact fun f B R => let ⟨B', r, R', c, k⟩ := ih f B R; ⟨B', .fresh r, R', c, k⟩
  | ask _ ih => exact fun f B R => let ⟨B', r, R', c, k⟩ := ih f B R; ⟨B', .ask r, R', c, k⟩
  | choose q _ ih => exact fun f B R => let ⟨B', r, R', c, k⟩ := ih f B R; ⟨B', .choose q r, R', c, k⟩
  | os _ ih => exact fun f B R => let ⟨B', r, R', c, k⟩ := ih f B R; ⟨B', .os r, R', c, k⟩
  | handled _ ih => exact fun f B R => let ⟨B', r, R', c, k⟩ := ih f B R; ⟨B', .handled r, R', c, k⟩
  | genState q _ ih =>
    intro f B R
    obtain ⟨B', r, R', c, k⟩ := ih f B R
    obtain ⟨y, hy, pr⟩ := R.pr _ _ q
    rw [pr.seen] at r
    exact ⟨B', .genState hy r, R', c, k⟩
  | stack _ ih => exact fun f B R => let ⟨B', r, R', c, k⟩ := ih f B R; ⟨B', .stack r, R', c, k⟩
  | thread _ ih => exact fun f B R => let ⟨B', r, R', c, k⟩ := ih f B R; ⟨B', .thread r, R', c, k⟩
  | newGen _ ih =>
    intro f B R
    obtain ⟨B', r, R', c, k⟩ := ih f (B.push _) (R.push trivial)
    rw [R.sz] at r
    exact ⟨B', .newGen r, R', c, Kp.push.trans k⟩
  | call _ _ ih1 ih2 =>
    intro f B R
    obtain ⟨B1, r1, R1, c1, k1⟩ := ih1 rfl B R
    obtain ⟨B2, r2, R2, c2, k2⟩ := ih2 f B1 R1
    exact ⟨B2, .call r1 r2, R2, c2, k1.trans k2⟩
  | callSusp _ ih =>
    intro f B R
    obtain ⟨B', r, R', c, k⟩ := ih rfl B R
    exact ⟨B', .callSusp r, R', split_app c rfl, k⟩
  | yield => exact fun _ B R => ⟨B, .yield, R, rfl, .refl _ _⟩
  | resumeFresh q _ qe _ ih1 ih2 =>
    intro f B R
    obtain ⟨y, hy, pr⟩ := R.pr _ _ q
    rcases pr with ⟨_, _, _, _, _, _, z, _⟩ | ⟨rfl, _⟩
    · cases z
    obtain ⟨B1, r1, R1, c1, k1⟩ := ih1 rfl _ (R.set (x := .running) trivial)
    obtain ⟨B2, r2, R2, c2, k2⟩ := ih2 f _ (R1.set c1.st)
    exact ⟨B2, .resumeFresh hy r1 qe r2, R2, c2, Kp.woke (fun l c p fs cl z => by rw [q] at z; cases z) k1 k2⟩
  | resumeSuspended q run qe _ ih1 ih2 =>
    intro f B R
    obtain ⟨y, hy, pr⟩ := R.pr _ _ q
    rcases pr with ⟨_, _, _, _, _, _, z, _⟩ | ⟨rfl, cy⟩
    · cases z
      exact (stuck run).elim
    obtain ⟨B1, r1, R1, c1, k1⟩ := ih1 cy _ (R.set (x := .running) trivial)
    obtain ⟨B2, r2, R2, c2, k2⟩ := ih2 f _ (R1.set c1.st)
    exact ⟨B2, .resumeSuspended hy r1 qe r2, R2, c2, Kp.woke (fun l c p fs cl z => by
      rw [q] at z
      cases z
      exact stuck run) k1 k2⟩
  | resumeJustStarted q v _ ih =>
    intro f B R
    obtain ⟨y, hy, pr⟩ := R.pr _ _ q
    rcases pr with ⟨_, _, _, _, _, _, z, _⟩ | ⟨rfl, _⟩
    · cases z
    obtain ⟨B', r, R', c, k⟩ := ih f B R
    exact ⟨B', .resumeJustStarted hy v r, R', c, k⟩
  | resumeThrowFresh q _ ih =>
    intro f B R
    obtain ⟨y, hy, pr⟩ := R.pr _ _ q
    rcases pr with ⟨_, _, _, _, _, _, z, _⟩ | ⟨rfl, _⟩
    · cases z
    obtain ⟨B', r, R', c, k⟩ := ih f _ (R.set (x := .finished) trivial)
    exact ⟨B', .resumeThrowFresh hy r, R', c, Kp.trans (Kp.set fun l c p fs cl z => by rw [q] at z; cases z) k⟩
  | resumeRunning q _ ih =>
    intro f B R
    obtain ⟨y, hy, pr⟩ := R.pr _ _ q
    rcases pr with ⟨_, _, _, _, _, _, z, _⟩ | ⟨rfl, _⟩
    · cases z
    obtain ⟨B', r, R', c, k⟩ := ih f B R
    exact ⟨B', .resumeRunning hy r, R', c, k⟩
  | resumeFinished q _ ih =>
    intro f B R
    obtain ⟨y, hy, pr⟩ := R.pr _ _ q
    rcases pr with ⟨_, _, _, _, _, _, z, _⟩ | ⟨rfl, _⟩
    · cases z
    obtain ⟨B', r, R', c, k⟩ := ih f B R
    exact ⟨B', .resumeFinished hy r, R', c, k⟩
  | segRet _ _ ih1 ih2 =>
    intro f B R
    obtain ⟨B1, r1, R1, _, k1⟩ := ih1 rfl B R
    obtain ⟨B2, r2, R2, c2, k2⟩ := ih2 (split_tail f) B1 R1
    exact ⟨B2, .segRet r1 r2, R2, c2, k1.trans k2⟩
  | segGen _ _ _ _ => exact fun f => by cases f
  | segSuspOut q _ ih =>
    intro f B R
    obtain ⟨B', r, R', c, k⟩ := ih rfl B R
    exact ⟨B', .segSuspOut q r, R', split_app c q, k⟩
  | segSuspGen q _ _ _ _ _ =>
    intro f
    rw [f] at q
    cases q
/-! ### the same of a tree -/
/-- behind it: the other table, with the sleepers as they were -/
def Bh {α : Type} (A B : Array GenState) (Q : α → Pos → Shared → Prop) : α → Pos → Shared → Prop := fun a p s' => ∃ A', Rel A' s'.gens ∧ Kp A A' B s'.gens ∧ Q a p (wg s' A')
theorem Bh.move {α : Type} {A A1 B B1 : Array GenState} {Q : α → Pos → Shared → Prop} (k : Kp A A1 B B1) {a : α} {p : Pos} {s' : Shared} (h : Bh A1 B1 Q a p s') : Bh A B Q a p s' :=
  let ⟨A', R, k', q⟩ := h
  ⟨A', R, k.trans k', q⟩
theorem wp_lock {α : Type} (M : Model) (Γ : Ctx) (t : Sem α) : ∀ (Q : α → Pos → Shared → Prop) (E : Value → Pos → Shared → Prop) (p : Pos) (s : Shared) (B : Array GenState), Rel s.gens B → wp M Γ t Q E p s → wp M Γ t (Bh s.gens B Q) (Bh s.gens B E) p (wg s B) := by
  induction t with
  | pure a => exact fun Q E p s B R h => ⟨s.gens, R, .refl _ _, h⟩
  | raise e => exact fun Q E p s B R h => ⟨s.gens, R, .refl _ _, h⟩
  | unsupported _ => exact fun Q E p s B R h => h
  | finish _ => exact fun Q E p s B R h => h
  | rule _ k ih => exact fun Q E p s B R h => ih () Q E p s B R h
  | «at» p' k ih => exact fun Q E p s B R h => ih () Q E p' s B R h
  | load a _ k ih =>
    rintro Q E p s B R ⟨o, ho, h⟩
    exact ⟨o, ho, ih o Q E p s B R h⟩
  | update a _ f k ih =>
    rintro Q E p s B R ⟨ho, h⟩
    exact ⟨ho, ih () Q E p { s with heap := s.heap.update a f } B R h⟩
  | loadIfAlive a k ih => exact fun Q E p s B R h => ih _ Q E p s B R h
  | point _ k ih => exact fun Q E p s B R h => ih () Q E p s B R h
  | register _ _ => exact fun Q E p s B R h => h
  | alloc o k ih => exact fun Q E p s B R h => ih s.heap.objs.size Q E p { s with heap := s.heap.push o } B R h
  | fresh k ih => exact fun Q E p s B R h => ih s.toks Q E p { s with toks := s.toks + 1 } B R h
  | ask k ih => exact fun Q E p s B R h => ih _ Q E p s B R h
  | choose src m k ih =>
    rintro Q E p s B R ⟨ho, h⟩
    exact ⟨ho, ih _ Q E p { s with drawn := s.drawn.bump src } B R h⟩
  | os q _ k ih => exact fun Q E p s B R h => ih _ Q E p { s with os := (Os.step s.os q).1 } B R h
  | call c hd _ _ k ih =>
    rintro Q E p s B R ⟨r, s', hr, h⟩
    obtain ⟨B', r', R', _, k'⟩ := lock hr rfl B R
    exact ⟨r, wg s' B', r', Sem.wp_mono M Γ _ (fun a p s z => Bh.move k' z) (fun a p s z => Bh.move k' z) _ _ (ih r Q E p s' B' R' h)⟩
  | handled own k ih => exact fun Q E p s B R h => ih _ Q E p s B R h
  | genState g k ih =>
    rintro Q E p s B R ⟨st, hs, h⟩
    obtain ⟨y, hy, pr⟩ := R.pr _ _ hs
    refine ⟨y, hy, ?_⟩
    rw [← pr.seen]
    exact ih _ Q E p s B R h
  | newGen c k ih =>
    intro Q E p s B R h
    have e := ih s.gens.size Q E p { s with gens := s.gens.push (.fresh c) } (B.push (.fresh c)) (R.push trivial) h
    rw [R.sz] at e
    exact Sem.wp_mono M Γ _ (fun a p s z => Bh.move Kp.push z) (fun a p s z => Bh.move Kp.push z) _ _ e
  | resume g r _ k ih =>
    rintro Q E p s B R ⟨res, s', hw, h⟩
    have key : ∃ B', Wakes M Γ p g r (wg s B) res (wg s' B') ∧ Rel s'.gens B' ∧ Kp s.gens s'.gens B B' := by
      unfold Wakes at hw ⊢
      cases hg : s.gens[g]? with
      | none =>
        rw [hg] at hw
        exact hw.elim
      | some x =>
        obtain ⟨y, hy, pr⟩ := R.pr _ _ hg
        rw [hg] at hw
        have hy' : (wg s B).gens[g]? = some y := hy
        rw [hy']
        cases x with
        | fresh c =>
          rcases pr with ⟨_, _, _, _, _, _, z, _⟩ | ⟨rfl, _⟩
          · cases z
          have nb : ∀ l c p fs cl, s.gens[g]? ≠ some (GenState.suspended bad l c p fs cl) := fun l c p fs cl z => by
            rw [hg] at z
            cases z
          cases r with
          | throw x =>
            obtain ⟨rfl, rfl⟩ := hw
            exact ⟨_, ⟨rfl, rfl⟩, R.set (x := .finished) trivial, Kp.set nb⟩
          | send v =>
            cases v with
            | none =>
              obtain ⟨e1, s1, run, qe, rfl, rfl⟩ := hw
              obtain ⟨B1, r1, R1, c1, k1⟩ := lock run rfl _ (R.set (x := .running) trivial)
              exact ⟨_, ⟨e1, wg s1 B1, r1, qe, rfl, rfl⟩, R1.set c1.st, Kp.woke nb k1 (.refl _ _)⟩
            | _ =>
              obtain ⟨rfl, rfl⟩ := hw
              exact ⟨B, ⟨rfl, rfl⟩, R, .refl _ _⟩
        | suspended k0 l0 c0 p0 fs cl =>
          obtain ⟨e1, s1, run, qe, rfl, rfl⟩ := hw
          rcases pr with ⟨_, _, _, _, _, _, z, _⟩ | ⟨rfl, cy⟩
          · cases z
            exact (stuck run).elim
          obtain ⟨B1, r1, R1, c1, k1⟩ := lock run cy _ (R.set (x := .running) trivial)
          refine ⟨_, ⟨e1, wg s1 B1, r1, qe, rfl, rfl⟩, R1.set c1.st, Kp.woke (fun l c p fs cl z => ?_) k1 (.refl _ _)⟩
          rw [hg] at z
          cases z
          exact stuck run
        | running =>
          rcases pr with ⟨_, _, _, _, _, _, z, _⟩ | ⟨rfl, _⟩
          · cases z
          obtain ⟨rfl, rfl⟩ := hw
          exact ⟨B, ⟨rfl, rfl⟩, R, .refl _ _⟩
        | finished =>
          rcases pr with ⟨_, _, _, _, _, _, z, _⟩ | ⟨rfl, _⟩
          · cases z
          obtain ⟨rfl, rfl⟩ := hw
          exact ⟨B, ⟨rfl, rfl⟩, R, .refl _ _⟩
    obtain ⟨B', hw', R', k'⟩ := key
    exact ⟨res, wg s' B', hw', Sem.wp_mono M Γ _ (fun a p s z => Bh.move k' z) (fun a p s z => Bh.move k' z) _ _ (ih res Q E p s' B' R' h)⟩
  | yield _ _ _ _ => exact fun Q E p s B R h => h
  | stack k ih => exact fun Q E p s B R h => ih _ Q E p s B R h
  | fork _ _ => exact fun Q E p s B R h => h
  | thread k ih => exact fun Q E p s B R h => ih _ Q E p s B R h
  | await _ _ _ _ _ => exact fun Q E p s B R h => h
/-! ### the word for it -/
def drug : GenState → GenState
  | .suspended _ l c p fs cl => .suspended bad l c p fs cl
  | x => x
theorem drug_rel (B : Array GenState) : Rel (B.map drug) B := by
  refine ⟨Array.size_map, fun i x e => ?_⟩
  rw [Array.getElem?_map] at e
  obtain ⟨y, hy, rfl⟩ := Option.map_eq_some_iff.mp e
  refine ⟨y, hy, ?_⟩
  cases y with
  | suspended k l c p fs cl => exact .inl ⟨k, l, c, p, fs, cl, rfl, rfl⟩
  | _ => exact .inr ⟨rfl, trivial⟩
theorem Rel.bareL {A B : Array GenState} (h : Rel A B) (b : PyProof.Rows.AllBare B) : PyProof.Rows.AllBare A := fun x hx => by
  obtain ⟨i, hi⟩ := Array.getElem?_of_mem hx
  obtain ⟨y, hy, pr⟩ := h.pr i x hi
  rw [pr.bare]
  exact b y (Array.mem_of_getElem? hy)
theorem Rel.bareR {A B : Array GenState} (h : Rel A B) (b : PyProof.Rows.AllBare A) : PyProof.Rows.AllBare B := fun y hy => by
  obtain ⟨i, hi⟩ := Array.getElem?_of_mem hy
  have l := (Array.getElem?_eq_some_iff.mp hi).1
  have l2 : i < A.size := by rw [h.sz]; exact l
  obtain ⟨y', hy', pr⟩ := h.pr i _ (Array.getElem?_eq_getElem l2)
  rw [hi] at hy'
  cases hy'
  rw [← pr.bare]
  exact b _ (Array.getElem_mem l2)
/-- THE WORD: what runs well from any table that is bare leaves this sleeper as it is -/
theorem kept {α : Type} {M : Model} {A : Around} {m : Sem α} {Q : α → Shared → Prop} {E : Value → Shared → Prop} {s : Shared} {g : Nat} {k : Resume → Sem PySem.Fin} {l : List Value} {c : Code} {p : Pos} {fs : List Frame} {cl : Bool} (hb : PyProof.Rows.AllBare s.gens) (hg : s.gens[g]? = some (.suspended k l c p fs cl))
    (h : ∀ G, PyProof.Rows.AllBare G → wpAny M A m Q E (wg s G)) :
    wpAny M A m (fun a s' => s'.gens[g]? = some (.suspended k l c p fs cl) ∧ ∃ G, (PyProof.Rows.AllBare G → PyProof.Rows.AllBare s'.gens) ∧ Q a (wg s' G)) (fun e s' => ∃ G, (PyProof.Rows.AllBare G → PyProof.Rows.AllBare s'.gens) ∧ E e (wg s' G)) s := by
  intro Γ q hΓ
  have R := drug_rel s.gens
  have e := wp_lock M Γ m _ _ q (wg s (s.gens.map drug)) s.gens R (h _ (R.bareL hb) Γ q hΓ)
  refine Sem.wp_mono M Γ m (fun a p' s' z => ?_) (fun x p' s' z => ?_) q s e
  · obtain ⟨A', R', k', z⟩ := z
    have e1 : (s.gens.map drug)[g]? = some (.suspended bad l c p fs cl) := by
      rw [Array.getElem?_map, hg]
      rfl
    exact ⟨(k' g k l c p fs cl e1 hg).2, A', R'.bareR, z⟩
  · obtain ⟨A', R', _, z⟩ := z
    exact ⟨A', R'.bareR, z⟩
end Gk
namespace Gq
open PySem PySem.Spec PyProof.Rows L2 GenW
open Sem (wp)
/-! ### a run of a generator's code, up to its end or to the next item -/
def SegC (M : Model) (A : Around) (F : End → Shared → Prop) (c : Code) (t : Sem PySem.Fin) (fs : List Frame) (s : Shared) : Prop := ∀ Γ p, Γ.code = c → Γ.Woken A → ∃ e s', Runs M Γ p t fs s e s' ∧ F e s'
section
variable {M : Model} {A : Around} {F : End → Shared → Prop} {c : Code} {fs : List Frame} {s : Shared}
theorem segc_wrap {α : Type} {m : Sem α} {K : α → Sem PySem.Fin} {J : Value → Sem PySem.Fin} {gd : Bool → Bool} {lv : List Value → List Value}
    (h : wpAny M (A.over c fs) m (fun a s' => SegC M A F c (K a) fs s') (fun x s' => SegC M A F c (J x) fs s') s) : SegC M A F c (m.wrap K J gd lv) fs s := by
  rintro Γ p rfl hΓ
  exact runs_wrap_of_wp K J gd lv m (h (Γ.over fs) p (hΓ.over fs)) (fun a p' s' h' => h' Γ p' rfl hΓ) (fun x p' s' h' => h' Γ p' rfl hΓ)
theorem segc_bind {α : Type} {m : Sem α} {K : α → Sem PySem.Fin}
    (h : wpAny M (A.over c fs) m (fun a s' => SegC M A F c (K a) fs s') (fun x s' => SegC M A F c (.raise x) fs s') s) : SegC M A F c (m >>= K) fs s := by
  rw [Sem.bind_eq_wrap']
  exact segc_wrap h
theorem segc_at {p' : Pos} {k : Unit → Sem PySem.Fin} (h : SegC M A F c (k ()) fs s) : SegC M A F c (.at p' k) fs s :=
  segc_wrap (m := standAt p') (K := k) (J := .raise) (gd := id) (lv := id) (wpAny_standAt h)
theorem segc_point {l : List Value} {k : Unit → Sem PySem.Fin} (h : SegC M A F c (k ()) fs s) : SegC M A F c (.point l k) fs s :=
  segc_wrap (m := point) (K := k) (J := .raise) (gd := id) (lv := fun _ => l) (wpAny_point h)
theorem segc_call {c' : Code} {h : Option Value} {g : Bool} {l : List Value} {k : Result → Sem PySem.Fin} (hc : ∀ p, SegC M A F c' (M.den c') (.ret k h g l c p [] :: fs) s) : SegC M A F c (.call c' h g l k) fs s := by
  rintro Γ p rfl hΓ
  obtain ⟨e, s', hr, he⟩ := hc p (Γ.goto c') p rfl (hΓ.goto c')
  exact ⟨e, s', runs_call_seg hr, he⟩
theorem segc_leaf {k : Result → Sem PySem.Fin} {h : Option Value} {g : Bool} {l : List Value} {c₁ : Code} {p₁ : Pos} {kp : List Value} (r : Result) (hk : SegC M A F c₁ (k r) fs s) : SegC M A F c (leafOf r) (.ret k h g l c₁ p₁ kp :: fs) s := by
  rintro Γ p rfl hΓ
  obtain ⟨e, s', hr, he⟩ := hk (Γ.goto c₁) p₁ rfl (hΓ.goto c₁)
  exact ⟨e, s', Runs.pop r hr, he⟩
theorem segc_again {c' : Code} (hq : c'.quiet = true) (hc : SegC M A F c' (M.den c') fs s) : SegC M A F c (.pure (.again c')) fs s := by
  rintro Γ p rfl hΓ
  obtain ⟨e, s', hr, he⟩ := hc (Γ.goto c') p rfl (hΓ.goto c')
  exact ⟨e, s', Runs.head (c₁ := c') (fun _ _ x => .again hq x) hr, he⟩
theorem segc_end (r : Result) (h : F (.ret r) s) : SegC M A F c (leafOf r) [] s := by
  rintro Γ p rfl _
  exact ⟨.ret r, s, Runs.leaf r, h⟩
theorem segc_yield {v : Value} {g : Bool} {l : List Value} {k : Resume → Sem PySem.Fin} (hfs : splitAtGen fs = none) (h : ∀ p, F (.susp v g l k c p fs) s) : SegC M A F c (.yield v g l k) fs s := by
  rintro Γ p rfl _
  exact ⟨_, s, Runs.yield' fs hfs, h p⟩
theorem segc_mono {F' : End → Shared → Prop} {t : Sem PySem.Fin} (h : SegC M A F c t fs s) (i : ∀ e s', F e s' → F' e s') : SegC M A F' c t fs s := by
  intro Γ p hc hΓ
  obtain ⟨e, s', hr, he⟩ := h Γ p hc hΓ
  exact ⟨e, s', hr, i e s' he⟩
/-- `yield e` as a statement -/
theorem segc_Expr_Yield {env : Env} {K : Flow → Sem PySem.Fin} {J : Value → Sem PySem.Fin} {gd : Bool → Bool} {lv : List Value → List Value} {e : Expr} {ypos pos : Pos} (hfs : splitAtGen fs = none)
    (h : wpAny M (A.over c fs) (eval e env) (fun v s' => ∀ l k p, k (.send .none) = K .next → F (.susp v (gd false) l k c p fs) s') (fun x s' => SegC M A F c (J x) fs s') s) (hco : env.scope.isCoroutine = false := by rfl) (hi : interactive env = false := by rfl) :
    SegC M A F c ((exec (.Expr (.Yield (some e) ypos) pos) env).wrap K J gd lv) fs s := by
  rw [exec_Expr env _ pos hi rfl]
  show SegC M A F c (.at pos fun _ => ((eval e env >>= fun v => (standAt ypos >>= fun _ => yieldOut env v)) >>= fun x =>
    dropValue (.Yield (some e) ypos) pos x).wrap K J gd lv) fs s
  have hy : ∀ v, yieldOut env v = yieldValue v := fun v => by simp only [yieldOut, hco, Bool.false_eq_true, if_false]
  simp only [hy]
  refine segc_at ?_
  rw [Sem.bind_eq_wrap', Sem.bind_eq_wrap', Sem.wrap_wrap, Sem.wrap_wrap]
  refine segc_wrap (wpAny_mono h (fun v s' h' => ?_) fun _ _ x => x)
  refine segc_at (segc_yield hfs fun p => ?_)
  exact h' _ _ p rfl
end
section
variable {prog : Program} {w : World} {A : Around} {F : End → Shared → Prop} {fs : List Frame} {s : Shared} {env : Env}
theorem segc_func {body : List Stmt}
    (h : SegC (model prog w) A F (.func body env) ((execs body env).wrap (fun f => .pure (.done (.ret (match f with | .ret v => v | _ => .none))))
      (fun e => (leaving env e).wrap (fun _ => .raise e) .raise id id) id id) fs s) :
    SegC (model prog w) A F (.func body env) ((model prog w).den (.func body env)) fs s := by
  show SegC _ A F _ (.point [] fun _ => ((execs body env).onRaise (leaving env)) >>= _) fs s
  refine segc_point ?_
  rw [Sem.onRaise_eq_wrap, Sem.bind_eq_wrap', Sem.wrap_wrap]
  rw [Sem.wrap_congr (execs body env) _ _ (K' := fun f => .pure (.done (.ret (match f with | .ret v => v | _ => .none))))
    (H' := fun e => (leaving env e).wrap (fun _ => .raise e) .raise id id) (fun f => by cases f <;> rfl)
    (fun e => by rw [Sem.bind_eq_wrap, Sem.wrap_wrap]; rfl)]
  exact h
/-- one turn of a for loop in a generator's code -/
theorem segc_forLoop {target : Expr} {it : Value} {body : List Stmt}
    (h : wpAny (model prog w) (A.over (.forLoop target it body [] env) fs) (pyNext it) (fun r s1 => match r with
        | none => SegC (model prog w) A F (.block [] env) ((model prog w).den (.block [] env)) fs s1
        | some v => wpAny (model prog w) (A.over (.forLoop target it body [] env) fs) (letOwnedTupleGo target it v) (fun _ s2 =>
          wpAny (model prog w) (A.over (.forLoop target it body [] env) fs) (assign target env v) (fun _ s3 =>
            SegC (model prog w) A F (.forLoop target it body [] env) ((execs body env).wrap (fun f => match f with
              | .next | .cont => .pure (.again (.forLoop target it body [] env))
              | .brk => .pure (.done .next)
              | .ret v => .pure (.done (.ret v))) (fun e => (do noteFrame e env; theTreesLotGoes e : Sem Unit).wrap (fun _ => .raise e) .raise id id) id id) fs s3) (fun _ _ => False) s2) (fun _ _ => False) s1) (fun _ _ => False) s) :
    SegC (model prog w) A F (.forLoop target it body [] env) ((model prog w).den (.forLoop target it body [] env)) fs s := by
  show SegC _ A F _ ((forTurn target it body [] env).onRaise (fun x => do noteFrame x env; theTreesLotGoes x)) fs s
  simp only [forTurn]
  rw [Sem.onRaise_eq_wrap, Sem.bind_eq_wrap', Sem.wrap_wrap]
  refine segc_wrap (wpAny_standAt ?_)
  show SegC _ A F _ (Sem.wrap _ _ _ _ ((pyNext it).onRaise _ >>= _)) fs s
  rw [Sem.bind_eq_wrap', Sem.wrap_wrap]
  refine segc_wrap (wpAny_onRaise (wpAny_mono h (fun r s1 h1 => ?_) fun _ _ x => x.elim))
  cases r with
  | none =>
    show SegC _ A F _ (.pure (.again (.block [] env))) fs s1
    exact segc_again rfl h1
  | some v =>
    show SegC _ A F _ (Sem.wrap _ _ _ _ (letOwnedTupleGo target it v >>= fun _ => _)) fs s1
    rw [Sem.bind_eq_wrap', Sem.wrap_wrap]
    refine segc_wrap (wpAny_mono h1 (fun _ s2 h2 => ?_) fun _ _ x => x.elim)
    show SegC _ A F _ (Sem.wrap _ _ _ _ (assign target env v >>= fun _ => _)) fs s2
    rw [Sem.bind_eq_wrap', Sem.wrap_wrap]
    refine segc_wrap (wpAny_mono h2 (fun _ s3 h3 => ?_) fun _ _ x => x.elim)
    show SegC _ A F _ (Sem.wrap _ _ _ _ (execs body env >>= fun f => _)) fs s3
    rw [Sem.bind_eq_wrap', Sem.wrap_wrap]
    rw [Sem.wrap_congr (execs body env) _ _ (K' := fun f => match f with
            | .next | .cont => .pure (.again (.forLoop target it body [] env))
            | .brk => .pure (.done .next)
            | .ret v => .pure (.done (.ret v))) (H' := (fun e => (do noteFrame e env; theTreesLotGoes e : Sem Unit).wrap (fun _ => .raise e) .raise id id))
        (fun f => by cases f <;> rfl)
        (fun e => by first | exact Sem.bind_eq_wrap _ _ | (show (do noteFrame e env; theTreesLotGoes e : Sem Unit).bind (fun _ => .raise e) = _; rw [Sem.bind_eq_wrap]))]
    exact h3
/-- a for statement in a generator's code -/
theorem segc_For {c : Code} {K : Flow → Sem PySem.Fin} {J : Value → Sem PySem.Fin} {gd : Bool → Bool} {lv : List Value → List Value} {target iter : Expr} {body : List Stmt} {pos : Pos} (hs : ∀ x, foldedSetIterable iter env x = pure x)
    (h : wpAny (model prog w) (A.over c fs) (eval iter env) (fun x s1 => wpAny (model prog w) (A.over c fs) (pyIter x) (fun it s2 =>
      ∀ k l p, k (.ok .next) = K .next → SegC (model prog w) A F (.forLoop target it body [] env) ((model prog w).den (.forLoop target it body [] env)) (.ret k none (gd false) l c p [] :: fs) s2) (fun _ _ => False) s1) (fun _ _ => False) s) :
    SegC (model prog w) A F c ((exec (.For target iter body [] pos) env).wrap K J gd lv) fs s := by
  rw [exec_For]
  show SegC _ A F c (.at pos fun _ => Sem.wrap _ _ _ _ (eval iter env >>= fun x => _)) fs s
  refine segc_at ?_
  rw [Sem.bind_eq_wrap', Sem.wrap_wrap]
  refine segc_wrap (wpAny_mono h (fun x s1 h1 => ?_) fun _ _ x => x.elim)
  simp only [hs]
  show SegC _ A F c (.at iter.pos fun _ => Sem.wrap _ _ _ _ (holding [x] (pyIter x) >>= fun it => _)) fs s1
  refine segc_at ?_
  rw [Sem.bind_eq_wrap', Sem.wrap_wrap]
  refine segc_wrap (wpAny_holding (wpAny_mono h1 (fun it s2 h2 => ?_) fun _ _ x => x.elim))
  exact segc_call fun p => h2 _ _ p rfl
theorem segc_block0 (h : SegC (model prog w) A F (.block [] env) (.pure (.done .next)) fs s) : SegC (model prog w) A F (.block [] env) ((model prog w).den (.block [] env)) fs s := by
  first
    | exact h
    | (refine segc_point ?_; exact h)
end
/-! ### waking -/
/-- this sleeper, woken -/
def GoesC (M : Model) (A : Around) (F : End → Shared → Prop) (gs : GenState) (s : Shared) : Prop :=
  match gs with
  | .fresh c => SegC M A F c (M.den c) [] s
  | .suspended k _ c _ fs _ => SegC M A F c (k (.send .none)) fs s
  | _ => False
theorem wpAny_resumeC {M : Model} {A : Around} {F : End → Shared → Prop} {E : Value → Shared → Prop} {s : Shared} {g : Nat} {gs : GenState} {l : List Value} {α : Type} {k : GenResult → Sem α} {Q : α → Shared → Prop} (hg : s.gens[g]? = some gs)
    (hgo : GoesC M A F gs (s.setGen g .running)) (hF : ∀ e s1, F e s1 → e.quiet = true ∧ wpAny M A (k e.result) Q E (s1.setGen g e.genState)) : wpAny M A (.resume g (.send .none) l k) Q E s := by
  intro Γ p hΓ
  rw [Sem.wp_resume]
  have hB : ∀ c, (Γ.wake c p).Woken A := fun c => hΓ.wake c p
  cases gs with
  | fresh c =>
    obtain ⟨e₁, s₁, hr, he⟩ := hgo (Γ.wake c p) p rfl (hB c)
    obtain ⟨q1, q2⟩ := hF e₁ s₁ he
    exact ⟨_, _, by unfold Wakes; rw [hg]; exact ⟨e₁, s₁, hr, q1, rfl, rfl⟩, q2 Γ p hΓ⟩
  | suspended k₀ l₀ c₀ p₀ fs₀ cl =>
    obtain ⟨e₁, s₁, hr, he⟩ := hgo (Γ.wake c₀ p) p₀ rfl (hB c₀)
    obtain ⟨q1, q2⟩ := hF e₁ s₁ he
    exact ⟨_, _, by unfold Wakes; rw [hg]; exact ⟨e₁, s₁, hr, q1, rfl, rfl⟩, q2 Γ p hΓ⟩
  | running => exact hgo.elim
  | finished => exact hgo.elim
/-- how a waking ends: an item, or the end -/
theorem next_genC {P : Program} {w : World} {A : Around} {E : Value → Shared → Prop} {s : Shared} {a : Addr} {g : Nat} {gs : GenState} {Q : Option Value → Shared → Prop} (hh : A.handled = none) (hl : s.heap.NoLimit) (hroom : A.depth < recursionLimit) (hg : s.heap.IsGen a g) (hgs : s.gens[g]? = some gs)
    (hgo : GoesC (model P w) A.in1 (fun e s1 => (e = .ret (.ok (.ret .none)) ∧ ∀ h', (∀ b o, s1.heap.get? b = some o → h'.get? b = some o) → Q none { s1.setGen g .finished with heap := h' }) ∨
      (∃ v gg l k c p fs, e = .susp v gg l k c p fs ∧ e.quiet = true ∧ Q (some v) (s1.setGen g e.genState))) gs (s.setGen g .running)) : wpAny (model P w) A (pyNext (.ref a)) Q E s := by
  unfold pyNext
  refine wpAny_bind (wpAny_attempt (wpAny_callSpecial?_slot (name := Str.ofString "__next__") hg.typeIs slot_gen_next
    (wpAny_call_entry slot_gen_next hg.typeIs entry_gen_next ?_ (args_gen_next _))))
  show wpAny _ A.in1 (Builtin.Generator.genWake (.ref a) (.send .none)) _ _ s
  unfold Builtin.Generator.genWake
  refine wpAny_bind (wpAny_holding (wpAny_genNumber hg (wpAny_bind (wpAny_genState hgs ?_))))
  cases gs with
  | running => exact hgo.elim
  | finished => exact hgo.elim
  | _ =>
    refine wpAny_bind (wpAny_roomToWake hl hroom ?_)
    show wpAny _ A.in1 (.resume g (.send .none) [] _) _ _ s
    refine wpAny_resumeC hgs hgo fun e s₁ he => ?_
    rcases he with ⟨rfl, hp⟩ | ⟨v, gg, l, k, c, p, fs, rfl, hq, hv⟩
    · refine ⟨rfl, ?_⟩
      show wpAny _ A.in1 (newExc (.type "StopIteration") [] >>= _) _ _ _
      refine wpAny_bind ?_
      simp only [newExc, newTuple]
      refine wpAny_bind (wpAny_newObj_type ?_ (by size_fits))
      refine wpAny_bind (m := firstArgMember _ _) (wpAny_of_eq (a := Value.none) (by first | rfl | (simp only [firstArgMember]; rfl)) ?_)
      refine wpAny_newObj_type ?_ (by size_fits)
      simp only [raiseNew]
      refine wpAny_bind (wpAny_bind (wpAny_handled ?_))
      first | rw [show A.in1.handled = none from hh] | rw [hh]
      refine wpAny_throw ?_
      refine wpAny_bind (wpAny_isInstance (T := "StopIteration") (b := true) ⟨_, Heap.get?_push_size _ rfl, rfl⟩ isSubtype_stop ?_)
      exact wpAny_pure (hp _ fun b o hb => Heap.get?_push_of_some _ (Heap.get?_push_of_some _ hb))
    · exact ⟨hq, wpAny_pure ⟨v, rfl, wpAny_pure hv⟩⟩
end Gq
namespace Gr
open PySem PySem.Spec PyProof.Rows L2 GenW Gq
open Sem (wp)
/-! ### for x in g(): a generator def of our own, which loops over a range and hands out an item each turn -/
/-- the heap below L -/
def tr (h : Heap) (L : Addr) : Heap := { h with objs := h.objs.extract 0 L }
theorem tr_lt {h : Heap} {L b : Nat} (hb : b < L) : (tr h L).get? b = h.get? b := by
  unfold tr Heap.get?
  simp only [Array.getElem?_extract]
  by_cases hs : b < h.objs.size
  · rw [if_pos (by omega), Nat.zero_add]
  · rw [if_neg (by omega), Array.getElem?_eq_none (by omega)]
theorem tr_some {h : Heap} {L b : Nat} {o : Obj} (e : (tr h L).get? b = some o) : b < L ∧ h.get? b = some o := by
  have l : b < (tr h L).objs.size := Heap.lt_size e
  have l2 : b < L := by
    have z : (tr h L).objs.size = min L h.objs.size - 0 := Array.size_extract
    omega
  exact ⟨l2, (tr_lt l2).symm.trans e⟩
theorem tr_size {h : Heap} {L : Nat} (hL : L ≤ h.objs.size) : (tr h L).objs.size = L := by
  have z : (tr h L).objs.size = min L h.objs.size - 0 := Array.size_extract
  omega
def trH (H : Hp) (L : Addr) : Hp := fun b => if b < L then H b else none
theorem trH_lt {H : Hp} {L b : Addr} (hb : b < L) : trH H L b = H b := if_pos hb
theorem trH_some {H : Hp} {L b : Addr} {u : HO} (e : trH H L b = some u) : b < L ∧ H b = some u := by
  unfold trH at e
  split at e
  · exact ⟨by assumption, e⟩
  · cases e
/-- the generator's own context, made anew at each waking: all below its frame stands as it does now -/
def gX (X : Cx) (env : Env) (N : List Str) (s : Shared) (H : Hp) : Cx where
  prog := X.prog
  w := X.w
  K := X.K
  mg := X.mg
  base := X.base
  A := X.A.in1.deeper env
  N := N
  s_0 := { s with heap := tr s.heap env.locals }
  H_0 := trH H env.locals
  env := env
  outer := X.stack
  stack := env :: X.stack
  ex := []
  fn := fun _ => true
  calm := true
  pn := []
  xe := fun _ _ => False
/-- what is so of its frame all along -/
structure GE (X : Cx) (env : Env) : Prop where
  kind : env.scope.kind = .function
  glob : env.globals = mainGlobals
  blt : env.builtins = builtinsNs
  cells : env.cells = []
  nocell : ∀ x, env.kindOf x ≠ some .cell ∧ env.kindOf x ≠ some .free
  frame : env.frame = some env.locals
  bsz : X.base.objs.size ≤ env.locals
  old : X.env.locals < env.locals
  olds : X.s_0.heap.objs.size ≤ env.locals
  oldc : ∀ x c, X.env.cells.lookup x = some c → c < env.locals
  oldf : ∀ b ∈ frs X.stack, b < env.locals
  hd : X.A.handled = none
section
variable {X : Cx} {env : Env} {N : List Str} {pins : List (Addr × Obj)} {σ : L2.St} {H : Hp} {s : Shared}
theorem Inv.regens {G : Array GenState} (I : Inv X pins σ H s) (hG : AllBare G) : Inv X pins σ H { s with gens := G } := ⟨I.ok, I.os, hG, I.base, I.loc, I.cell, I.free, I.freeC, I.pin, I.hok, I.len⟩
theorem toG (E : GE X env) (I : Inv X pins σ H s) (hL : H env.locals = none) (ns : ∃ m, s.heap.Ns env.locals m) (pl : List (Addr × Obj)) (hpl : ∀ p ∈ pl, s.heap.get? p.1 = some p.2 ∧ H p.1 = none ∧ p.1 ≠ env.locals ∧ p.1 ∉ frs X.stack ∧ ∀ v, p.2.data ≠ .cell v) :
    Inv (gX X env N s H) pl (List.replicate N.length none) H s := by
  obtain ⟨m, hm⟩ := ns
  have ltL : env.locals < s.heap.objs.size := hm.lt
  have noC : ∀ x c, env.cells.lookup x = some c → False := fun x c e => by
    rw [E.cells] at e
    cases e
  have nil : ∀ b : Addr, b ∉ ([] : List Addr) := fun b z => by cases z
  refine ⟨⟨I.ok.mod, E.kind, E.glob, E.blt, ?_, fun x y c h1 => (noC x c h1).elim, fun x hx => ?_, fun x c _ h => (noC x c h).elim, fun _ => E.hd, Around.frames_deeper I.ok.frames, .inr ⟨rfl, E.frame⟩, fun b z => absurd z (nil b), fun b o e => ?_, ?_, fun b _ _ => nil b, fun b z => absurd z (nil b), ?_, fun b hb => ?_⟩,
    rfl, I.bare, ⟨fun b o e n _ _ => ?_, fun b o e n _ _ => ?_, fun b o e n _ => ?_, fun b o e _ => ?_, fun b xs e => ?_, fun b o u e => ?_, fun b ps e => ?_⟩, ⟨m, hm, fun i x v _ h2 _ => ?_⟩, fun x c h => (noC x c h).elim, hL, fun x c h => (noC x c h).elim, fun p hp => hpl p hp, I.hok, List.length_replicate⟩
  · show (tr s.heap env.locals).objs.size ≤ env.locals
    rw [tr_size (Nat.le_of_lt ltL)]
    exact Nat.le_refl _
  · rcases hx with hx | hx
    · exact absurd hx (E.nocell x).1
    · exact absurd hx (E.nocell x).2
  · have lb : b < env.locals := Nat.lt_of_lt_of_le (Heap.lt_size e) E.bsz
    obtain ⟨q1, q2⟩ := I.bs b o e
    exact ⟨(tr_lt lb).trans q1, (trH_lt lb).trans q2⟩
  · show X.base.objs.size ≤ (tr s.heap env.locals).objs.size
    rw [tr_size (Nat.le_of_lt ltL)]
    exact E.bsz
  · show (tr s.heap env.locals).FunFrames X.base X.stack
    have all : ∀ (l : List Env), (∀ b ∈ frs l, b < env.locals) → s.heap.FunFrames X.base l → (tr s.heap env.locals).FunFrames X.base l := by
      intro l
      induction l with
      | nil => intro _ _; trivial
      | cons e1 r ih =>
        intro hs hl
        obtain ⟨hk, ⟨L, o, hf, hn, ho, hd⟩, hr⟩ := hl
        have hL : L < env.locals := hs L (by unfold frs; rw [List.filterMap_cons, hf]; exact List.mem_cons_self)
        exact ⟨hk, ⟨L, o, hf, hn, (tr_lt hL).trans ho, hd⟩, ih (fun b hb => hs b (by unfold frs; rw [List.filterMap_cons, hf]; exact List.mem_cons_of_mem _ hb)) hr⟩
    exact all X.stack E.oldf I.stack
  · have hb : b ∈ frs X.stack := hb
    exact (trH_lt (E.oldf b hb)).trans (I.stkFree b hb)
  · exact (tr_some e).2
  · exact ⟨o.slots, (tr_some e).2⟩
  · exact (trH_lt (tr_some e).1).symm.trans n
  · exact ⟨o, (tr_some e).2⟩
  · exact (trH_some e).2
  · exact (trH_some e).2
  · exact ⟨#[], by rw [(trH_some e).2]; simp⟩
  · rw [List.getElem?_replicate] at h2
    split at h2 <;> cases h2
open Classical in
/-- all that is younger than its frame, is not ours and no cell -/
noncomputable def yng (s : Shared) (H : Hp) (L : Addr) (fp : List Addr) : List (Addr × Obj) := (List.range s.heap.objs.size).filterMap fun b => if L < b ∧ b ∉ fp ∧ H b = none ∧ ∀ o v, s.heap.get? b = some o → o.data ≠ .cell v then (s.heap.get? b).map fun o => (b, o) else none
theorem mem_yng {L b : Addr} {fp : List Addr} {o : Obj} (h1 : L < b) (h2 : b ∉ fp) (h3 : H b = none) (h4 : s.heap.get? b = some o) (h5 : ∀ v, o.data ≠ .cell v) : (b, o) ∈ yng s H L fp := by
  refine List.mem_filterMap.mpr ⟨b, List.mem_range.mpr (Heap.lt_size h4), ?_⟩
  rw [if_pos ⟨h1, h2, h3, fun o' v e => by rw [h4] at e; cases e; exact h5 v⟩, h4]
  rfl
theorem of_yng {L : Addr} {fp : List Addr} {p : Addr × Obj} (h : p ∈ yng s H L fp) : L < p.1 ∧ p.1 ∉ fp ∧ H p.1 = none ∧ s.heap.get? p.1 = some p.2 ∧ ∀ v, p.2.data ≠ .cell v := by
  obtain ⟨b, _, e⟩ := List.mem_filterMap.mp h
  split at e
  · rename_i c
    obtain ⟨c1, c2, c3, c4⟩ := c
    cases q : s.heap.get? b with
    | none => rw [q] at e; cases e
    | some o =>
      rw [q] at e
      have e' : (b, o) = p := Option.some.inj e
      subst e'
      exact ⟨c1, c2, c3, q, fun v => c4 o v q⟩
  · cases e
theorem lty {b L : Nat} (h1 : b ≠ L) (hl : ¬ b < L) : L < b := by omega
open Classical in
/-- what may turn while the generator runs -/
noncomputable def trn (s : Shared) (H : Hp) (L : Addr) (fp : List Addr) : List Addr := L :: (fp ++ (List.range s.heap.objs.size).filter fun b => decide (L < b ∧ ∃ o v, s.heap.get? b = some o ∧ o.data = .cell v))
theorem objOk_there {P : Program} {w : World} {h : Heap} {b : Addr} {u : HO} (x : ObjOk P w H h b u) : ∃ o, h.get? b = some o := by
  cases u with
  | lst xs => obtain ⟨_, _, _, _, e⟩ := x; exact ⟨_, e⟩
  | tup xs => obtain ⟨_, _, _, o, e, _⟩ := x; exact ⟨o, e⟩
  | dK kvs => obtain ⟨_, _, _, _, o, _, _, e, _⟩ := x; exact ⟨o, e⟩
  | dT kvs => obtain ⟨_, _, _, _, o, _, _, e, _⟩ := x; exact ⟨o, e⟩
  | set S n => obtain ⟨o, _, _, _, e, _⟩ := x; exact ⟨o, e⟩
  | ins C dx fs => obtain ⟨_, _, _, e, _⟩ := x; exact ⟨_, e⟩
  | own y => obtain ⟨_, e⟩ := x; exact ⟨_, e⟩
  | xd fs => obtain ⟨_, ⟨o, _, _, e, _⟩, _⟩ := x; exact ⟨o, e⟩
  | rng lo hi => obtain ⟨_, _, _, e⟩ := x; exact ⟨_, e⟩
  | frz ob u => obtain ⟨e, _⟩ := x; exact ⟨_, e⟩
  | tbl ps => exact ⟨_, show h.get? b = some _ from x⟩
  | met f y => exact ⟨_, show h.get? b = some _ from x⟩
  | ext φ => obtain ⟨_, ⟨o, e⟩, _⟩ := x; exact ⟨o, e⟩
open Classical in
/-- back at the consumer -/
theorem back {fp : List Addr} {pm : List (Addr × Obj)} {σ' : L2.St} {H' : Hp} {s' : Shared} (E : GE X env) (I : Inv X pins σ H s) (fL : FpOk X pins H env.locals) (ff : ∀ b ∈ fp, FpOk X pins H b) (J : Inv (gX X env N s H) (yng s H env.locals fp ++ pm) σ' H' s') (km : ∀ b u, H b = some u → H' b = some u) :
    Inv X pins σ H' s' := by
  have pinY : ∀ {b o}, s.heap.get? b = some o → H b = none → b ∉ trn s H env.locals fp → ¬ b < env.locals → s'.heap.get? b = some o ∧ H' b = none := fun {b o} e n hx hl => by
    have h1 : b ≠ env.locals := fun z => hx (by rw [z]; exact List.mem_cons_self)
    have h2 : b ∉ fp := fun z => hx (List.mem_cons_of_mem _ (List.mem_append_left _ z))
    have h3 : ∀ v, o.data ≠ .cell v := fun v z => hx (List.mem_cons_of_mem _ (List.mem_append_right _ (List.mem_filter.mpr ⟨List.mem_range.mpr (Heap.lt_size e), decide_eq_true ⟨lty h1 hl, o, v, e, z⟩⟩)))
    have m := mem_yng (s := s) (H := H) (L := env.locals) (fp := fp) (b := b) (o := o) (lty h1 hl) h2 n e h3
    obtain ⟨q1, q2, _⟩ := J.pin (b, o) (List.mem_append_right _ (List.mem_append_left _ m))
    exact ⟨q1, q2⟩
  have nil : ∀ b : Addr, b ∉ ([] : List Addr) := fun b z => by cases z
  refine I.call' (ch := trn s H env.locals fp) (s' := s') J.os ⟨fun b o e n hb hx => ?_, fun b o e n hb hx => ?_, fun b o e n hx => ?_, fun b o e hx => ?_, fun b xs e => km _ _ e, fun b o u e => km _ _ e, fun b ps e => ⟨#[], by rw [km _ _ e]; simp⟩⟩ J.hok J.bare fun b hb => ?_
  · by_cases l : b < env.locals
    · exact J.base.keep b o ((tr_lt l).trans e) ((trH_lt l).trans n) hb (nil b)
    · exact (pinY e n hx l).1
  · have l := E.oldf b hb
    exact J.base.slot b o ((tr_lt l).trans e) ((trH_lt l).trans n) hb (nil b)
  · by_cases l : b < env.locals
    · exact J.base.free b o ((tr_lt l).trans e) ((trH_lt l).trans n) (nil b)
    · exact (pinY e n hx l).2
  · by_cases l : b < env.locals
    · exact J.base.there b o ((tr_lt l).trans e) (nil b)
    · cases q : H b with
      | none => exact ⟨o, (pinY e q hx l).1⟩
      | some u => exact objOk_there (J.hok b u (km b u q))
  · rcases List.mem_cons.mp hb with z | hb
    · rw [z]
      exact ⟨fL.2.2.2.1, fL.2.1, fL.2.2.2.2.1, fL.2.2.2.2.2⟩
    · rcases List.mem_append.mp hb with hb | hb
      · exact ⟨(ff b hb).2.2.2.1, (ff b hb).2.1, (ff b hb).2.2.2.2.1, (ff b hb).2.2.2.2.2⟩
      · obtain ⟨lb, o, v, e, d⟩ := of_decide_eq_true (List.mem_filter.mp hb).2
        refine ⟨.inr (Nat.le_of_lt (Nat.lt_of_le_of_lt E.olds lb)), fun z => absurd (Nat.lt_trans (z ▸ lb) E.old) (Nat.lt_irrefl _), fun x c h z => ?_, fun p hp z => ?_⟩
        · have := E.oldc x c h
          rw [z] at this
          exact absurd (Nat.lt_trans this lb) (Nat.lt_irrefl _)
        · obtain ⟨q1, _, _, _, q5⟩ := I.pin p hp
          rw [z, e] at q1
          cases q1
          exact q5 v d
end
end Gr
namespace Gs
open PySem PySem.Spec PyProof.Rows L2 GenW Gq Gr
open Sem (wp)
section
variable {X : Cx} {env : Env} {N : List Str} {pins : List (Addr × Obj)} {σ : L2.St} {H : Hp} {s : Shared}
theorem fpTo {H' : Hp} {b : Addr} (f : FpOk X pins H b) (h : H' b = none) : FpOk X pins H' b := ⟨h, f.2⟩
/-- at the turn i, ahead of a waking -/
structure Wk (X : Cx) (env : Env) (a : Addr) (g : Nat) (fp : List Addr) (tn : Nat → Heap → Prop) (i : Nat) (pins : List (Addr × Obj)) (σ : L2.St) (H : Hp) (s : Shared) : Prop where
  inv : Inv X pins σ H s
  fL : FpOk X pins H env.locals
  ff : ∀ b ∈ fp, FpOk X pins H b
  fa : FpOk X pins H a
  gen : s.heap.IsGen a g
  ns : ∃ m, s.heap.Ns env.locals m
  st : tn i s.heap
theorem Wk.regens {a : Addr} {g : Nat} {fp : List Addr} {tn : Nat → Heap → Prop} {i : Nat} {G : Array GenState} (W : Wk X env a g fp tn i pins σ H s) (hG : AllBare G) : Wk X env a g fp tn i pins σ H { s with gens := G } :=
  ⟨Inv.regens W.inv hG, W.fL, W.ff, W.fa, W.gen, W.ns, W.st⟩
/-- how a waking ends when m turns are left -/
def Dn (X : Cx) (env : Env) (a : Addr) (g : Nat) (fp : List Addr) (tn : Nat → Heap → Prop) (Yl : Nat → Hp → V → Hp → Prop) (tot m : Nat) (R : Nat → Code → Sem PySem.Fin → List Frame → Prop) (pins : List (Addr × Obj)) (σ : L2.St) (H : Hp) (e : End) (s1 : Shared) : Prop :=
  match m with
  | 0 => e = .ret (.ok (.ret .none)) ∧ Inv X pins σ H s1
  | m + 1 => ∃ v gg l k c p fs x H1, e = .susp v gg l k c p fs ∧ e.quiet = true ∧ RelV x v ∧ Yl (tot - (m + 1)) H x H1 ∧ Wk X env a g fp tn (tot - m) pins σ H1 s1 ∧ R m c (k (.send .none)) fs
def Rdy (X : Cx) (A : Around) (env : Env) (a : Addr) (g : Nat) (fp : List Addr) (tn : Nat → Heap → Prop) (Yl : Nat → Hp → V → Hp → Prop) (tot : Nat) : Nat → Code → Sem PySem.Fin → List Frame → Prop
  | 0 => fun c t fs => ∀ pins σ H s, Wk X env a g fp tn tot pins σ H s → SegC (model X.prog X.w) A (Dn X env a g fp tn Yl tot 0 (fun _ _ _ _ => False) pins σ H) c t fs s
  | m + 1 => fun c t fs => ∀ pins σ H s, Wk X env a g fp tn (tot - (m + 1)) pins σ H s → SegC (model X.prog X.w) A (Dn X env a g fp tn Yl tot (m + 1) (fun _ => Rdy X A env a g fp tn Yl tot m) pins σ H) c t fs s
theorem Rdy.to {A : Around} {a : Addr} {g : Nat} {fp : List Addr} {tn : Nat → Heap → Prop} {Yl : Nat → Hp → V → Hp → Prop} {tot : Nat} {c c' : Code} {t t' : Sem PySem.Fin} {fs fs' : List Frame} : ∀ {m : Nat},
    (∀ F s, SegC (model X.prog X.w) A F c t fs s → SegC (model X.prog X.w) A F c' t' fs' s) → Rdy X A env a g fp tn Yl tot m c t fs → Rdy X A env a g fp tn Yl tot m c' t' fs'
  | 0, i, h => fun pins σ H s W => i _ _ (h pins σ H s W)
  | _ + 1, i, h => fun pins σ H s W => i _ _ (h pins σ H s W)
/-- the body of the generator's loop -/
structure GBody (X : Cx) (env : Env) (N : List Str) (tg e : Expr) (te : TE) (tot : Nat) (Yl : Nat → Hp → V → Hp → Prop) : Prop where
  pg : ∀ s H, PG (gX X env N s H) tg (gName 0)
  pe : ∀ s H, PE (gX X env N s H) e te
  te : ∀ i H Q, i < tot → (∀ x H', Yl i H x H' → Q x H') → te ((List.replicate N.length none).set 0 (some (.int (0 + (i : Nat))))) H Q
  yl : ∀ i H x H', Yl i H x H' → ∀ b u, H b = some u → H' b = some u
  co : env.scope.isCoroutine = false
  int : interactive env = false
theorem loop_rdy {a : Addr} {g : Nat} {fp : List Addr} {it : Addr} {tn : Nat → Heap → Prop} {tot : Nat} {Yl : Nat → Hp → V → Hp → Prop} {tg e : Expr} {te : TE} {yp ep : Pos} {K : PySem.W.Frag} (E : GE X env) (B : GBody X env N tg e te tot Yl) (hK : X.K = K) (T : Turn X.prog X.w K tg (Itr 0 tot) fp it tn)
    (hLf : ∀ b ∈ fp, env.locals < b) (haf : a ∉ fp) (hLa : env.locals < a) {kk : Result → Sem PySem.Fin} {l : List Value} {c0 : Code} {p0 : Pos} (hov : ∀ A : Around, A.over c0 [] = A.deeper env)
    (hend : ∀ F s, F (.ret (.ok (.ret .none))) s → SegC (model X.prog X.w) X.A.in1 F c0 (kk (.ok .next)) [] s) : ∀ m, m ≤ tot →
    Rdy X X.A.in1 env a g fp tn Yl tot m (.forLoop tg (.ref it) [.Expr (.Yield (some e) yp) ep] [] env) ((model X.prog X.w).den (.forLoop tg (.ref it) [.Expr (.Yield (some e) yp) ep] [] env)) [.ret kk none false l c0 p0 []] := by
  have over : X.A.in1.over (.forLoop tg (.ref it) [.Expr (.Yield (some e) yp) ep] [] env) [.ret kk none false l c0 p0 []] = X.A.in1.deeper env := (over_loop rfl rfl).trans (hov _)
  -- the generator's own side at a waking
  have side : ∀ {i pins σ H s}, Wk X env a g fp tn i pins σ H s → Inv (gX X env N s H) (yng s H env.locals fp) (List.replicate N.length none) H s ∧ ∀ b ∈ fp, FpOk (gX X env N s H) (yng s H env.locals fp) H b := fun {i pins σ H s} W => by
    have J := toG (N := N) E W.inv W.fL.1 W.ns (yng s H env.locals fp) fun p hp => by
      obtain ⟨q1, q2, q3, q4, q5⟩ := of_yng hp
      exact ⟨q4, q3, Nat.ne_of_gt q1, fun z => absurd (Nat.lt_trans (E.oldf _ z) q1) (Nat.lt_irrefl _), q5⟩
    refine ⟨J, fun b hb => ⟨(W.ff b hb).1, Nat.ne_of_gt (hLf b hb), fun z => absurd (Nat.lt_trans (E.oldf _ z) (hLf b hb)) (Nat.lt_irrefl _), .inr ?_, fun x c z => ?_, fun p hp z => ?_⟩⟩
    · obtain ⟨m, hm⟩ := W.ns
      show (tr s.heap env.locals).objs.size ≤ b
      rw [tr_size (Nat.le_of_lt hm.lt)]
      exact Nat.le_of_lt (hLf b hb)
    · have z : env.cells.lookup x = some c := z
      rw [E.cells] at z
      cases z
    · exact (of_yng hp).2.1 (by rw [z]; exact hb)
  intro m
  induction m with
  | zero =>
    intro _ pins σ H s W
    obtain ⟨J, Jf⟩ := side W
    refine segc_forLoop ?_
    rw [over]
    refine wpAny_mono (T.done (gX X env N s H) rfl rfl hK rfl tot _ s _ H (fun _ _ => False) J Jf W.st (Nat.le_refl _)) (fun r s1 ⟨hr, J1⟩ => ?_) fun _ _ x => x
    subst hr
    refine segc_block0 (segc_leaf (.ok .next) (hend _ _ ⟨rfl, ?_⟩))
    exact back (pm := []) E W.inv W.fL W.ff (by rw [List.append_nil]; exact J1) fun _ _ z => z
  | succ m ih =>
    intro hm pins σ H s W
    obtain ⟨J, Jf⟩ := side W
    have hi : tot - (m + 1) < tot := by omega
    refine segc_forLoop ?_
    rw [over]
    refine wpAny_mono (T.item (gX X env N s H) rfl rfl hK rfl (tot - (m + 1)) _ s _ H (fun _ _ => False) J Jf W.st hi) (fun r s1 ⟨u, hr, h1⟩ => ?_) fun _ _ x => x
    subst hr
    refine wpAny_mono h1 (fun _ s5 ⟨x, H5, J5, r5, y5, st5, fr5⟩ => ?_) fun _ _ x => x
    obtain ⟨e5, ex⟩ := y5
    subst e5
    subst ex
    have obj5 := T.obj _ _ st5
    have J5' := Inv.pinned J5 (fun b hb => fpTo (Jf b hb) (fr5 b hb)) obj5
    refine wpAny_mono ((B.pg s H5).run _ s5 _ H5 _ u (fun σ' H' => σ' = (List.replicate N.length none).set 0 (some (.int (0 + ((tot - (m + 1) : Nat) : Int)))) ∧ H' = H5) J5' r5 ⟨rfl, rfl⟩) (fun _ s6 ⟨σ6, H6, J6, e6, e7⟩ => ?_) fun _ _ x => x
    subst e6
    subst e7
    rw [execs_cons_wrap]
    refine segc_Expr_Yield rfl ?_ B.co B.int
    rw [over]
    refine wpAny_mono ((B.pe s H6).run _ s6 _ H6 _ J6 (B.te _ H6 (fun x H' => Yl (tot - (m + 1)) H6 x H') hi fun _ _ z => z)) (fun v s7 ⟨x, H7, J7, rx, y7⟩ => ?_) fun _ _ x => x.elim
    intro l7 k7 p7 ek
    have km := B.yl _ _ _ _ y7
    have I7 := back (fp := fp) E W.inv W.fL W.ff J7 km
    have pinf : ∀ b ∈ fp, ∀ o, s5.heap.get? b = some o → s7.heap.get? b = some o ∧ H7 b = none := fun b hb o eo =>
      let z := J7.pin (b, o) (List.mem_append_right _ (List.mem_append_right _ (mem_pinsAt hb eo)))
      ⟨z.1, z.2.1⟩
    obtain ⟨og, nm, qn, eg, hgc, hgd, hgs⟩ := id W.gen
    have pina := J7.pin (a, og) (List.mem_append_right _ (List.mem_append_left _ (mem_yng hLa haf W.fa.1 eg fun v z => by rw [hgd] at z; cases z)))
    refine ⟨v, _, l7, k7, _, p7, _, x, H7, rfl, rfl, rx, y7, ⟨I7, fpTo W.fL J7.free, fun b hb => ?_, fpTo W.fa pina.2.1, ⟨og, nm, qn, pina.1, hgc, hgd, hgs⟩, ?_, ?_⟩, ?_⟩
    · obtain ⟨o, eo, _⟩ := obj5 b hb
      exact fpTo (W.ff b hb) (pinf b hb o eo).2
    · obtain ⟨m7, hn7, _⟩ := J7.loc
      exact ⟨m7, hn7⟩
    · have e : tot - (m + 1) + 1 = tot - m := by omega
      rw [← e]
      exact T.keep _ _ _ st5 fun b hb o eo => (pinf b hb o eo).1
    · rw [ek]
      exact Rdy.to (fun F s' h => segc_again rfl h) (ih (by omega))
/-- the first waking: the loop is begun -/
theorem first {a : Addr} {g : Nat} {tot : Nat} {Yl : Nat → Hp → V → Hp → Prop} {tg e iter : Expr} {te : TE} {wi : TI} {yp ep pos : Pos} {K : PySem.W.Frag} (E : GE X env) (B : GBody X env N tg e te tot Yl) (hK : X.K = K) (h0 : 0 < tot) (hLa : env.locals < a) (hpi : ∀ s H, PI (gX X env N s H) tg iter wi) (hwi : ∀ σ H R, R (Itr 0 tot) H → wi σ H R)
    (hfo : ∀ x, foldedSetIterable iter env x = pure x) (hov : ∀ A : Around, A.over (.func [.For tg iter [.Expr (.Yield (some e) yp) ep] [] pos] env) [] = A.deeper env)
    (I : Inv X pins σ H s) (fL : FpOk X pins H env.locals) (fa : FpOk X pins H a) (gen : s.heap.IsGen a g) (ns : ∃ m, s.heap.Ns env.locals m) :
    SegC (model X.prog X.w) X.A.in1 (fun e1 s1 => ∃ fp tn, (∀ b ∈ fp, env.locals < b) ∧ a ∉ fp ∧ (∃ it, Turn X.prog X.w K tg (Itr 0 tot) fp it tn) ∧ Dn X env a g fp tn Yl tot (tot - 1 + 1) (fun _ => Rdy X X.A.in1 env a g fp tn Yl tot (tot - 1)) pins σ H e1 s1)
      (.func [.For tg iter [.Expr (.Yield (some e) yp) ep] [] pos] env) ((model X.prog X.w).den (.func [.For tg iter [.Expr (.Yield (some e) yp) ep] [] pos] env)) [] s := by
  subst hK
  have J := toG (N := N) E I fL.1 ns (yng s H env.locals []) fun p hp => by
    obtain ⟨q1, q2, q3, q4, q5⟩ := of_yng hp
    exact ⟨q4, q3, Nat.ne_of_gt q1, fun z => absurd (Nat.lt_trans (E.oldf _ z) q1) (Nat.lt_irrefl _), q5⟩
  have ltL : env.locals < s.heap.objs.size := let ⟨_, hm⟩ := ns; hm.lt
  refine segc_func ?_
  rw [execs_cons_wrap]
  refine segc_For hfo ?_
  rw [hov]
  refine wpAny_mono ((hpi s H).run _ s _ H (fun J' H' => J' = Itr 0 tot ∧ H' = H) J (hwi _ _ _ ⟨rfl, rfl⟩)) (fun v s1 h1 => ?_) fun _ _ x => x.elim
  refine wpAny_mono h1 (fun u s2 h2 => ?_) fun _ _ x => x.elim
  obtain ⟨it, fp, tn, J', H2, eu, J2, T, st2, f2, eJ, eH⟩ := h2
  subst eu
  subst eJ
  subst eH
  intro k l p ek
  have hL : ∀ b ∈ fp, env.locals < b := fun b hb => by
    obtain ⟨_, n1, _, z, _⟩ := f2 b hb
    rcases z with z | z
    · cases z
    · have z : (tr s.heap env.locals).objs.size ≤ b := z
      rw [tr_size (Nat.le_of_lt ltL)] at z
      exact Nat.lt_of_le_of_ne z (Ne.symm n1)
  have apart : ∀ p ∈ yng s H2 env.locals [], p.1 ∉ fp := fun p hp z => (f2 p.1 z).2.2.2.2.2 p (List.mem_append_right _ hp) rfl
  obtain ⟨og, nm, qn, eg, hgc, hgd, hgs⟩ := id gen
  have ya := mem_yng (s := s) (H := H2) (L := env.locals) (fp := []) hLa (fun z => by cases z) fa.1 eg fun v z => by rw [hgd] at z; cases z
  have haf : a ∉ fp := apart _ ya
  have I2 := back (fp := []) (pm := []) E I fL (fun b z => by cases z) (by rw [List.append_nil]; exact J2) fun _ _ z => z
  have pina := J2.pin (a, og) (List.mem_append_right _ ya)
  have W : Wk X env a g fp tn 0 pins σ H2 s2 := ⟨I2, fL, fun b hb => ⟨(f2 b hb).1, Nat.ne_of_gt (Nat.lt_trans E.old (hL b hb)), fun z => ?_, .inr (Nat.le_of_lt (Nat.lt_of_le_of_lt E.olds (hL b hb))), fun x c z y => ?_, fun p hp z => ?_⟩, fa, ⟨og, nm, qn, pina.1, hgc, hgd, hgs⟩, (let ⟨m2, hn2, _⟩ := J2.loc; ⟨m2, hn2⟩), st2⟩
  · obtain ⟨n, rfl⟩ : ∃ n, tot = n + 1 := ⟨tot - 1, by omega⟩
    have q := loop_rdy (g := g) (yp := yp) (ep := ep) E B rfl T hL haf hLa (kk := k) (l := l) (p0 := p) hov (fun F s' h => by
      rw [ek]
      exact segc_end (.ok (.ret .none)) h) (n + 1) (Nat.le_refl _)
    refine segc_mono (q pins σ H2 s2 (by rw [Nat.sub_self]; exact W)) fun e1 s1 h => ⟨fp, tn, hL, haf, ⟨it, T⟩, h⟩
  · have hz : b ∈ frs X.stack := by
      rcases I.ok.stk with q | ⟨q, _⟩
      · rw [q]; exact z
      · rw [q]
        unfold frs
        rw [List.filterMap_cons]
        split
        · exact z
        · exact List.mem_cons_of_mem _ z
    exact absurd (Nat.lt_trans (E.oldf _ hz) (hL b hb)) (Nat.lt_irrefl _)
  · have q := E.oldc x c z
    rw [y] at q
    exact absurd (Nat.lt_trans q (hL b hb)) (Nat.lt_irrefl _)
  · obtain ⟨q1, q2, _, _, q5⟩ := I.pin p hp
    have lb := hL b hb
    rw [← z] at lb hb
    exact apart (p.1, p.2) (mem_yng lb (fun z => by cases z) q2 q1 q5) hb
end
end Gs
namespace Gt
open PySem PySem.Spec PyProof.Rows L2 GenW Gq Gr Gs
open Sem (wp)
/-- for x in g(): Yl i: what the turn i hands out -/
def tForG (tot : Nat) (Yl : Nat → Hp → V → Hp → Prop) (g : TG) (tb : TS) : TS := fun D σ H => ∃ W : Nat → L2.St → Hp → Prop, W 0 σ H ∧
  (∀ i σ H, i < tot → W i σ H → ∀ x H', Yl i H x H' → g x σ H' fun σ2 H2 => tb { D with nx := W (i + 1), ct := W (i + 1), bk := D.nx } σ2 H2) ∧ ∀ σ H, W tot σ H → D.nx σ H
theorem goes_mono {M : Model} {A : Around} {F F' : End → Shared → Prop} {gs : GenState} {s : Shared} (h : GoesC M A F gs s) (i : ∀ e s', F e s' → F' e s') : GoesC M A F' gs s := by
  cases gs with
  | fresh c => exact segc_mono h i
  | suspended k l c p fs cl => exact segc_mono h i
  | running => exact h.elim
  | finished => exact h.elim
section
variable {X : Cx}
theorem ps_forG {f : Addr} {x qual : Str} {cdv oc dV kV doc pm ct : Value} {an od : Option Addr} {osl : Array (Option Value)} {params : Arguments} {scope : Scope} {N : List Str} {tot : Nat} {Yl : Nat → Hp → V → Hp → Prop} {tgG eG iterG : Expr} {teG : TE} {wiG : TI} {yp ep fp_ : Pos}
    {tg : Expr} {body : List Stmt} {g : TG} {tb : TS} {pos cp np : Pos}
    (lk : X.K.lookup f = some ⟨oc, od, .func (PySem.W.fnOf x qual params [.For tgG iterG [.Expr (.Yield (some eG) yp) ep] [] fp_] scope dV kV doc pm an cdv ct), osl⟩) (hcd : PySem.W.codeIn X.K cdv qual = true) (hkp : PySem.W.keepIn X.K (.ref f) = true) (S : GScope N [] scope)
    (hbd : Binds X.K (PySem.W.fnOf x qual params [.For tgG iterG [.Expr (.Yield (some eG) yp) ep] [] fp_] scope dV kV doc pm an cdv ct) [] [])
    (hcells : ∀ n, cellsFrom n scope.names [] = []) (hnc : ∀ y, scope.names.lookup y ≠ some .cell ∧ scope.names.lookup y ≠ some .free) (h0 : 0 < tot)
    (hB : ∀ L, GBody X (envOfC qual scope L f cdv) N tgG eG teG tot Yl) (hpi : ∀ L s H, PI (gX X (envOfC qual scope L f cdv) N s H) tgG iterG wiG) (hwi : ∀ σ H R, R (Itr 0 tot) H → wiG σ H R) (hfo : ∀ L y, foldedSetIterable iterG (envOfC qual scope L f cdv) y = pure y)
    (hg : Gl X x) (hm : X.mg x = some (.ref f)) (hr : Room 2 X.A) (hxe : ∀ e s, ¬ X.xe e s) (hgT : PG X tg g) (hb : PSs X body tb) (hdb : (x == ("__debug__" : Str)) = false := by decide)
    (hs : ∀ y, foldedSetIterable (.Call (.Name x np) [] [] cp) X.env y = pure y := by intro _; rfl) : PS X (.For tg (.Call (.Name x np) [] [] cp) body [] pos) (tForG tot Yl g tb) := by
  refine ⟨fun pins s σ H D I h => ?_⟩
  obtain ⟨W, w0, step, fin⟩ := h
  refine wpAny_For ?_ hs
  have KX : X.K.In s.heap := I.kIn
  refine wpAny_Call_Name_kw (ld_glob I hg hm ?_ hdb)
  refine PySem.W.callWith_K0 KX hkp ?_
  have nil : ∀ (b : Addr), b ∉ ([] : List Addr) := fun b z => by cases z
  refine wpAny_call (codeAny_mono (R := fun r s' => ∃ a g, r = .ok (.ret (.ref a)) ∧ Inv X pins σ H s' ∧ GE X (envOfC qual scope s.heap.objs.size f cdv) ∧ FpOk X pins H s.heap.objs.size ∧ FpOk X pins H a ∧ s.heap.objs.size < a ∧ s'.heap.IsGen a g ∧ (∃ m, s'.heap.Ns s.heap.objs.size m) ∧
    s'.gens[g]? = some (.fresh (.func [.For tgG iterG [.Expr (.Yield (some eG) yp) ep] [] fp_] (envOfC qual scope s.heap.objs.size f cdv)))) ?_ ?_)
  · refine codeAny_call_generator hr.depth (KX _ _ lk) rfl S.co S.gen rfl (PySem.W.codeRec_of KX hcd) (hbd s [] KX rfl _ _ _ _ ?_)
    refine wpAny_newFunctionEnv_cells S.kind (fun y hy => by cases hy) fun env he s1 x1 => ?_
    have he : env = envOfC qual scope s.heap.objs.size f cdv := he
    subst he
    have lim1 : s1.heap.NoLimit := I.nolimit.keeps x1.toInCall.keep
    refine ⟨lim1, ?_⟩
    obtain ⟨h1, tk, es1, hk1⟩ := x1.done
    have os1 : s1.os = s.os := by rw [es1]
    have gen1 : s1.gens = s.gens := by rw [es1]
    have lt1 : s.heap.objs.size < s1.heap.objs.size := x1.toInCall.ns.lt
    have kp1 : ∀ b o, s.heap.get? b = some o → s1.heap.get? b = some o := x1.toInCall.keep
    have kp2 : ∀ (go : Obj) b o, s.heap.get? b = some o → (s1.heap.push go).get? b = some o := fun go b o e => Heap.get?_push_of_some _ (kp1 b o e)
    refine ⟨_, s1.gens.size, rfl, I.call' (ch := []) os1 (Un.kept (kp2 _)) (I.hok.kept (kp2 _)) (AllBare.push (by rw [gen1]; exact I.bare) rfl) (fun b z => absurd z (nil b)), ⟨S.kind, rfl, rfl, hcells _, hnc, rfl, Nat.le_trans I.ok.bsz I.sz, I.lt, I.sz, fun y c e => ?_, fun b hb => ?_, hr.hd⟩,
      Inv.fpOk I (Nat.le_refl _) (I.hok.fresh (Nat.le_refl _)), Inv.fpOk I (Nat.le_of_lt lt1) (I.hok.fresh (Nat.le_of_lt lt1)), lt1, ⟨_, _, _, Heap.get?_push_size _ rfl, rfl, rfl, rfl⟩, ⟨_, x1.toInCall.ns.push _⟩, Array.getElem?_push_size ..⟩
    · obtain ⟨v, o, ho, _⟩ := I.cell y c e
      exact Heap.lt_size ho
    · obtain ⟨_, o, ho, _⟩ := I.stack.mem hb
      exact Heap.lt_size ho
  rintro r s' ⟨a, g', rfl, I1, E, fL, fa, hLa, hgen, hns, hgs⟩
  -- the state at a turn
  refine wpAny_pyIter_gen hgen ?_
  have hxe' : ∀ e s', X.xe e s' → False := hxe
  refine codeAny_forLoop_any (fun n s2 => ∃ i σ' H', n = tot - i ∧ i ≤ tot ∧ W i σ' H' ∧ Inv X pins σ' H' s2 ∧ FpOk X pins H' s.heap.objs.size ∧ FpOk X pins H' a ∧ s2.heap.IsGen a g' ∧ (∃ m, s2.heap.Ns s.heap.objs.size m) ∧
    ((i = 0 ∧ s2.gens[g']? = some (.fresh (.func [.For tgG iterG [.Expr (.Yield (some eG) yp) ep] [] fp_] (envOfC qual scope s.heap.objs.size f cdv)))) ∨
      (0 < i ∧ ∃ fp tn, (∀ b ∈ fp, s.heap.objs.size < b) ∧ a ∉ fp ∧ (∃ it, Turn X.prog X.w X.K tgG (Itr 0 tot) fp it tn) ∧ (∀ b ∈ fp, FpOk X pins H' b) ∧ tn i s2.heap ∧ ∃ k l c p fs cl, s2.gens[g']? = some (.suspended k l c p fs cl) ∧ Rdy X X.A.in1 (envOfC qual scope s.heap.objs.size f cdv) a g' fp tn Yl tot (tot - i) c (k (.send .none)) fs)))
    ?_ tot ⟨0, σ, H, rfl, Nat.zero_le _, w0, I1, fL, fa, hgen, hns, .inl ⟨rfl, hgs⟩⟩
  rintro n s2 ⟨i, σ2, H2, rfl, hi, w2, I2, fL2, fa2, gen2, ns2, st2⟩
  have lim2 : s2.heap.NoLimit := I2.nolimit
  have bareR : AllBare (s2.setGen g' .running).gens := allBare_setGen I2.bare rfl
  have I2r := Inv.regens I2 bareR
  by_cases lt : i < tot
  · obtain ⟨m, hm⟩ : ∃ m, tot - i = m + 1 := ⟨tot - i - 1, by omega⟩
    have ei : tot - (m + 1) = i := by omega
    have key : ∃ gs, s2.gens[g']? = some gs ∧ GoesC (model X.prog X.w) X.A.in1 (fun e1 s1 => ∃ fp tn, (∀ b ∈ fp, s.heap.objs.size < b) ∧ a ∉ fp ∧ (∃ it, Turn X.prog X.w X.K tgG (Itr 0 tot) fp it tn) ∧ Dn X (envOfC qual scope s.heap.objs.size f cdv) a g' fp tn Yl tot (m + 1) (fun _ => Rdy X X.A.in1 (envOfC qual scope s.heap.objs.size f cdv) a g' fp tn Yl tot m) pins σ2 H2 e1 s1) gs (s2.setGen g' .running) := by
      rcases st2 with ⟨e0, hgs2⟩ | ⟨_, fp, tn, q1, q2, q3, q4, q5, k, l, c, p, fs, cl, hgs2, rdy⟩
      · subst e0
        refine ⟨_, hgs2, ?_⟩
        have q := first (a := a) (g := g') (iter := iterG) (wi := wiG) (yp := yp) (ep := ep) (pos := fp_) E (hB _) rfl h0 hLa (hpi _) hwi (hfo _) (fun A => over_func) I2r fL2 fa2 gen2 ns2
        have em : tot - 1 = m := by omega
        rw [em] at q
        exact q
      · refine ⟨_, hgs2, ?_⟩
        rw [hm] at rdy
        have q := rdy pins σ2 H2 (s2.setGen g' .running) (by rw [ei]; exact ⟨I2r, fL2, q4, fa2, gen2, ns2, q5⟩)
        exact segc_mono q fun e1 s1 h => ⟨fp, tn, q1, q2, q3, h⟩
    obtain ⟨gs, hgs2, hgo⟩ := key
    have hgl : g' < s2.gens.size := (Array.getElem?_eq_some_iff.mp hgs2).1
    refine wpAny_gsz (n := g' + 1) hgl (next_genC hr.hd lim2 hr.depth gen2 hgs2 (goes_mono hgo ?_))
    rintro e1 s1 ⟨fp, tn, q1, q2, ⟨it, T⟩, v, gg, l, k, c, p, fs, x, H1, rfl, hq, rv, y1, W1, rdy⟩
    refine .inr ⟨v, gg, l, k, c, p, fs, rfl, hq, fun hsz => ?_⟩
    rw [ei] at y1
    have ei1 : tot - m = i + 1 := by omega
    rw [ei1] at W1
    have hg1 : g' < s1.gens.size := by
      have z : (s1.setGen g' (End.susp v gg l k c p fs).genState).gens.size = s1.gens.size := setGen_size _ _ _
      have hsz' : g' + 1 ≤ (s1.setGen g' (End.susp v gg l k c p fs).genState).gens.size := hsz
      omega
    have bare1 : AllBare (s1.setGen g' (End.susp v gg l k c p fs).genState).gens := allBare_setGen W1.inv.bare (End.bare_of_quiet hq)
    have at1 : (s1.setGen g' (End.susp v gg l k c p fs).genState).gens[g']? = some (.suspended k l c p fs (gg || fs.any Frame.guarded)) := setGen_at hg1
    have W1' := Wk.regens W1 bare1
    obtain ⟨og, nm, qn, eg, hgc, hgd, hgs0⟩ := id W1'.gen
    have objs : ∀ b ∈ s.heap.objs.size :: a :: fp, ∃ o, s1.heap.get? b = some o ∧ ∀ v, o.data ≠ .cell v := fun b hb => by
      rcases List.mem_cons.mp hb with z | hb
      · obtain ⟨mm, o, es, epp, ho, hd, _⟩ := W1.ns
        rw [z]
        exact ⟨o, ho, fun v z => by rw [hd] at z; cases z⟩
      · rcases List.mem_cons.mp hb with z | hb
        · rw [z]
          exact ⟨og, eg, fun v z => by rw [hgd] at z; cases z⟩
        · exact T.obj _ _ W1.st b hb
    have ffs : ∀ b ∈ s.heap.objs.size :: a :: fp, FpOk X pins H1 b := fun b hb => by
      rcases List.mem_cons.mp hb with z | hb
      · rw [z]; exact W1.fL
      · rcases List.mem_cons.mp hb with z | hb
        · rw [z]; exact W1.fa
        · exact W1.ff b hb
    have IP := Inv.pinned W1'.inv ffs objs
    refine go_of eg hgc hgd (by decide) ?_
    refine wpAny_mono (Gk.kept (s := s1.setGen g' (End.susp v gg l k c p fs).genState) bare1 at1 fun G hG => hgT.run _ _ σ2 H1 x v _ (Inv.regens IP hG) rv (step i σ2 H2 lt w2 x H1 y1)) (fun _ s3 h3 => ?_) fun e s3 ⟨G, _, h⟩ => (hxe' _ _ h).elim
    obtain ⟨at3, G3, b3, σ3, H3, I3, q3⟩ := h3
    have I3' := Inv.regens I3 (b3 I3.bare)
    refine wpAny_mono (Gk.kept (s := s3) I3'.bare at3 fun G hG => hb.run _ _ σ3 H3 _ (Inv.regens I3' hG) q3) (fun fl s4 h4 => ?_) fun e s4 ⟨G, _, h⟩ => (hxe' _ _ h).elim
    obtain ⟨at4, G4, b4, q4⟩ := h4
    have again : ∀ {σ7 : L2.St} {H7 : Hp}, Inv X (pins ++ pinsAt (s.heap.objs.size :: a :: fp) s1.heap) σ7 H7 (Gk.wg s4 G4) → W (i + 1) σ7 H7 → ∃ m', m' < tot - i ∧ ∃ i σ' H', m' = tot - i ∧ i ≤ tot ∧ W i σ' H' ∧ Inv X pins σ' H' s4 ∧ FpOk X pins H' s.heap.objs.size ∧ FpOk X pins H' a ∧ s4.heap.IsGen a g' ∧ (∃ m, s4.heap.Ns s.heap.objs.size m) ∧
        ((i = 0 ∧ s4.gens[g']? = some (.fresh (.func [.For tgG iterG [.Expr (.Yield (some eG) yp) ep] [] fp_] (envOfC qual scope s.heap.objs.size f cdv)))) ∨
          (0 < i ∧ ∃ fp tn, (∀ b ∈ fp, s.heap.objs.size < b) ∧ a ∉ fp ∧ (∃ it, Turn X.prog X.w X.K tgG (Itr 0 tot) fp it tn) ∧ (∀ b ∈ fp, FpOk X pins H' b) ∧ tn i s4.heap ∧ ∃ k l c p fs cl, s4.gens[g']? = some (.suspended k l c p fs cl) ∧ Rdy X X.A.in1 (envOfC qual scope s.heap.objs.size f cdv) a g' fp tn Yl tot (tot - i) c (k (.send .none)) fs)) := fun {σ7 H7} I7 n7 => by
      have I7' := Inv.regens I7 (b4 I7.bare)
      have pin7 : ∀ b ∈ s.heap.objs.size :: a :: fp, ∀ o, s1.heap.get? b = some o → s4.heap.get? b = some o ∧ H7 b = none := fun b hb o eo =>
        let z := I7'.pin (b, o) (List.mem_append_right _ (List.mem_append_right _ (mem_pinsAt hb eo)))
        ⟨z.1, z.2.1⟩
      have fp7 : ∀ b ∈ s.heap.objs.size :: a :: fp, FpOk X pins H7 b := fun b hb => by
        obtain ⟨o, eo, _⟩ := objs b hb
        exact fpTo (ffs b hb) (pin7 b hb o eo).2
      have mL : s.heap.objs.size ∈ s.heap.objs.size :: a :: fp := List.mem_cons_self
      have ma : a ∈ s.heap.objs.size :: a :: fp := List.mem_cons_of_mem _ List.mem_cons_self
      have mf : ∀ b ∈ fp, b ∈ s.heap.objs.size :: a :: fp := fun b hb => List.mem_cons_of_mem _ (List.mem_cons_of_mem _ hb)
      refine ⟨tot - (i + 1), by omega, i + 1, σ7, H7, rfl, lt, n7, I7'.unpinned, fp7 _ mL, fp7 _ ma, ⟨og, nm, qn, (pin7 a ma og eg).1, hgc, hgd, hgs0⟩, ?_, .inr ⟨Nat.succ_pos _, fp, tn, q1, q2, ⟨it, T⟩, fun b hb => fp7 b (mf b hb), T.keep _ _ _ W1.st fun b hb o eo => (pin7 b (mf b hb) o eo).1, k, l, c, p, fs, _, at4, ?_⟩⟩
      · obtain ⟨mm, o, es, epp, ho, r⟩ := W1.ns
        exact ⟨mm, o, es, epp, (pin7 _ mL o ho).1, r⟩
      · have e : tot - (i + 1) = m := by omega
        rw [e]
        exact rdy
    cases fl with
    | next => obtain ⟨σ7, H7, I7, n7⟩ := q4; exact again I7 n7
    | cont => obtain ⟨σ7, H7, I7, n7⟩ := q4; exact again I7 n7
    | brk => obtain ⟨σ7, H7, I7, n7⟩ := q4; exact ⟨σ7, H7, (Inv.regens I7 (b4 I7.bare)).unpinned, n7⟩
    | ret u => obtain ⟨x7, σ7, H7, I7, r7, n7⟩ := q4; exact ⟨x7, σ7, H7, (Inv.regens I7 (b4 I7.bare)).unpinned, r7, n7⟩
  · have e : i = tot := by omega
    subst e
    rcases st2 with ⟨e0, _⟩ | ⟨_, fp, tn, q1, q2, q3, q4, q5, k, l, c, p, fs, cl, hgs2, rdy⟩
    · omega
    rw [Nat.sub_self] at rdy
    have q := rdy pins σ2 H2 (s2.setGen g' .running) ⟨I2r, fL2, q4, fa2, gen2, ns2, q5⟩
    refine next_genC hr.hd lim2 hr.depth gen2 hgs2 (segc_mono q ?_)
    rintro e1 s1 ⟨rfl, I3⟩
    refine .inl ⟨rfl, fun h' hk => wpAny_execs_nil ⟨σ2, H2, ?_, fin _ _ w2⟩⟩
    exact Inv.kept (t' := s1.toks) (Inv.regens I3 (allBare_setGen (g := g') (x := .finished) I3.bare rfl)) hk
end
end Gt
namespace Dr
open PySem PySem.Spec PyProof.Rows L2
/-! ### the drawing of numbers: smixed, sdraw, sopen -/
def topS (i : Nat) : Stmt := PySem.Challenge.pw_sparecut_k65_whole_no_tree_is_less.main.body.getD i (.Pass ⟨0, 0, 0, 0⟩)
abbrev sFre : Stmt := topS 55
abbrev sDrw : Stmt := topS 56
abbrev sOpn : Stmt := topS 54
theorem scFre : FnScope ["pen", "at", "cell", "one", "two", "mixed", "other"] ["pen"] (defScope sFre) := ⟨rfl, rfl, rfl, by decide +kernel, rfl, by decide +kernel, by decide +kernel⟩
theorem scDrw : FnScope ["pen", "many", "found"] ["pen", "many"] (defScope sDrw) := ⟨rfl, rfl, rfl, by decide +kernel, rfl, by decide +kernel, by decide +kernel⟩
theorem scOpn : FnScope ["script"] ["script"] (defScope sOpn) := ⟨rfl, rfl, rfl, by decide +kernel, rfl, by decide +kernel, by decide +kernel⟩
/-- the built-ins that stand as they stood -/
structure Zp (mg : Str → Option Value) : Prop where
  z_len : mg "len" = none
  z_list : mg "list" = none
/-- what lies at f: cells (at c), a place, a rest; at most B cells were taken -/
def Feed (H : Hp) (f c : Addr) (B : Nat) : Prop := ∃ (ns : List Int) (n : Nat) (r : Int),
  H f = some (.lst [.ref c, .int n, .int r]) ∧ H c = some (.lst (ns.map V.int)) ∧ ns.length ≤ 60 ∧ n ≤ B
/-- all but f is as it was -/
def But (f : Addr) (H H' : Hp) : Prop := ∀ b, b ≠ f → H' b = H b
theorem But.refl (f : Addr) (H : Hp) : But f H H := fun _ _ => rfl
theorem But.trans {f : Addr} {H H1 H2 : Hp} (a : But f H H1) (b : But f H1 H2) : But f H H2 := fun x n => (b x n).trans (a x n)
theorem Feed.mono {H : Hp} {f c : Addr} {B B' : Nat} (h : Feed H f c B) (l : B ≤ B') : Feed H f c B' := by
  obtain ⟨ns, n, r, h1, h2, h3, h4⟩ := h
  exact ⟨ns, n, r, h1, h2, h3, Nat.le_trans h4 l⟩
theorem Feed.same {H H' : Hp} {f c : Addr} {B : Nat} (h : Feed H f c B) (s : Same H H') : Feed H' f c B := by
  obtain ⟨ns, n, r, h1, h2, h3, h4⟩ := h
  exact ⟨ns, n, r, s _ _ h1, s _ _ h2, h3, h4⟩
theorem Feed.upd {H : Hp} {f c D : Addr} {B : Nat} {o : HO} (h : Feed H f c B) (nf : D ≠ f) (nc : D ≠ c) : Feed (upd H D o) f c B := by
  obtain ⟨ns, n, r, h1, h2, h3, h4⟩ := h
  exact ⟨ns, n, r, by rw [upd_ne (Ne.symm nf)]; exact h1, by rw [upd_ne (Ne.symm nc)]; exact h2, h3, h4⟩
theorem Feed.nf {H : Hp} {f c D : Addr} {B : Nat} (h : Feed H f c B) (n : H D = none) : D ≠ f := by
  obtain ⟨_, _, _, h1, _⟩ := h
  exact Ne.symm (ne_of_none h1 n)
theorem Feed.nc {H : Hp} {f c D : Addr} {B : Nat} (h : Feed H f c B) (n : H D = none) : D ≠ c := by
  obtain ⟨_, _, _, _, h2, _⟩ := h
  exact Ne.symm (ne_of_none h2 n)
theorem feed_ne {H : Hp} {f c : Addr} {ns : List Int} {a : V} {as : List V} (h1 : H f = some (.lst (.ref c :: as))) (h2 : H c = some (.lst (ns.map V.int))) : c ≠ f := by
  intro e
  rw [e, h1] at h2
  have z := HO.lst.inj (Option.some.inj h2)
  cases ns with
  | nil => cases z
  | cons x r => cases z
section
variable {P : Program} {w : World} {K : PySem.W.Frag} {mg : Str → Option Value} {base : Heap}
/-- sopen(script) -/
def spOpn (K : PySem.W.Frag) : Sp := fun vs H Q _ => ∃ (a : Addr) (ns : List Int), vs = [.ref a] ∧ SqL K H a (ns.map V.int) ∧ ∀ (f c : Addr) (H' : Hp), H f = none → H c = none → Same H H' → Feed H' f c 0 → Q (.ref f) H'
theorem cut60 (ns : List Int) : cutV (ns.map V.int) none (some 60) = (ns.take 60).map V.int := by
  unfold cutV
  rw [HT.sIx_none, show HT.sIx (ns.map V.int).length (ns.map V.int).length (some 60) = min 60 (ns.map V.int).length from HT.sIx_nat _ _ 60]
  rw [List.drop_zero, Nat.sub_zero, List.map_take, List.length_map]
  by_cases h : ns.length ≤ 60
  · rw [Nat.min_eq_right h, List.take_of_length_le (by rw [List.length_map]; exact Nat.le_refl _), List.take_of_length_le (by rw [List.length_map]; exact h)]
  · rw [Nat.min_eq_left (by omega)]
theorem same_upd {H : Hp} {p : Addr} {o : HO} (h : H p = none) : Same H (upd H p o) := fun b x e => by
  rw [upd_ne (ne_of_none e h)]
  exact e
theorem ok_opn {f : Addr} {fd : FuncData} {k : Nat} (F : Fun K "_law_e_pen" "_law_e_pen" sOpn f fd) (ml : mg "list" = none) : FnOk P w K mg base CX0 (k + 1) f fd ["script"] (spOpn K) := by
  refine F.ok scOpn (fun vs H Q E h => ?_) (fun cdv A outer s H vs Q E hr h => ?_)
  · obtain ⟨a, ns, rfl, _⟩ := h
    rfl
  · obtain ⟨a, ns, rfl, hS, q⟩ := h
    refine ⟨_, pss_one (ps_ret (pe_lst (pa_cons (pe_callTy call_list_of (by rfl) ml (by decide +kernel) (pa_cons (pe_slice sl_list (pv 0) po_none (po_some pe_int)) pa_nil)) (pa_cons pe_int (pa_cons pe_int pa_nil))))), ?_⟩
    refine ⟨.ref a, rfl, 60, rfl, a, _, rfl, hS, fun c nc => ?_⟩
    refine ⟨c, _, rfl, .inl (.of upd_same), fun d nd => ?_⟩
    refine ⟨by show 3 ≤ sizeLine; decide, fun p np => ?_⟩
    have s1 : Same H (upd H c (.lst (cutV (ns.map V.int) none (some 60)))) := same_upd nc
    have s2 := s1.trans (same_upd (o := .lst (cutV (ns.map V.int) none (some 60))) nd)
    have s3 := s2.trans (same_upd (o := .lst [.ref d, .int 0, .int 0]) np)
    refine q p d _ (s2.free np) (s1.free nd) s3 ⟨ns.take 60, 0, 0, upd_same, ?_, ?_, Nat.le_refl _⟩
    · have ndp : d ≠ p := ne_of_none (upd_same (H := upd H c (.lst (cutV (ns.map V.int) none (some 60)))) (a := d) (o := .lst (cutV (ns.map V.int) none (some 60)))) np
      rw [upd_ne ndp, upd_same, cut60]
    · rw [List.length_take]
      omega
end
end Dr
namespace Kp
open PySem PySem.Spec PyProof.Rows L2 GxR Nw Dr
/-! ### what a call leaves as it was: all but the feed (F) and the tables of code objects -/
structure Ke (F : Addr → Prop) (H H' : Hp) : Prop where
  keep : ∀ b o, H b = some o → (∀ ps, o ≠ .tbl ps) → ¬ F b → H' b = some o
  tabs : ∀ P, TabG H P → TabG H' P
  tups : ∀ b xs, H b = some (.tup xs) → H' b = some (.tup xs)
abbrev Nof : Addr → Prop := fun _ => False
variable {F G : Addr → Prop} {H H1 H2 H' : Hp} {f c P : Addr} {B : Nat}
theorem Ke.refl (F : Addr → Prop) (H : Hp) : Ke F H H := ⟨fun _ _ h _ _ => h, fun _ h => h, fun _ _ h => h⟩
theorem Ke.trans (a : Ke F H H1) (b : Ke F H1 H2) : Ke F H H2 := ⟨fun x o h n m => b.keep x o (a.keep x o h n m) n m, fun Q h => b.tabs Q (a.tabs Q h), fun x xs h => b.tups x xs (a.tups x xs h)⟩
theorem Ke.mono (a : Ke F H H1) (h : ∀ b, F b → G b) : Ke G H H1 := ⟨fun x o e n m => a.keep x o e n fun z => m (h x z), a.tabs, a.tups⟩
theorem Ke.all (a : Ke Nof H H1) : Ke F H H1 := a.mono fun _ z => z.elim
theorem Ke.same (s : Same H H1) : Ke F H H1 := ⟨fun b o e _ _ => s b o e, fun Q ⟨ps, h, t⟩ => ⟨ps, s _ _ h, t⟩, fun b xs e => s _ _ e⟩
theorem Ke.lst {a : Addr} {xs : List V} (k : Ke F H H1) (h : H a = some (.lst xs)) (n : ¬ F a) : H1 a = some (.lst xs) := k.keep a _ h (fun ps z => by cases z) n
theorem Ke.tabbed (t : TabG H P) (x : Tabbed P H H1) : Ke F H H1 := by
  obtain ⟨ps, hP, _⟩ := t
  have nP : ∀ b o, H b = some o → (∀ qs, o ≠ .tbl qs) → b ≠ P := fun b o e n z => by
    rw [z, hP] at e
    exact n ps (Option.some.inj e).symm
  refine ⟨fun b o e n _ => (x.2 b (nP b o e n)).trans e, fun Q hQ => ?_, fun b xs e => (x.2 b (nP b _ e fun qs z => by cases z)).trans e⟩
  by_cases hq : Q = P
  · rw [hq]
    exact x.1
  · obtain ⟨qs, h1, h2⟩ := hQ
    exact ⟨qs, (x.2 Q hq).trans h1, h2⟩
theorem Ke.but (h : Feed H f c B) (b : But f H H1) : Ke (· = f) H H1 := by
  obtain ⟨ns, n, r, h1, _⟩ := h
  refine ⟨fun x o e _ m => (b x m).trans e, fun Q ⟨qs, e, t⟩ => ⟨qs, (b Q fun z => ?_).trans e, t⟩, fun x xs e => (b x fun z => ?_).trans e⟩
  · rw [z, h1] at e
    cases e
  · rw [z, h1] at e
    cases e
/-- a write to an object of ours that was new behind H -/
theorem Ke.upd {p : Addr} {o : HO} (k : Ke F H H1) (n : H p = none) : Ke F H (upd H1 p o) := by
  refine ⟨fun b x e t m => ?_, fun Q hQ => ?_, fun b xs e => ?_⟩
  · rw [upd_ne (ne_of_none e n)]
    exact k.keep b x e t m
  · obtain ⟨ps, e, t⟩ := hQ
    obtain ⟨qs, e2, t2⟩ := k.tabs Q ⟨ps, e, t⟩
    exact ⟨qs, by rw [upd_ne (ne_of_none e n)]; exact e2, t2⟩
  · rw [upd_ne (ne_of_none e n)]
    exact k.tups b xs e
theorem Ke.feed (k : Ke Nof H H1) (h : Feed H f c B) : Feed H1 f c B := by
  obtain ⟨ns, n, r, h1, h2, h3, h4⟩ := h
  exact ⟨ns, n, r, k.lst h1 (fun z => z), k.lst h2 (fun z => z), h3, h4⟩
/-- p holds nothing that H knows (but a table, perhaps) -/
def Frs (H : Hp) (p : Addr) : Prop := ∀ b o, H b = some o → (∀ ps, o ≠ .tbl ps) → b ≠ p
theorem Frs.of {p : Addr} (h : H p = none) : Frs H p := fun b o e _ => ne_of_none e h
theorem Frs.ke {p : Addr} (k : Ke (· = f) H H1) (hF : Feed H1 f c B) (h : Frs H1 p) : Frs H p := fun b o e n => by
  by_cases hb : b = f
  · obtain ⟨_, _, _, h1, _⟩ := hF
    rw [hb]
    exact h f _ h1 fun ps z => by cases z
  · exact h b o (k.keep b o e n hb) n
theorem Frs.ke0 {p : Addr} (k : Ke Nof H H1) (h : Frs H1 p) : Frs H p := fun b o e n => h b o (k.keep b o e n fun z => z) n
theorem Ke.write {p : Addr} {xs : List V} {o : HO} (k : Ke F H H1) (fr : Frs H p) (h1 : H1 p = some (.lst xs)) : Ke F H (L2.upd H1 p o) := by
  refine ⟨fun b x e t m => ?_, fun Q hQ => ?_, fun b ys e => ?_⟩
  · rw [upd_ne (fr b x e t)]
    exact k.keep b x e t m
  · obtain ⟨qs, e2, t2⟩ := k.tabs Q hQ
    have n : Q ≠ p := fun z => by
      rw [z, h1] at e2
      cases e2
    exact ⟨qs, by rw [upd_ne n]; exact e2, t2⟩
  · rw [upd_ne (fr b _ e fun ps z => by cases z)]
    exact k.tups b ys e
/-- whole numbers in a tuple, truths in a tuple -/
def TupI (H : Hp) (v : V) (ns : List Int) : Prop := ∃ a, v = .ref a ∧ H a = some (.tup (ns.map V.int))
def TupB (H : Hp) (v : V) (bs : List Bool) : Prop := ∃ a, v = .ref a ∧ H a = some (.tup (bs.map V.bl))
def LstI (H : Hp) (v : V) (ns : List Int) : Prop := ∃ a, v = .ref a ∧ H a = some (.lst (ns.map V.int))
/-- a tuple of claims -/
def Bk (H : Hp) (v : V) (css : List (List Int)) : Prop := ∃ a vs, v = .ref a ∧ H a = some (.tup vs) ∧ vs.length = css.length ∧ ∀ (i : Nat) (x : V) (cs : List Int), vs[i]? = some x → css[i]? = some cs → TupI H x cs
theorem TupI.ke {v : V} {ns : List Int} (h : TupI H v ns) (k : Ke F H H1) : TupI H1 v ns := by
  obtain ⟨a, e, h⟩ := h
  exact ⟨a, e, k.tups _ _ h⟩
theorem TupB.ke {v : V} {ns : List Bool} (h : TupB H v ns) (k : Ke F H H1) : TupB H1 v ns := by
  obtain ⟨a, e, h⟩ := h
  exact ⟨a, e, k.tups _ _ h⟩
theorem Bk.ke {v : V} {css : List (List Int)} (h : Bk H v css) (k : Ke F H H1) : Bk H1 v css := by
  obtain ⟨a, vs, e, h, l, t⟩ := h
  exact ⟨a, vs, e, k.tups _ _ h, l, fun i x cs h1 h2 => (t i x cs h1 h2).ke k⟩
/-! ### claims -/
def rising : List Int → Bool
  | a :: b :: r => decide (a < b) && rising (b :: r)
  | _ => true
structure IsCl (cs : List Int) : Prop where
  up : cs.Pairwise (· < ·)
  says : ∀ k ∈ cs, k ≠ 0 ∧ -8 ≤ k ∧ k ≤ 8
  opp : ∀ k ∈ cs, -k ∉ cs
  len : cs.length ≤ 8
theorem IsCl.nil : IsCl [] := { up := .nil, says := fun _ h => (nomatch h), opp := fun _ h => (nomatch h), len := by decide }
end Kp
namespace Dr
open PySem PySem.Spec PyProof.Rows L2 Nw Kp
theorem pick7 (n : Nat) : ∃ one : Int, 2147483500 < one ∧ one < 2147483648 ∧ atI [V.int 2147483647, V.int 2147483629, V.int 2147483587, V.int 2147483579, V.int 2147483563, V.int 2147483549, V.int 2147483543] ((n : Int) % 7) = some (.int one) := by
  have h : (n : Int) % 7 = 0 ∨ (n : Int) % 7 = 1 ∨ (n : Int) % 7 = 2 ∨ (n : Int) % 7 = 3 ∨ (n : Int) % 7 = 4 ∨ (n : Int) % 7 = 5 ∨ (n : Int) % 7 = 6 := by omega
  rcases h with h | h | h | h | h | h | h <;> rw [h] <;> exact ⟨_, by decide, by decide, rfl⟩
theorem pick5 (n : Nat) : ∃ two : Int, 2147483390 < two ∧ two < 2147483648 ∧ atI [V.int 2147483497, V.int 2147483489, V.int 2147483477, V.int 2147483423, V.int 2147483399] ((n : Int) % 5) = some (.int two) := by
  have h : (n : Int) % 5 = 0 ∨ (n : Int) % 5 = 1 ∨ (n : Int) % 5 = 2 ∨ (n : Int) % 5 = 3 ∨ (n : Int) % 5 = 4 := by omega
  rcases h with h | h | h | h | h <;> rw [h] <;> exact ⟨_, by decide, by decide, rfl⟩
section
variable {P : Program} {w : World} {K : PySem.W.Frag} {mg : Str → Option Value} {base : Heap}
/-- fresh(pen): any number -/
def spFre : Sp := fun vs H Q _ => ∃ (f c : Addr) (B : Nat), vs = [.ref f] ∧ Feed H f c B ∧ B ≤ 2 ^ 28 ∧ ∀ (r : Int) (H' : Hp), Feed H' f c (B + 1) → Ke (· = f) H H' → Q (.int r) H'
set_option exponentiation.threshold 4000 in
theorem ok_fre {f : Addr} {fd : FuncData} {k : Nat} (F : Fun K "_law_e_fresh" "_law_e_fresh" sFre f fd) (T : Zp mg) : FnOk P w K mg base CX0 (k + 1) f fd ["pen"] spFre := by
  refine F.ok scFre (fun vs H Q E h => ?_) (fun cdv A outer s H vs Q E hr h => ?_)
  · obtain ⟨f, c, B, rfl, _⟩ := h
    rfl
  · obtain ⟨f, c, B, rfl, hF, hB, q⟩ := h
    obtain ⟨ns, n, r, h1, h2, h3, h4⟩ := id hF
    have hcf : c ≠ f := feed_ne (a := .non) h1 h2
    have hS : SqL K H f [.ref c, .int n, .int r] := .of h1
    have n28 : n ≤ 268435456 := Nat.le_trans h4 hB
    refine ⟨_, (pss_cons (ps_set (i := 1) scFre.nd rfl (.inl rfl) (pe_ix ix_list (pv 0) pe_int (fun _ _ => rfl)))
      (Evl.pss_cut (ps_asg (pe_op op_add (pv 1) pe_int) (pg_sub (pv 0) pe_int set_list))
      (pss_cons (ps_set (i := 2) scFre.nd rfl (.inl rfl) pe_int)
      (Evl.pss_cut (ps_if (pt_cmpR (op_neD hr.units) (pe_ix ix_list (pv 0) pe_int (fun _ _ => rfl)) (pe_lstN pa_nil) (nomark _)) (pss_one (ps_set (i := 2) scFre.nd rfl (.inl rfl) (pe_op op_fdiv (pe_ix ix_list (pe_ix ix_list (pv 0) pe_int (fun _ _ => rfl)) (pe_op op_mod (pe_op op_mul (pv 1) pe_int) (pe_callB call_len_seq (by rfl) T.z_len (by decide +kernel) (pa_cons (pe_ix ix_list (pv 0) pe_int (fun _ _ => rfl)) pa_nil))) (fun _ _ => rfl)) (pe_op op_add pe_int (pe_op op_fdiv (pv 1) (pe_callB call_len_seq (by rfl) T.z_len (by decide +kernel) (pa_cons (pe_ix ix_list (pv 0) pe_int (fun _ _ => rfl)) pa_nil))))))) pss_nil)
      (Evl.pss_cut (ps_if (pt_cmpR op_lt (pv 1) (pe_callB call_len_seq (by rfl) T.z_len (by decide +kernel) (pa_cons (pe_ix ix_list (pv 0) pe_int (fun _ _ => rfl)) pa_nil)) (nomark _)) (pss_one (ps_set (i := 2) scFre.nd rfl (.inl rfl) (pe_ix ix_list (pe_ix ix_list (pv 0) pe_int (fun _ _ => rfl)) (pv 1) (fun _ _ => rfl)))) pss_nil)
      (pss_cons (ps_if (pt_cmpR op_ge (pv 2) (pe_op op_pow pe_int pe_int) (nomark _)) (pss_one (ps_ret (pv 2))) pss_nil)
      (Evl.pss_cut (ps_set (i := 3) scFre.nd rfl (.inl rfl) (pe_ix ix_list (pe_lstN (pa_cons pe_int (pa_cons pe_int (pa_cons pe_int (pa_cons pe_int (pa_cons pe_int (pa_cons pe_int (pa_cons pe_int pa_nil)))))))) (pe_op op_mod (pv 1) pe_int) (fun _ _ => rfl)))
      (Evl.pss_cut (ps_set (i := 4) scFre.nd rfl (.inl rfl) (pe_ix ix_list (pe_lstN (pa_cons pe_int (pa_cons pe_int (pa_cons pe_int (pa_cons pe_int (pa_cons pe_int pa_nil)))))) (pe_op op_mod (pv 1) pe_int) (fun _ _ => rfl)))
      (Evl.pss_cut (ps_set (i := 5) scFre.nd rfl (.inl rfl) (pe_op op_mod (pe_op op_pow (pe_op op_add (pe_op op_add (pe_op op_mod (pv 2) (pv 3)) (pe_op op_mul pe_int (pv 1))) pe_int) pe_int) (pv 3)))
      (Evl.pss_cut (ps_set (i := 6) scFre.nd rfl (.inl rfl) (pe_op op_mod (pe_op op_pow (pe_op op_add (pe_op op_add (pv 5) (pe_op op_mod (pv 2) (pv 4))) (pe_op op_mul (pv 1) (pv 1))) pe_int) (pv 4)))
      (pss_one (ps_ret (pe_op op_add (pe_op op_mul (pe_op op_add (pv 5) pe_int) (pv 4)) (pv 6)))))))))))))), ?_⟩
    refine ⟨.ref f, rfl, f, _, 1, _, rfl, rfl, hS, rfl, ?_⟩
    -- pen[1] = at + 1
    refine Evl.q_cut (M := fun σ' H' => σ' = [some (.ref f), some (.int n), none, none, none, none, none] ∧ H' f = some (.lst [.ref c, .int ((n + 1 : Nat) : Int), .int r]) ∧ H' c = some (.lst (ns.map V.int)) ∧ Ke (· = f) H H') ?_ ?_
    · refine ⟨_, rfl, _, _, rfl, rfl, _, rfl, f, _, 1, 1, rfl, rfl, h1, rfl, rfl, upd_same, by rw [upd_ne hcf]; exact h2, .but hF fun b nb => upd_ne nb⟩
    rintro σ' H1 ⟨rfl, f1, c1, k1⟩
    have F1 : Feed H1 f c (B + 1) := ⟨ns, n + 1, r, f1, c1, h3, by omega⟩
    have hS1 : SqL K H1 f [.ref c, .int ((n + 1 : Nat) : Int), .int r] := .of f1
    have hC1 : SqL K H1 c (ns.map V.int) := .of c1
    -- cell
    refine Evl.q_cut (M := fun σ' H' => ∃ z : Int, σ' = [some (.ref f), some (.int n), some (.int z), none, none, none, none] ∧ Same H1 H') ?_ ?_
    · refine ⟨.ref f, rfl, f, _, 0, _, rfl, rfl, hS1, rfl, Nat.zero_le _, fun p H2 np s2 hp _ => ?_⟩
      have hS2 : SqL K H2 f [.ref c, .int ((n + 1 : Nat) : Int), .int r] := .of (s2 _ _ f1)
      have hC2 : SqL K H2 c (ns.map V.int) := .of (s2 _ _ c1)
      refine ⟨_, _, .lst hC2 (dp_ints ns), .lst (.of hp) .nil, shaped_list (flat_ints _), shaped_list rfl, _, rfl, ite2 (fun e => ?_) (fun e => ?_)⟩
      · have l0 : 0 < ns.length := by
          cases ns with
          | nil => exact absurd e (by decide)
          | cons a b => exact Nat.succ_pos _
        have l1 : n * 7 % ns.length < ns.length := Nat.mod_lt _ l0
        refine ⟨.ref f, rfl, f, _, 0, _, rfl, rfl, hS2, rfl, _, rfl, _, _, rfl, rfl, .inr ⟨by decide, by decide⟩, .ref f, rfl, f, _, 0, _, rfl, rfl, hS2, rfl, c, _, rfl, .inl hC2, _, _, rfl, rfl, ?_, c, _, _, .int (ns[n * 7 % ns.length]), rfl, rfl, hC2, ?_, ?_⟩
        · show (0 : Int) < ((ns.map V.int).length : Int)
          rw [List.length_map]
          omega
        · refine at_of (j := n * 7 % ns.length) ?_ ?_
          · rw [List.length_map, Int.natCast_emod, Int.natCast_mul]
            rfl
          · rw [List.getElem?_map, List.getElem?_eq_getElem l1]
            rfl
        · refine ⟨_, rfl, .ref f, rfl, f, _, 0, _, rfl, rfl, hS2, rfl, c, _, rfl, .inl hC2, _, _, rfl, rfl, ⟨?_, ?_⟩, _, _, rfl, rfl, _, _, rfl, rfl, ⟨?_, ?_⟩, _, rfl, s2⟩
          · show (0 : Int) < ((ns.map V.int).length : Int)
            rw [List.length_map]
            omega
          · show ((ns.map V.int).length : Int) < 1073741824
            rw [List.length_map]
            omega
          · show (0 : Int) < 1 + (n : Int) / ((ns.map V.int).length : Int)
            have : (0 : Int) ≤ (n : Int) / ((ns.map V.int).length : Int) := Int.ediv_nonneg (by omega) (by omega)
            omega
          · show 1 + (n : Int) / ((ns.map V.int).length : Int) < 1073741824
            have : (n : Int) / ((ns.map V.int).length : Int) ≤ n := Int.ediv_le_self _ (by omega)
            omega
      · exact ⟨_, rfl, s2⟩
    rintro σ' H2 ⟨z, rfl, s2⟩
    have hS2 : SqL K H2 f [.ref c, .int ((n + 1 : Nat) : Int), .int r] := .of (s2 _ _ f1)
    have hC2 : SqL K H2 c (ns.map V.int) := .of (s2 _ _ c1)
    refine Evl.q_cut (M := fun σ' H' => ∃ z : Int, σ' = [some (.ref f), some (.int n), some (.int z), none, none, none, none] ∧ H' = H2) ?_ ?_
    · refine ⟨_, rfl, .ref f, rfl, f, _, 0, _, rfl, rfl, hS2, rfl, c, _, rfl, .inl hC2, _, _, rfl, rfl, _, rfl, ite2 (fun e => ?_) (fun e => ?_)⟩
      · have l1 : n < ns.length := by
          have e : (n : Int) < ((ns.map V.int).length : Int) := of_decide_eq_true e
          rw [List.length_map] at e
          omega
        refine ⟨.ref f, rfl, f, _, 0, _, rfl, rfl, hS2, rfl, _, rfl, c, _, _, .int (ns[n]), rfl, rfl, hC2, ?_, _, rfl, rfl⟩
        refine at_of (j := n) rfl ?_
        rw [List.getElem?_map, List.getElem?_eq_getElem l1]
        rfl
      · exact ⟨_, rfl, rfl⟩
    clear z
    rintro σ' H' ⟨z, rfl, rfl⟩
    have F2 := F1.same s2
    have k2 : Ke (· = f) H H' := k1.trans (.same s2)
    refine ⟨_, rfl, _, _, rfl, rfl, ⟨by decide, by decide, by decide⟩, _, _, rfl, rfl, _, rfl, ite2 (fun e => ⟨_, rfl, q z H' F2 k2⟩) (fun e => ?_)⟩
    -- one
    obtain ⟨one, o1, o2, ha⟩ := pick7 n
    refine Evl.q_cut (M := fun σ' H2 => σ' = [some (.ref f), some (.int n), some (.int z), some (.int one), none, none, none] ∧ Same H' H2) ?_ ?_
    · refine ⟨by show 7 ≤ sizeLine; decide, fun p H3 np s3 hp _ => ?_⟩
      exact ⟨_, rfl, _, _, rfl, rfl, by show (0 : Int) < 7; decide, p, _, _, .int one, rfl, rfl, .of hp, ha, rfl, s3⟩
    rintro σ' H3 ⟨rfl, s3⟩
    obtain ⟨two, t1, t2, hb⟩ := pick5 n
    refine Evl.q_cut (M := fun σ' H2 => σ' = [some (.ref f), some (.int n), some (.int z), some (.int one), some (.int two), none, none] ∧ Same H' H2) ?_ ?_
    · refine ⟨by show 5 ≤ sizeLine; decide, fun p H4 np s4 hp _ => ?_⟩
      exact ⟨_, rfl, _, _, rfl, rfl, by show (0 : Int) < 5; decide, p, _, _, .int two, rfl, rfl, .of hp, hb, rfl, s3.trans s4⟩
    rintro σ' H4 ⟨rfl, s4⟩
    have z1 : 0 ≤ z % one := Int.emod_nonneg _ (by omega)
    have z2 : z % one < one := Int.emod_lt_of_pos _ (by omega)
    have z3 : 0 ≤ z % two := Int.emod_nonneg _ (by omega)
    have z4 : z % two < two := Int.emod_lt_of_pos _ (by omega)
    refine Evl.q_cut (M := fun σ' H2 => ∃ mx : Int, σ' = [some (.ref f), some (.int n), some (.int z), some (.int one), some (.int two), some (.int mx), none] ∧ H2 = H4 ∧ 0 ≤ mx ∧ mx < one) ?_ ?_
    · refine ⟨_, rfl, _, rfl, _, _, rfl, rfl, (by show (0 : Int) < one; omega), _, rfl, _, _, rfl, rfl, .inl ⟨by decide, by decide⟩, _, _, rfl, rfl, _, _, rfl, rfl, _, _, rfl, rfl, ⟨by decide, by decide, ?_⟩, _, rfl, _, _, rfl, rfl, (by show (0 : Int) < one; omega), _, rfl, rfl, Int.emod_nonneg _ (by omega), Int.emod_lt_of_pos _ (by omega)⟩
      show (z % one + 31 * (n : Int) + 5).natAbs < 18446744073709551616
      omega
    rintro σ' H5 ⟨mx, rfl, rfl, m1, m2⟩
    refine Evl.q_cut (M := fun σ' H2 => ∃ ot : Int, σ' = [some (.ref f), some (.int n), some (.int z), some (.int one), some (.int two), some (.int mx), some (.int ot)] ∧ H2 = H5) ?_ ?_
    · refine ⟨_, rfl, _, rfl, _, rfl, _, _, rfl, rfl, (by show (0 : Int) < two; omega), _, _, rfl, rfl, _, rfl, _, rfl, _, _, rfl, rfl, .inl ⟨by omega, by omega⟩, _, _, rfl, rfl, _, _, rfl, rfl, ⟨by decide, by decide, ?_⟩, _, rfl, _, _, rfl, rfl, (by show (0 : Int) < two; omega), _, rfl, rfl⟩
      show (mx + z % two + (n : Int) * (n : Int)).natAbs < 18446744073709551616
      have : (n : Int) * (n : Int) ≤ 268435456 * 268435456 := Int.mul_le_mul (by omega) (by omega) (by omega) (by omega)
      have : 0 ≤ (n : Int) * (n : Int) := Int.mul_nonneg (by omega) (by omega)
      omega
    rintro σ' H6 ⟨ot, rfl, rfl⟩
    exact ⟨_, rfl, _, _, rfl, rfl, _, rfl, _, _, rfl, rfl, .inl ⟨by omega, by omega⟩, _, rfl, _, _, rfl, rfl, q _ _ (F2.same s4) (k2.trans (.same s4))⟩
/-- take(pen, many): any number from 0 to many - 1 -/
def spDrw : Sp := fun vs H Q _ => ∃ (f c : Addr) (m : Int) (B : Nat), vs = [.ref f, .int m] ∧ 0 < m ∧ m < 2 ^ 29 ∧ Feed H f c B ∧ B ≤ 2 ^ 28 ∧
  ∀ (d : Int) (H' : Hp), 0 ≤ d → d < m → Feed H' f c (B + 1) → Ke (· = f) H H' → Q (.int d) H'
theorem ok_drw {f fM : Addr} {fd fdM : FuncData} {k : Nat} (F : Fun K "_law_e_take" "_law_e_take" sDrw f fd) (FM : Fun K "_law_e_fresh" "_law_e_fresh" sFre fM fdM) (bM : Binds K fdM ["pen"] []) (gM : mg "_law_e_fresh" = some (.ref fM)) (T : Zp mg) :
    FnOk P w K mg base CX0 (k + 2) f fd ["pen", "many"] spDrw := by
  have GM : FnOk P w K mg base CX0 1 fM fdM ["pen"] spFre := ok_fre FM T
  refine F.ok scDrw (fun vs H Q E h => ?_) (fun cdv A outer s H vs Q E hr h => ?_)
  · obtain ⟨f, c, m, B, rfl, _⟩ := h
    rfl
  · obtain ⟨f, c, m, B, rfl, m0, m1, hF, hB, q⟩ := h
    have hr1 : Room 1 _ := hr.mono (by omega)
    obtain ⟨ns, n, r, h1, h2, h3, h4⟩ := id hF
    have hcf : c ≠ f := feed_ne (a := .non) h1 h2
    have hS : SqL K H f [.ref c, .int n, .int r] := .of h1
    refine ⟨_, (Evl.pss_cut (ps_if (pt_cmpR op_lt (pe_ix ix_list (pv 0) pe_int (fun _ _ => rfl)) (pv 1) (nomark _)) (pss_one (ps_asg (pe_call GM hr1 (by rfl) gM FM.kp bM .nil pass0 (pa_cons (pv 0) pa_nil)) (pg_sub (pv 0) pe_int set_list))) pss_nil)
      (pss_cons (ps_set (i := 2) scDrw.nd rfl (.inl rfl) (pe_op op_mod (pe_ix ix_list (pv 0) pe_int (fun _ _ => rfl)) (pv 1)))
      (pss_cons (ps_asg (pe_op op_fdiv (pe_ix ix_list (pv 0) pe_int (fun _ _ => rfl)) (pv 1)) (pg_sub (pv 0) pe_int set_list))
      (pss_one (ps_ret (pv 2)))))), ?_⟩
    refine Evl.q_cut (M := fun σ' H' => σ' = [some (.ref f), some (.int m), none] ∧ Feed H' f c (B + 1) ∧ Ke (· = f) H H') ?_ ?_
    · refine ⟨.ref f, rfl, f, _, 2, _, rfl, rfl, hS, rfl, .int m, rfl, _, _, rfl, rfl, _, rfl, ite2 (fun e => ?_) (fun e => ?_)⟩
      · refine ⟨_, rfl, f, c, B, rfl, hF, hB, fun r2 H2 F2 k2 => ?_⟩
        obtain ⟨ns2, n2, r3, e1, e2, e3, e4⟩ := id F2
        have hcf2 : c ≠ f := feed_ne (a := .non) e1 e2
        refine ⟨_, rfl, f, _, 2, 2, rfl, rfl, e1, rfl, rfl, ⟨ns2, n2, r2, upd_same, by rw [upd_ne hcf2]; exact e2, e3, e4⟩, k2.trans (.but F2 fun b nb => upd_ne nb)⟩
      · exact ⟨rfl, hF.mono (by omega), .refl _ _⟩
    rintro σ' H' ⟨rfl, F1, k1⟩
    obtain ⟨ns2, n2, r3, e1, e2, e3, e4⟩ := id F1
    have hcf2 : c ≠ f := feed_ne (a := .non) e1 e2
    have hS1 : SqL K H' f [.ref c, .int n2, .int r3] := .of e1
    refine ⟨.ref f, rfl, f, _, 2, _, rfl, rfl, hS1, rfl, .int m, rfl, _, _, rfl, rfl, m0, ?_⟩
    refine ⟨.ref f, rfl, f, _, 2, _, rfl, rfl, hS1, rfl, .int m, rfl, _, _, rfl, rfl, ⟨m0, by omega⟩, .ref f, rfl, f, _, 2, 2, rfl, rfl, e1, rfl, ?_⟩
    exact ⟨_, rfl, q (r3 % m) _ (Int.emod_nonneg _ (by omega)) (Int.emod_lt_of_pos _ m0) ⟨ns2, n2, r3 / m, upd_same, by rw [upd_ne hcf2]; exact e2, e3, e4⟩ (k1.trans (.but F1 fun b nb => upd_ne nb))⟩
end
end Dr
namespace Se
open PySem PySem.Spec PyProof.Rows L2 GxR Nw Dr Kp
/-- a def of the text whose code object stands at c -/
structure FunC (K : PySem.W.Frag) (x qual : Str) (st : Stmt) (f c : Addr) (fd : FuncData) : Prop where
  ex : ∃ (oc : Value) (od : Option Addr) (kV doc pm : Value) (an : Option Addr) (ct : Value) (osl : Array (Option Value)), fd = PySem.W.fnOf x qual (defArgs st) (defBody st) (defScope st) .none kV doc pm an (.ref c) ct ∧ K.lookup f = some ⟨oc, od, .func fd, osl⟩ ∧ PySem.W.codeIn K (.ref c) qual = true
  kp : PySem.W.keepIn K (.ref f) = true
section
variable {P : Program} {w : World} {K : PySem.W.Frag} {mg : Str → Option Value} {base : Heap}
theorem FunC.fn {x qual : Str} {st : Stmt} {f c : Addr} {fd : FuncData} (F : FunC K x qual st f c fd) : Fun K x qual st f fd := by
  obtain ⟨oc, od, kV, doc, pm, an, ct, osl, e, l, cd⟩ := F.ex
  exact ⟨⟨oc, od, kV, doc, pm, an, .ref c, ct, osl, e, l, cd⟩, F.kp⟩
theorem FunC.ok {x qual : Str} {st : Stmt} {f c : Addr} {fd : FuncData} {N ps : List Str} {k : Nat} {sp : Sp} (F : FunC K x qual st f c fd) (S : FnScope N ps (defScope st)) (len : ∀ vs H Q E, sp vs H Q E → vs.length = ps.length)
    (body : ∀ (A : Around) (outer : List Env) (s : Shared) (H : Hp) (vs : List V) (Q : VK) (E : XK), Room k (A.deeper (envOfC qual (defScope st) s.heap.objs.size f (.ref c))) → sp vs H Q E →
      ∃ t, PSs (cxOf CX0 P w K mg base N qual (defScope st) f (.ref c) A outer s H E).nox (defBody st) t ∧ t { nx := fun _ H' => Q .non H', rt := Q } (start N vs) H) : FnOk P w K mg base CX0 (k + 1) f fd ps sp := by
  obtain ⟨oc, od, kV, doc, pm, an, ct, osl, rfl, lk, hcd⟩ := F.ex
  refine fn_of lk hcd S len fun A outer s H vs Q E hr hsp => ?_
  obtain ⟨t, h, q⟩ := body A outer s H vs Q E hr hsp
  exact ⟨t, h.nox, q⟩
end
/-! ### settings -/
structure Zt (mg : Str → Option Value) : Prop where
  z_len : mg "len" = none
  z_abs : mg "abs" = none
  z_any : mg "any" = none
  z_all : mg "all" = none
  z_tuple : mg "tuple" = none
  z_range : mg "range" = none
/-- the say k holds -/
def sh (bs : List Bool) (k : Int) : Bool := bs.getD (k.natAbs - 1) false == decide (0 < k)
def Says (cs : List Int) : Prop := ∀ k ∈ cs, k ≠ 0 ∧ -8 ≤ k ∧ k ≤ 8
abbrev sShd : Stmt := topS 47
abbrev sHol : Stmt := topS 48
theorem scShd : FnScope ["say", "setting", "place", "so"] ["say", "setting"] (defScope sShd) := ⟨rfl, rfl, rfl, by decide +kernel, rfl, by decide +kernel, by decide +kernel⟩
abbrev nHol : List Str := ["claim", "setting", "say"]
theorem scHol : FnScope nHol ["claim", "setting"] (defScope sHol) := ⟨rfl, rfl, rfl, by decide +kernel, rfl, by decide +kernel, by decide +kernel⟩
section
variable {P : Program} {w : World} {K : PySem.W.Frag} {mg : Str → Option Value} {base : Heap}
def spShd : Sp := fun vs H Q _ => ∃ (k : Int) (u : V) (bs : List Bool), vs = [.int k, u] ∧ TupB H u bs ∧ bs.length = 8 ∧ k ≠ 0 ∧ -8 ≤ k ∧ k ≤ 8 ∧ Q (.bl (sh bs k)) H
theorem ok_shd {f : Addr} {fd : FuncData} {k : Nat} (F : Fun K "say_holds" "say_holds" sShd f fd) (T : Zt mg) : FnOk P w K mg base CX0 (k + 1) f fd ["say", "setting"] spShd := by
  refine F.ok scShd (fun vs H Q E h => ?_) (fun cdv A outer s H vs Q E hr h => ?_)
  · obtain ⟨k, u, bs, rfl, _⟩ := h
    rfl
  · obtain ⟨k, u, bs, rfl, ⟨a, rfl, ha⟩, l8, k0, k1, k2, q⟩ := h
    refine ⟨_, (pss_cons (ps_set (i := 2) scShd.nd rfl (.inl rfl) (pe_op op_sub (pe_callB call_abs (by rfl) T.z_abs (by decide +kernel) (pa_cons (pv 0) pa_nil)) pe_int))
      (pss_cons (ps_set (i := 3) scShd.nd rfl (.inl rfl) (pe_and (pe_chain op_le op_lt pe_int (pv 2) (pe_callB call_len_seq (by rfl) T.z_len (by decide +kernel) (pa_cons (pv 1) pa_nil))) (pe_one (pe_ix ix_tup (pv 1) (pv 2) (fun _ _ => rfl)))))
      (pss_one (ps_ret (pe_cmpR op_eq (pv 3) (pe_cmpR op_gt (pv 0) pe_int (nomark _)) (nomark _)))))), ?_⟩
    have e : (if k < 0 then -k else k) = (k.natAbs : Int) := by
      split <;> omega
    refine ⟨_, rfl, k, rfl, _, _, rfl, rfl, ?_⟩
    rw [e]
    have lt : k.natAbs - 1 < bs.length := by omega
    refine ⟨_, rfl, 0, _, rfl, rfl, true, congrArg V.bl (decide_eq_true (by omega)), _, rfl, a, _, rfl, .inr (.of ha), _, _, rfl, rfl, true, congrArg V.bl (decide_eq_true (by rw [List.length_map]; omega)), ?_⟩
    refine ⟨_, rfl, _, rfl, a, _, _, .bl bs[k.natAbs - 1], rfl, rfl, .of ha, at_of (j := k.natAbs - 1) (by omega) (by rw [List.getElem?_map, List.getElem?_eq_getElem lt]; rfl), ?_⟩
    refine ⟨_, rfl, _, rfl, _, _, rfl, rfl, rfl, ?_⟩
    have z : decide (V.bl bs[k.natAbs - 1] = V.bl (decide (0 < k))) = sh bs k := by
      unfold sh
      rw [List.getD_eq_getElem?_getD, List.getElem?_eq_getElem lt, Option.getD_some]
      cases bs[k.natAbs - 1] <;> cases decide (0 < k) <;> rfl
    rw [z]
    exact q
def spHol (P : Addr) : Sp := fun vs H Q _ => ∃ (v u : V) (cs : List Int) (bs : List Bool), vs = [v, u] ∧ TupI H v cs ∧ TupB H u bs ∧ bs.length = 8 ∧ Says cs ∧ TabG H P ∧ ∀ H', Ke Nof H H' → Q (.bl (cs.any (sh bs))) H'
theorem any_take {α : Type} {f : α → Bool} {l : List α} {i : Nat} {x : α} (h : l[i]? = some x) (p : (l.take i).any f = false) : (f x = true → l.any f = true) ∧ (f x = false → (l.take (i + 1)).any f = false) := by
  refine ⟨fun z => List.any_eq_true.mpr ⟨x, List.mem_of_getElem? h, z⟩, fun z => ?_⟩
  rw [List.take_add_one, h, List.any_append, p]
  show (f x || false) = false
  rw [z]
  rfl
theorem ok_hol {f c Pt fS : Addr} {fd fdS : FuncData} {k : Nat} (F : FunC K "holds" "holds" sHol f c fd) (T : Zt mg) (TB : TabB base mg c Pt) (FS : Fun K "say_holds" "say_holds" sShd fS fdS) (bS : Binds K fdS ["say", "setting"] []) (gS : mg "say_holds" = some (.ref fS)) (GS : FnOk P w K mg base CX0 1 fS fdS ["say", "setting"] spShd) :
    FnOk P w K mg base CX0 (k + 3) f fd ["claim", "setting"] (spHol Pt) := by
  refine F.ok scHol (fun vs H Q E h => ?_) (fun A outer s H vs Q E hr h => ?_)
  · obtain ⟨v, u, cs, bs, rfl, _⟩ := h
    rfl
  · obtain ⟨v, u, cs, bs, rfl, ⟨a, rfl, ha⟩, hb, l8, sy, tg, q⟩ := h
    have hr1 : Room (1 + 1) _ := hr.mono (by omega)
    refine ⟨_, (pss_one (ps_ret (Gx.pe_any hr (by rfl) T.z_any rfl scHol.nd TB rfl (pi_tup (pv 0)) (own := [("say", 2)]) (g := gName 2) (tt := tYes) (blkOk_by (N := nHol) (sc := defScope sHol) (by decide +kernel)) ⟨rfl, by decide +kernel, rfl⟩ (fun _ _ _ _ _ _ _ => pg_name (i := 2) scHol.nd rfl (.inl rfl)) (fun _ _ _ _ _ _ _ => pts_nil) (fun _ _ _ _ _ _ _ => pe_call GS (Gx.room_gen hr1) (by rfl) gS FS.kp bS .nil pass0 (pa_cons (pv 2) (pa_cons (pv 1) pa_nil)))))), ?_⟩
    refine ⟨_, rfl, a, rfl, ⟨_, .of ha⟩, tg, fun H1 tb => ?_⟩
    have k1 : Ke Nof H H1 := .tabbed tg tb
    refine Gx.aa_tup (xs := cs.map V.int) (Pv := fun i H' => Ke Nof H H' ∧ (cs.take i).any (sh bs) = false) ⟨k1, rfl⟩ (fun i H' _ p => .of (p.1.tups _ _ ha)) ?_ ?_
    · rintro i x H' hx ⟨k2, p⟩
      obtain ⟨z, hz, rfl⟩ : ∃ z, cs[i]? = some z ∧ x = V.int z := by
        rw [List.getElem?_map] at hx
        cases e : cs[i]? with
        | none =>
          rw [e] at hx
          cases hx
        | some z =>
          rw [e] at hx
          exact ⟨z, rfl, (Option.some.inj hx).symm⟩
      obtain ⟨s0, s1, s2⟩ := sy z (List.mem_of_getElem? hz)
      obtain ⟨t1, t2⟩ := any_take hz p
      refine ⟨rfl, _, rfl, _, rfl, z, u, bs, rfl, hb.ke k2, l8, s0, s1, s2, ?_⟩
      cases e : sh bs z with
      | true =>
        refine .inl ⟨rfl, ?_⟩
        have := q H' k2
        rw [t1 e] at this
        exact this
      | false => exact .inr ⟨rfl, k2, t2 e⟩
    · rintro H' ⟨k2, p⟩
      rw [List.length_map, List.take_length] at p
      have := q H' k2
      rw [p] at this
      exact this
/-- all claims of the book hold -/
def ah (bs : List Bool) (css : List (List Int)) : Bool := css.all fun cs => cs.any (sh bs)
theorem all_take {α : Type} {f : α → Bool} {l : List α} {i : Nat} {x : α} (h : l[i]? = some x) (p : (l.take i).all f = true) : (f x = false → l.all f = false) ∧ (f x = true → (l.take (i + 1)).all f = true) := by
  refine ⟨fun z => List.all_eq_false.mpr ⟨x, List.mem_of_getElem? h, by rw [z]; decide⟩, fun z => ?_⟩
  rw [List.take_add_one, h, List.all_append, p]
  show (f x && true) = true
  rw [z]
  rfl
abbrev sAhd : Stmt := topS 49
abbrev nAhd : List Str := ["book", "setting", "claim"]
theorem scAhd : FnScope nAhd ["book", "setting"] (defScope sAhd) := ⟨rfl, rfl, rfl, by decide +kernel, rfl, by decide +kernel, by decide +kernel⟩
def spAhd (Ph Pa : Addr) : Sp := fun vs H Q _ => ∃ (v u : V) (css : List (List Int)) (bs : List Bool), vs = [v, u] ∧ Bk H v css ∧ TupB H u bs ∧ bs.length = 8 ∧ (∀ cs ∈ css, Says cs) ∧ TabG H Ph ∧ TabG H Pa ∧ ∀ H', Ke Nof H H' → Q (.bl (ah bs css)) H'
theorem ok_ahd {f c Pa Ph fH : Addr} {fd fdH : FuncData} {k : Nat} (F : FunC K "all_hold" "all_hold" sAhd f c fd) (T : Zt mg) (TB : TabB base mg c Pa) (kpH : PySem.W.keepIn K (.ref fH) = true) (bH : Binds K fdH ["claim", "setting"] []) (gH : mg "holds" = some (.ref fH)) (GH : FnOk P w K mg base CX0 3 fH fdH ["claim", "setting"] (spHol Ph)) :
    FnOk P w K mg base CX0 (k + 5) f fd ["book", "setting"] (spAhd Ph Pa) := by
  refine F.ok scAhd (fun vs H Q E h => ?_) (fun A outer s H vs Q E hr h => ?_)
  · obtain ⟨v, u, css, bs, rfl, _⟩ := h
    rfl
  · obtain ⟨v, u, css, bs, rfl, ⟨a, vs, rfl, ha, lv, hv⟩, hb, l8, sy, tg, tga, q⟩ := h
    have hr1 : Room (3 + 1) _ := hr.mono (by omega)
    refine ⟨_, (pss_one (ps_ret (Gx.pe_all hr (by rfl) T.z_all rfl scAhd.nd TB rfl (pi_tup (pv 0)) (own := [("claim", 2)]) (g := gName 2) (tt := tYes) (blkOk_by (N := nAhd) (sc := defScope sAhd) (by decide +kernel)) ⟨rfl, by decide +kernel, rfl⟩ (fun _ _ _ _ _ _ _ => pg_name (i := 2) scAhd.nd rfl (.inl rfl)) (fun _ _ _ _ _ _ _ => pts_nil) (fun _ _ _ _ _ _ _ => pe_call GH (Gx.room_gen hr1) (by rfl) gH kpH bH .nil pass0 (pa_cons (pv 2) (pa_cons (pv 1) pa_nil)))))), ?_⟩
    refine ⟨_, rfl, a, rfl, ⟨_, .of ha⟩, tga, fun H1 tb => ?_⟩
    have k1 : Ke Nof H H1 := .tabbed tga tb
    refine Gx.aa_tup (xs := vs) (Pv := fun i H' => Ke Nof H H' ∧ (css.take i).all (fun cs => cs.any (sh bs)) = true) ⟨k1, rfl⟩ (fun i H' _ p => .of (p.1.tups _ _ ha)) ?_ ?_
    · rintro i x H' hx ⟨k2, p⟩
      have li : i < css.length := by
        have := (List.getElem?_eq_some_iff.mp hx).1
        omega
      have hz := List.getElem?_eq_getElem li
      obtain ⟨t1, t2⟩ := all_take hz p
      have ti := hv i x _ hx hz
      have sz := sy _ (List.mem_of_getElem? hz)
      generalize css[i] = cs at t1 t2 ti sz
      refine ⟨rfl, _, rfl, _, rfl, x, u, cs, bs, rfl, ti.ke k2, hb.ke k2, l8, sz, k2.tabs _ tg, fun H3 k3 => ?_⟩
      have k4 := k2.trans k3
      cases e : cs.any (sh bs) with
      | false =>
        refine .inl ⟨rfl, ?_⟩
        have := q H3 k4
        unfold ah at this
        rw [t1 e] at this
        exact this
      | true => exact .inr ⟨rfl, k4, t2 e⟩
    · rintro H' ⟨k2, p⟩
      rw [lv, List.take_length] at p
      have := q H' k2
      unfold ah at this
      rw [p] at this
      exact this
/-! ### all settings by their numbers -/
def bitB (n : Int) (p : Nat) : Bool := decide (V.int (Builtin.bitAnd (n / 2 ^ p) 1) = V.int 1)
def sbn (n : Int) : List Bool := (List.range 8).map (bitB n)
abbrev sSbn : Stmt := topS 50
abbrev nSbn : List Str := ["number", "place"]
theorem scSbn : FnScope nSbn ["number"] (defScope sSbn) := ⟨rfl, rfl, rfl, by decide +kernel, rfl, by decide +kernel, by decide +kernel⟩
def spSbn : Sp := fun vs H Q _ => ∃ n : Int, vs = [.int n] ∧ ∀ p H', Same H H' → H' p = some (.tup ((sbn n).map V.bl)) → Q (.ref p) H'
theorem ok_sbn {f : Addr} {fd : FuncData} {k : Nat} {tk : Tok} (F : Fun K "setting_by_number" "setting_by_number" sSbn f fd) (T : Zt mg) (M8 : mg "MOST_THINGS" = some (.int 8 tk)) : FnOk P w K mg base CX0 (k + 1) f fd ["number"] spSbn := by
  refine F.ok scSbn (fun vs H Q E h => ?_) (fun cdv A outer s H vs Q E hr h => ?_)
  · obtain ⟨n, rfl, _⟩ := h
    rfl
  · obtain ⟨n, rfl, q⟩ := h
    refine ⟨_, (pss_one (ps_ret (pe_callTy call_tuple_ofN (by rfl) T.z_tuple (by decide +kernel) (pa_cons (pe_lc (own := [("place", 1)]) (g := (gName 1)) (tt := tYes) rfl scSbn.nd (pi_range1 (by rfl) T.z_range (pa_cons (pe_glob (v := .int 8) rfl M8 ⟨_, rfl⟩) pa_nil)) (blkOk_by (N := nSbn) (sc := defScope sSbn) (by decide +kernel)) (fun _ _ _ _ _ => (pg_name (i := 1) scSbn.nd rfl (.inl rfl))) (fun _ _ _ _ _ => pts_nil) (fun _ _ _ _ _ => (pe_cmpR op_eq (pe_op op_and (pe_op op_shr (pv 0) (pv 1)) pe_int) pe_int (nomark _)))) pa_nil)))), ?_⟩
    refine ⟨8, rfl, by decide, by decide, fun D nD => ?_⟩
    refine lc_range (Pv := fun i H' => Same H H' ∧ H' D = some (.lst (((List.range i).map (bitB n)).map V.bl))) ⟨same_new nD, upd_same⟩ ?_ ?_
    · rintro i H' hi ⟨s1, hD⟩
      have hi : i < 8 := hi
      refine ⟨rfl, _, rfl, _, rfl, _, _, rfl, rfl, by show (0 : Int) ≤ 0 + (i : Int); omega, _, _, rfl, rfl, rfl, _, hD, by rw [List.length_map, List.length_map, List.length_range]; exact small1000 (by omega), fun b o e => ?_, ?_⟩
      · rw [upd_ne (ne_of_none e nD)]
        exact s1 _ _ e
      · rw [upd_same, List.range_succ, List.map_append, List.map_append]
        show _ = some (HO.lst (_ ++ [V.bl (bitB n i)]))
        unfold bitB
        rw [show (0 + (i : Int)).toNat = i by omega]
    · rintro H' ⟨s1, hD⟩
      refine ⟨D, _, rfl, .of hD, fun p H2 np s2 hp _ => q p H2 (s1.trans s2) hp⟩
theorem sbn_len (n : Int) : (sbn n).length = 8 := by
  unfold sbn
  rw [List.length_map, List.length_range]
theorem sbn_all (bs : List Bool) (h : bs.length = 8) : ∃ n : Nat, n < 256 ∧ sbn n = bs := by
  match bs, h with
  | [a, b, c, d, e, f, g, i], _ =>
    refine ⟨a.toNat + 2 * b.toNat + 4 * c.toNat + 8 * d.toNat + 16 * e.toNat + 32 * f.toNat + 64 * g.toNat + 128 * i.toNat, ?_, ?_⟩
    · cases a <;> cases b <;> cases c <;> cases d <;> cases e <;> cases f <;> cases g <;> cases i <;> decide
    · revert a b c d e f g i
      decide +kernel
abbrev sEve : Stmt := topS 51
theorem scEve : GScope ["number"] [] (defScope sEve) := ⟨rfl, rfl, rfl, by decide +kernel, rfl, by decide +kernel, by decide +kernel⟩
theorem ncEve (y : Str) : (defScope sEve).names.lookup y ≠ some .cell ∧ (defScope sEve).names.lookup y ≠ some .free := by
  have h : ∀ p ∈ (defScope sEve).names, p.2 ≠ .cell ∧ p.2 ≠ .free := by decide +kernel
  exact ⟨fun e => (h _ (PySem.mem_of_lookup e)).1 rfl, fun e => (h _ (PySem.mem_of_lookup e)).2 rfl⟩
/-- what every_setting hands out at the turn i -/
def YEve (i : Nat) (H : Hp) (x : V) (H' : Hp) : Prop := ∃ p, x = .ref p ∧ Same H H' ∧ H' p = some (.tup ((sbn (0 + (i : Nat))).map V.bl))
abbrev sFol : Stmt := topS 52
theorem scFol : FnScope ["book", "claim", "setting"] ["book", "claim"] (defScope sFol) := ⟨rfl, rfl, rfl, by decide +kernel, rfl, by decide +kernel, by decide +kernel⟩
/-- bs shows that the claim does not follow -/
def Ctr (css : List (List Int)) (cs : List Int) (bs : List Bool) : Prop := bs.length = 8 ∧ cs.any (sh bs) = false ∧ ah bs css = true
def spFol (Ph Pa : Addr) : Sp := fun vs H Q _ => ∃ (v u : V) (css : List (List Int)) (cs : List Int), vs = [v, u] ∧ Bk H v css ∧ TupI H u cs ∧ Says cs ∧ (∀ cs ∈ css, Says cs) ∧ TabG H Ph ∧ TabG H Pa ∧
  (∀ p H', Ke Nof H H' → H' p = some (.tup [.str "follows"]) → (∀ bs, ¬ Ctr css cs bs) → Q (.ref p) H') ∧
  ∀ p r H' bs, Ke Nof H H' → H' p = some (.tup [.str "not", .ref r]) → H' r = some (.tup (bs.map V.bl)) → Ctr css cs bs → Q (.ref p) H'
theorem ok_fol {f fE fB fH fA Ph Pa : Addr} {fd fdE fdB fdH fdA : FuncData} {k : Nat} {tk : Tok} (F : Fun K "follows" "follows" sFol f fd) (T : Zt mg) (M8 : mg "MOST_THINGS" = some (.int 8 tk))
    (FB : Fun K "setting_by_number" "setting_by_number" sSbn fB fdB) (bB : Binds K fdB ["number"] []) (gB : mg "setting_by_number" = some (.ref fB)) (GB : FnOk P w K mg base CX0 2 fB fdB ["number"] spSbn)
    (FE : Fun K "every_setting" "every_setting" sEve fE fdE) (bE : Binds K fdE [] []) (gE : mg "every_setting" = some (.ref fE))
    (FH : Fun K "holds" "holds" sHol fH fdH) (bH : Binds K fdH ["claim", "setting"] []) (gH : mg "holds" = some (.ref fH)) (GH : FnOk P w K mg base CX0 3 fH fdH ["claim", "setting"] (spHol Ph))
    (FA : Fun K "all_hold" "all_hold" sAhd fA fdA) (bA : Binds K fdA ["book", "setting"] []) (gA : mg "all_hold" = some (.ref fA)) (GA : FnOk P w K mg base CX0 5 fA fdA ["book", "setting"] (spAhd Ph Pa)) :
    FnOk P w K mg base CX0 (k + 6) f fd ["book", "claim"] (spFol Ph Pa) := by
  refine F.ok scFol (fun vs H Q E h => ?_) (fun cdv A outer s H vs Q E hr h => ?_)
  · obtain ⟨v, u, css, cs, rfl, _⟩ := h
    rfl
  · obtain ⟨v, u, css, cs, rfl, hbk, hcl, sy, sys, tg, tga, q1, q2⟩ := h
    have hr2 : Room 2 _ := hr.mono (by omega)
    have hr3 : Room 3 _ := hr.mono (by omega)
    have hr4 : Room 5 _ := hr.mono (by omega)
    have hr1 : Room 4 _ := hr.mono (by omega)
    have hrB : ∀ {env : Env}, Room 2 (Around.deeper (Around.in1 _) env) := fun {env} => hr1.in1.deeper env
    obtain ⟨ocE, odE, kVE, docE, pmE, anE, cdvE, ctE, oslE, rfl, lkE, cdE⟩ := FE.ex
    have kpE := FE.kp
    refine ⟨_, (pss_cons (Gt.ps_forG (N := ["number"]) (tot := 256) (Yl := YEve) lkE cdE kpE scEve bE (fun _ => rfl) ncEve (by decide)
      (fun L => ⟨fun _ _ => pg_name (i := 0) scEve.nd rfl (.inl rfl), fun _ _ => pe_call GB hrB (by rfl) gB FB.kp bB .nil pass0 (pa_cons (pv 0) pa_nil), fun i _ q _ h => ⟨_, rfl, _, rfl, fun p _ sm hp => h (.ref p) _ ⟨p, rfl, sm, hp⟩⟩, fun _ _ _ _ ⟨_, _, sm, _⟩ => sm, rfl, rfl⟩)
      (fun _ _ _ => pi_range1 (by rfl) T.z_range (pa_cons (pe_op op_shl pe_int (pe_glob (v := .int 8) rfl M8 ⟨_, rfl⟩)) pa_nil)) (fun _ _ _ h => ⟨_, _, rfl, rfl, ⟨by decide, by decide, by decide⟩, 256, rfl, by decide, by decide, h⟩) (fun _ _ => rfl)
      (by rfl) gE hr2 (fun _ _ h => h) (pg_name (i := 2) scFol.nd rfl (.inl rfl)) (pss_one (ps_if (PW.pt (pw_and (pt_not (pt_val (pe_call GH hr3 (by rfl) gH FH.kp bH .nil pass0 (pa_cons (pv 1) (pa_cons (pv 2) pa_nil))))) (pw_and1 (pt_val (pe_call GA hr4 (by rfl) gA FA.kp bA .nil pass0 (pa_cons (pv 0) (pa_cons (pv 2) pa_nil))))))) (pss_one (ps_ret (pe_tupN (pa_cons pe_str (pa_cons (pv 2) pa_nil))))) pss_nil)))
      (pss_one (ps_ret (pe_tupN (pa_cons pe_str pa_nil))))), ?_⟩
    refine ⟨fun i σ H' => ∃ y3, σ = [some v, some u, y3] ∧ Ke Nof H H' ∧ ∀ n : Nat, n < i → ¬ Ctr css cs (sbn n), ⟨none, rfl, .refl _ _, fun n h => absurd h (Nat.not_lt_zero n)⟩, ?_, ?_⟩
    · rintro i σ H1 hi ⟨y3, rfl, k1, no⟩ x H2 ⟨p, rfl, s2, hp⟩
      rw [show (0 : Int) + (i : Int) = (i : Int) by omega] at hp
      have k2 : Ke Nof H H2 := k1.trans (.same s2)
      have l8 := sbn_len (i : Int)
      generalize hbs : sbn (i : Int) = bs at hp l8
      refine ⟨_, rfl, _, rfl, u, .ref p, cs, bs, rfl, hcl.ke k2, ⟨p, rfl, hp⟩, l8, sy, k2.tabs _ tg, fun H3 k3 => ⟨_, rfl, ?_⟩⟩
      have k4 := k2.trans k3
      have more : ¬ Ctr css cs bs → ∀ n : Nat, n < i + 1 → ¬ Ctr css cs (sbn n) := fun nc n hn => by
        by_cases e : n = i
        · rw [e, hbs]
          exact nc
        · exact no n (by omega)
      cases ea : cs.any (sh bs) with
      | true => exact ⟨_, rfl, k4, more fun z => by rw [z.2.1] at ea; cases ea⟩
      | false =>
        refine ⟨_, rfl, _, rfl, v, .ref p, css, bs, rfl, hbk.ke k4, ⟨p, rfl, k3.tups _ _ hp⟩, l8, sys, k4.tabs _ tg, k4.tabs _ tga, fun H5 k5 => ⟨_, rfl, ?_⟩⟩
        have k6 := k4.trans k5
        cases eb : ah bs css with
        | false => exact ⟨_, rfl, k6, more fun z => by rw [z.2.2] at eb; cases eb⟩
        | true =>
          refine ⟨_, rfl, by show 2 ≤ sizeLine; decide, fun r H7 nr s7 hr7 _ => ?_⟩
          exact q2 r p H7 bs (k6.trans (.same s7)) hr7 (s7 _ _ (k5.tups _ _ (k3.tups _ _ hp))) ⟨l8, ea, eb⟩
    · rintro σ H1 ⟨y3, rfl, k1, no⟩
      refine ⟨by show 1 ≤ sizeLine; decide, fun r H2 nr s2 hr2 _ => q1 r H2 (k1.trans (.same s2)) hr2 fun bs hc => ?_⟩
      obtain ⟨n, hn, e⟩ := sbn_all bs hc.1
      exact no n hn (by rw [e]; exact hc)
end
end Se
namespace Sl
open PySem PySem.Spec PyProof.Rows L2
theorem filter_take {α : Type} {f : α → Bool} {l : List α} {i : Nat} {x : α} (h : l[i]? = some x) : (l.take (i + 1)).filter f = (l.take i).filter f ++ (if f x = true then [x] else []) := by
  rw [List.take_add_one, h, List.filter_append]
  congr 1
  show List.filter f [x] = _
  cases e : f x with
  | true => rw [List.filter_cons_of_pos e]; rfl
  | false => rw [List.filter_cons_of_neg (by rw [e]; decide)]; rfl
theorem filter_all {α : Type} (f : α → Bool) (l : List α) : decide (V.int ((l.filter (fun x => !f x)).length : Int) = V.int 0) = l.all f := by
  cases e : l.all f with
  | true =>
    have z : l.filter (fun x => !f x) = [] := List.filter_eq_nil_iff.mpr fun x hx h => by
      have := List.all_eq_true.mp e x hx
      rw [this] at h
      cases h
    rw [z]
    rfl
  | false =>
    obtain ⟨x, hx, h⟩ := List.all_eq_false.mp e
    have := List.length_pos_of_mem (List.mem_filter (p := fun x => !f x).mpr ⟨hx, (by cases g : f x with | true => exact absurd g h | false => rfl : (!f x) = true)⟩)
    exact decide_eq_false fun z => by
      have := V.int.inj z
      omega
end Sl
namespace Nw
open PySem PySem.Spec PyProof.Rows L2
theorem prg_cl {X : Cx} {e : Expr} {te : L2.St → Hp → (Int → Int → Hp → Prop) → Prop} (he : PRg X e te) : PRg X e (fun σ H Q => ∃ R : Int → Int → Hp → Prop, (∀ a b H1, R a b H1 → Q a b H1) ∧ te σ H R) := by
  intro pins s σ H Q I ⟨R, i, q⟩
  refine thn (he pins s σ H R I q) fun x s1 ⟨r, a, b, t, u, v, H1, ex, hr, I1, z⟩ => ⟨r, a, b, t, u, v, H1, ex, hr, I1, i a b H1 z⟩
theorem pe_listRgN {X : Cx} {e : Expr} {te : L2.St → Hp → (Int → Int → Hp → Prop) → Prop} {p pos : Pos} (hc : X.calm = true) (hg : Gl X "list") (hm : X.mg "list" = none) (he : PRg X e te) (na : starEach [e] X.env = (false, eval e X.env) :: starEach [] X.env := by rfl) :
    PE X (.Call (.Name "list" p) [e] [] pos) (fun σ H Q => te σ H fun a b H1 => RgOk a b ∧ New H1 (.lst (rgV a b)) Q) :=
  pe_weak (pe_listRg hc hg hm (prg_cl he) na) fun _ _ _ q => ⟨_, fun _ _ _ z => ⟨z.1, z.2.to⟩, q⟩
end Nw
namespace Cl
open PySem PySem.Spec PyProof.Rows L2 GxR Nw Dr Kp
abbrev sClm : Stmt := topS 58
abbrev sBok : Stmt := topS 59
theorem scClm : FnScope ["pen", "most", "wide", "things", "found", "turn", "thing"] ["pen", "most", "wide"] (defScope sClm) := ⟨rfl, rfl, rfl, by decide +kernel, rfl, by decide +kernel, by decide +kernel⟩
theorem scBok : FnScope ["pen", "most", "many", "wide", "found", "turn", "claim"] ["pen", "most"] (defScope sBok) := ⟨rfl, rfl, rfl, by decide +kernel, rfl, by decide +kernel, by decide +kernel⟩
/-- the built-ins that stand as they stood -/
structure Zs (mg : Str → Option Value) : Prop where
  z_len : mg "len" = none
  z_list : mg "list" = none
  z_range : mg "range" = none
  z_min : mg "min" = none
  z_tuple : mg "tuple" = none
  z_sorted : mg "sorted" = none
/-- things: numbers from 1 to 8, none twice -/
structure Thg (ks : List Int) : Prop where
  nd : ks.Nodup
  one : ∀ k ∈ ks, 1 ≤ k ∧ k ≤ 8
  len : ks.length ≤ 8
theorem perm_pop : ∀ {l : List Int} {d : Nat} {y : Int}, l[d]? = some y → (y :: l.eraseIdx d).Perm l
  | [], _, _, h => by simp at h
  | a :: r, 0, y, h => by
    have e : a = y := Option.some.inj h
    subst e
    exact .refl _
  | a :: r, d + 1, y, h => by
    have ih := perm_pop (l := r) (d := d) (y := y) h
    exact (List.Perm.swap a y _).trans (.cons a ih)
theorem erase_len {l : List Int} {d : Nat} (h : d < l.length) : (l.eraseIdx d).length = l.length - 1 := List.length_eraseIdx_of_lt h
theorem erase_map : ∀ (l : List Int) (d : Nat), (l.map V.int).eraseIdx d = (l.eraseIdx d).map V.int
  | [], _ => rfl
  | _ :: _, 0 => rfl
  | a :: r, d + 1 => congrArg (V.int a :: ·) (erase_map r d)
theorem ix_seq {d : Int} {n : Nat} (h0 : 0 ≤ d) (h1 : d < (n : Int)) : seqIndex? d n = some d.toNat := by
  have e : ixN n d = some d.toNat := by
    unfold ixN
    rw [if_pos h0, if_pos h1]
  exact (ixN_seq e).1
theorem abs_nd : ∀ {l : List Int}, (l.map fun s => (s.natAbs : Int)).Nodup → l.Nodup ∧ ∀ k ∈ l, k ≠ 0 → -k ∉ l := fun {l} h => by
  refine ⟨(List.pairwise_map.mp h).imp (fun {a b} z e => z (by rw [e])), fun k hk h0 hn => ?_⟩
  have inj : ∀ a ∈ l, ∀ b ∈ l, (a.natAbs : Int) = b.natAbs → a = b := fun a ha b hb e => by
    obtain ⟨i, hi, ei⟩ := List.getElem_of_mem ha
    obtain ⟨j, hj, ej⟩ := List.getElem_of_mem hb
    have hij : (l.map fun s => (s.natAbs : Int))[i]'(by rw [List.length_map]; exact hi) = (l.map fun s => (s.natAbs : Int))[j]'(by rw [List.length_map]; exact hj) := by
      rw [List.getElem_map, List.getElem_map, ei, ej]
      exact e
    have := (List.getElem_inj h).mp hij
    subst this
    rw [← ei, ← ej]
  have := inj k hk (-k) hn (by omega)
  omega
theorem cl_of {says left ks ns : List Int} (T : Thg ks) (pm : ((says.map fun s => (s.natAbs : Int)) ++ left).Perm ks) (pn : ns.Perm says) (so : ns.Pairwise (· ≤ ·)) : IsCl ns ∧ ∀ s ∈ ns, (s.natAbs : Int) ∈ ks := by
  have nd := (List.nodup_append.mp (pm.nodup_iff.mpr T.nd)).1
  obtain ⟨n1, n2⟩ := abs_nd nd
  have mem : ∀ s ∈ ns, (s.natAbs : Int) ∈ ks := fun s hs => pm.mem_iff.mp (List.mem_append_left _ (List.mem_map.mpr ⟨s, pn.mem_iff.mp hs, rfl⟩))
  have nn : ns.Nodup := pn.nodup_iff.mpr n1
  have bd : ∀ s ∈ ns, s ≠ 0 ∧ -8 ≤ s ∧ s ≤ 8 := fun s hs => by
    have := T.one _ (mem s hs)
    omega
  refine ⟨⟨?_, bd, fun k hk hn => n2 k (pn.mem_iff.mp hk) (bd k hk).1 (pn.mem_iff.mp hn), ?_⟩, mem⟩
  · have := List.Pairwise.and so nn
    exact this.imp fun {a b} h => by
      obtain ⟨h1, h2⟩ := h
      omega
  · have l1 := pn.length_eq
    have l2 := pm.length_eq
    rw [List.length_append, List.length_map] at l2
    have := T.len
    omega
/-- a list of claims as it grows -/
def Ls (H : Hp) (L : Addr) (css : List (List Int)) : Prop := ∃ vs, H L = some (.lst vs) ∧ vs.length = css.length ∧ ∀ (i : Nat) (x : V) (cs : List Int), vs[i]? = some x → css[i]? = some cs → TupI H x cs
theorem ix_append {α β : Type} {R : α → β → Prop} {vs : List α} {ys : List β} {v : α} {y : β} (l : vs.length = ys.length) (h : ∀ (i : Nat) (x : α) (z : β), vs[i]? = some x → ys[i]? = some z → R x z) (r : R v y) :
    ∀ (i : Nat) (x : α) (z : β), (vs ++ [v])[i]? = some x → (ys ++ [y])[i]? = some z → R x z := by
  intro i x z h1 h2
  by_cases hi : i < vs.length
  · rw [List.getElem?_append_left hi] at h1
    rw [List.getElem?_append_left (by omega)] at h2
    exact h i x z h1 h2
  · have e : i = vs.length := by
      have := (List.getElem?_eq_some_iff.mp h1).1
      rw [List.length_append, List.length_singleton] at this
      omega
    subst e
    rw [List.getElem?_append_right (Nat.le_refl _), Nat.sub_self] at h1
    rw [List.getElem?_append_right (by omega), show vs.length - ys.length = 0 by omega] at h2
    cases h1
    cases h2
    exact r

theorem rg_ints (a b : Int) : rgV a b = ((List.range (b - a).toNat).map fun i => a + ((i : Nat) : Int)).map V.int := by
  unfold rgV
  rw [List.map_map]
  rfl
theorem rg_thg {m : Int} (h0 : 0 ≤ m) (h8 : m ≤ 8) : Thg ((List.range (m + 1 - 1).toNat).map fun i => (1 : Int) + ((i : Nat) : Int)) := by
  refine ⟨?_, fun k hk => ?_, ?_⟩
  · refine List.pairwise_map.mpr (List.Pairwise.imp (fun {a b} z e => z ?_) List.nodup_range)
    omega
  · obtain ⟨i, hi, rfl⟩ := List.mem_map.mp hk
    have := List.mem_range.mp hi
    omega
  · rw [List.length_map, List.length_range]
    omega
section
variable {P : Program} {w : World} {K : PySem.W.Frag} {mg : Str → Option Value} {base : Heap} {fD fM : Addr} {fdD fdM : FuncData}
/-- claim(pen, most, wide) -/
def spClm : Sp := fun vs H Q _ => ∃ (f c : Addr) (mo wi : Int) (B : Nat), vs = [.ref f, .int mo, .int wi] ∧ 1 ≤ mo ∧ mo ≤ 8 ∧ 0 ≤ wi ∧ wi ≤ 8 ∧ Feed H f c B ∧ B ≤ 2 ^ 27 ∧
  ∀ (cs : List Int) (p : Addr) (H' : Hp), Feed H' f c (B + 20) → Ke (· = f) H H' → Frs H p → H' p = some (.tup (cs.map V.int)) → IsCl cs → (∀ s ∈ cs, (s.natAbs : Int) ≤ mo) → (cs.length : Int) ≤ wi → Q (.ref p) H'
theorem ok_clm {f : Addr} {fd : FuncData} {k : Nat} (F : Fun K "_law_e_claim" "_law_e_claim" sClm f fd) (T : Zs mg) (FD : Fun K "_law_e_take" "_law_e_take" sDrw fD fdD) (bD : Binds K fdD ["pen", "many"] []) (gD : mg "_law_e_take" = some (.ref fD)) (GD : FnOk P w K mg base CX0 2 fD fdD ["pen", "many"] spDrw) :
    FnOk P w K mg base CX0 (k + 3) f fd ["pen", "most", "wide"] spClm := by
  refine F.ok scClm (fun vs H Q E h => ?_) (fun cdv A outer s H vs Q E hr h => ?_)
  · obtain ⟨f, c, mo, wi, B, rfl, _⟩ := h
    rfl
  · obtain ⟨f, c, mo, wi, B, rfl, m1, m8, w0, w8, hF, hB, q⟩ := h
    have hr2 : Room 2 _ := hr.mono (by omega)
    refine ⟨_, (Evl.pss_cut (ps_set (i := 3) scClm.nd rfl (.inl rfl) (pe_listRgN rfl (by rfl) T.z_list (prg_2 (by rfl) T.z_range pe_int (pe_op op_add (pv 1) pe_int))))
      (pss_cons (ps_set (i := 4) scClm.nd rfl (.inl rfl) (pe_lstN pa_nil))
      (Evl.pss_cut (ps_for PassesOwn.never rfl (pi_range1 (by rfl) T.z_range (pa_cons (pe_callB (call_min2 rfl) (by rfl) T.z_min (by decide +kernel) (pa_cons (pv 1) (pa_cons (pe_call GD hr2 (by rfl) gD FD.kp bD .nil pass0 (pa_cons (pv 0) (pa_cons (pe_op op_add (pv 2) pe_int) pa_nil))) pa_nil))) pa_nil)) (pg_name (i := 5) scClm.nd rfl (.inl rfl)) (pss_cons (ps_set (i := 6) scClm.nd rfl (.inl rfl) (pe_bm PySem.F.plainAttrs_list PySem.F.slot_list_pop PySem.F.type_list_pop mt_popAt (pv 3) (pa_cons (pe_call GD hr2 (by rfl) gD FD.kp bD .nil pass0 (pa_cons (pv 0) (pa_cons (pe_callB call_len_seq (by rfl) T.z_len (by decide +kernel) (pa_cons (pv 3) pa_nil)) pa_nil))) pa_nil)))
      (pss_one (ps_expr (pe_bm PySem.F.plainAttrs_list PySem.F.slot_list_append PySem.F.type_list_append mt_append (pv 4) (pa_cons (pe_ix ix_list (pe_lstN (pa_cons (pv 6) (pa_cons (pe_op op_sub pe_int (pv 6)) pa_nil))) (pe_call GD hr2 (by rfl) gD FD.kp bD .nil pass0 (pa_cons (pv 0) (pa_cons pe_int pa_nil))) (fun _ _ => rfl)) pa_nil))))))
      (pss_one (ps_ret (pe_callTy call_tuple_ofN (by rfl) T.z_tuple (by decide +kernel) (pa_cons (pe_callB cr_sortedN (by rfl) T.z_sorted (by decide +kernel) (pa_cons (pv 4) pa_nil)) pa_nil))))))), ?_⟩
    have Tk := rg_thg (by omega : 0 ≤ mo) m8
    have mk : ∀ k ∈ ((List.range (mo + 1 - 1).toNat).map fun i => (1 : Int) + ((i : Nat) : Int)), k ≤ mo := fun k hk => by
      obtain ⟨i, hi, rfl⟩ := List.mem_map.mp hk
      have := List.mem_range.mp hi
      omega
    have lk : (((List.range (mo + 1 - 1).toNat).map fun i => (1 : Int) + ((i : Nat) : Int)).length : Int) = mo := by
      rw [List.length_map, List.length_range]
      omega
    have rg := rg_ints 1 (mo + 1)
    generalize ((List.range (mo + 1 - 1).toNat).map fun i => (1 : Int) + ((i : Nat) : Int)) = ks at Tk mk lk rg
    -- things
    refine Evl.q_cut (M := fun σ' H' => ∃ L, σ' = [some (.ref f), some (.int mo), some (.int wi), some (.ref L), none, none, none] ∧ H L = none ∧ Same H H' ∧ H' L = some (.lst (ks.map V.int))) ?_ ?_
    · exact ⟨_, rfl, _, _, rfl, rfl, 1, mo + 1, rfl, rfl, .of_le (by omega) (by omega) (by omega) (by omega), fun L H1 nL s1 hL _ => ⟨L, rfl, nL, s1, rg ▸ hL⟩⟩
    rintro σ' H1 ⟨L, rfl, nL, s1, hL⟩
    refine ⟨Nat.zero_le _, fun S H2 nS s2 hS _ => ?_⟩
    have F2 : Feed H2 f c B := hF.same (s1.trans s2)
    have nLf : L ≠ f := hF.nf nL
    have nLc : L ≠ c := hF.nc nL
    have nSL : S ≠ L := Ne.symm (ne_of_none hL nS)
    have nSf : S ≠ f := (hF.same s1).nf nS
    have nSc : S ≠ c := (hF.same s1).nc nS
    have frL : Frs H L := .of nL
    have frS : Frs H S := .of (s1.free nS)
    have hL2 : H2 L = some (.lst (ks.map V.int)) := s2 _ _ hL
    -- the loop
    refine Evl.q_cut (M := fun σ' H' => ∃ (y5 y6 : Option V) (left says : List Int), σ' = [some (.ref f), some (.int mo), some (.int wi), some (.ref L), some (.ref S), y5, y6] ∧ Feed H' f c (B + 20) ∧ Ke (· = f) H H' ∧ H' S = some (.lst (says.map V.int)) ∧ (says.length : Int) ≤ wi ∧ ((says.map fun s => (s.natAbs : Int)) ++ left).Perm ks) ?_ ?_
    · refine ⟨_, rfl, _, rfl, _, rfl, _, _, rfl, rfl, f, c, _, B, rfl, by omega, by omega, F2, by omega, fun d H3 d0 d1 F3 b3 => ?_⟩
      refine ⟨_, _, rfl, ?_⟩
      generalize hn : (if d < mo then d else mo) = n
      have n0 : 0 ≤ n ∧ n ≤ wi ∧ n ≤ mo := by
        split at hn <;> omega
      have tl := Tk.len
      have hL3 : H3 L = some (.lst (ks.map V.int)) := b3.lst hL2 nLf
      have hS3 : H3 S = some (.lst (([] : List Int).map V.int)) := b3.lst hS nSf
      have k3 : Ke (· = f) H H3 := (Ke.same (s1.trans s2)).trans b3
      refine ⟨n, rfl, by omega, by omega, for_range (Pv := fun i σ H' => ∃ (y5 y6 : Option V) (left says : List Int), σ = [some (.ref f), some (.int mo), some (.int wi), some (.ref L), some (.ref S), y5, y6] ∧ Feed H' f c (B + 1 + 2 * i) ∧ Ke (· = f) H H' ∧ H' L = some (.lst (left.map V.int)) ∧ H' S = some (.lst (says.map V.int)) ∧
        left.length = ks.length - i ∧ says.length = i ∧ ((says.map fun s => (s.natAbs : Int)) ++ left).Perm ks) ?_ ?_ ?_⟩
      · exact ⟨none, none, ks, [], rfl, F3, k3, hL3, hS3, rfl, rfl, .refl _⟩
      · rintro i σ H' hi ⟨y5, y6, left, says, rfl, F4, k4, hL4, hS4, ll, ls, pm⟩
        have hi : i < n.toNat := hi
        refine ⟨_, rfl, .inl ⟨rfl, _, .of hL4⟩, _, rfl, _, rfl, L, _, rfl, .inl (.of hL4), f, c, _, B + 1 + 2 * i, rfl, ?_, ?_, F4, by omega, fun d H5 d0 d1 F5 b5 => ?_⟩
        · rw [List.length_map]
          omega
        · rw [List.length_map]
          omega
        rw [List.length_map] at d1
        have dl : d.toNat < left.length := by omega
        have hL5 : H5 L = some (.lst (left.map V.int)) := b5.lst hL4 nLf
        have hS5 : H5 S = some (.lst (says.map V.int)) := b5.lst hS4 nSf
        have k5 : Ke (· = f) H H5 := k4.trans b5
        refine ⟨L, _, d, d.toNat, .int left[d.toNat], rfl, rfl, hL5, by omega, by omega, by rw [List.length_map]; exact ix_seq d0 d1, by rw [List.getElem?_map, List.getElem?_eq_getElem dl]; rfl, ?_⟩
        have pp := perm_pop (List.getElem?_eq_getElem dl)
        have y1 := Tk.one left[d.toNat] (pm.mem_iff.mp (List.mem_append_right _ (List.getElem_mem dl)))
        generalize left[d.toNat] = y at pp y1
        have F6 : Feed (upd H5 L (.lst ((left.map V.int).eraseIdx d.toNat))) f c (B + 1 + 2 * i + 1) := F5.upd nLf nLc
        have k6 : Ke (· = f) H (upd H5 L (.lst ((left.map V.int).eraseIdx d.toNat))) := k5.write frL hL5
        have hL6 : (upd H5 L (.lst ((left.map V.int).eraseIdx d.toNat))) L = some (.lst ((left.eraseIdx d.toNat).map V.int)) := by rw [upd_same, erase_map]
        have hS6 : (upd H5 L (.lst ((left.map V.int).eraseIdx d.toNat))) S = some (.lst (says.map V.int)) := by rw [upd_ne nSL]; exact hS5
        generalize (upd H5 L (.lst ((left.map V.int).eraseIdx d.toNat))) = H6 at F6 k6 hL6 hS6 ⊢
        -- found.append([thing, 0 - thing][..])
        refine ⟨_, rfl, .inl ⟨rfl, _, .of hS6⟩, _, rfl, _, rfl, _, _, rfl, rfl, by show 2 ≤ sizeLine; decide, fun p H7 np s7 hp _ => ?_⟩
        refine ⟨_, rfl, f, c, 2, B + 1 + 2 * i + 1, rfl, by decide, by decide, F6.same s7, by omega, fun e H8 e0 e1 F8 b8 => ?_⟩
        have npf : p ≠ f := F6.nf np
        have hp8 := b8.lst hp npf
        have hS8 : H8 S = some (.lst (says.map V.int)) := b8.lst (s7 _ _ hS6) nSf
        have hL8 : H8 L = some (.lst ((left.eraseIdx d.toNat).map V.int)) := b8.lst (s7 _ _ hL6) nLf
        have k8 : Ke (· = f) H H8 := (k6.trans (.same s7)).trans b8
        have two : e = 0 ∨ e = 1 := by omega
        have go : ∀ z : Int, (z.natAbs : Int) = y → ((says ++ [z]).map (fun s => (s.natAbs : Int)) ++ left.eraseIdx d.toNat).Perm ks := fun z hz => by
          refine List.Perm.trans ?_ pm
          rw [List.map_append, List.append_assoc, List.map_singleton, hz]
          exact (List.Perm.refl _).append pp
        rcases two with rfl | rfl
        · refine ⟨p, _, 0, .int y, rfl, rfl, .of hp8, rfl, S, _, _, rfl, rfl, hS8, by rw [List.length_map]; exact small1000 (by omega), ?_⟩
          refine ⟨_, _, left.eraseIdx d.toNat, says ++ [y], rfl, (F8.upd nSf nSc).mono (by omega), k8.write frS hS8, by rw [upd_ne (Ne.symm nSL)]; exact hL8, by rw [upd_same, List.map_append]; rfl, by rw [erase_len dl]; omega, by rw [List.length_append, ls]; rfl, go y (by omega)⟩
        · refine ⟨p, _, 1, .int (0 - y), rfl, rfl, .of hp8, rfl, S, _, _, rfl, rfl, hS8, by rw [List.length_map]; exact small1000 (by omega), ?_⟩
          refine ⟨_, _, left.eraseIdx d.toNat, says ++ [0 - y], rfl, (F8.upd nSf nSc).mono (by omega), k8.write frS hS8, by rw [upd_ne (Ne.symm nSL)]; exact hL8, by rw [upd_same, List.map_append]; rfl, by rw [erase_len dl]; omega, by rw [List.length_append, ls]; rfl, go (0 - y) (by omega)⟩
      · rintro σ H' ⟨y5, y6, left, says, rfl, F4, k4, hL4, hS4, ll, ls, pm⟩
        exact ⟨y5, y6, left, says, rfl, F4.mono (by omega), k4, hS4, by omega, pm⟩
    rintro σ' H3 ⟨y5, y6, left, says, rfl, F3, k3, hS3, ls, pm⟩
    refine ⟨_, rfl, S, says, rfl, .of hS3, fun ns pn so p H4 np s4 hp _ => ?_⟩
    refine ⟨p, _, rfl, .of hp, fun p2 H5 np2 s5 hp2 _ => ?_⟩
    obtain ⟨h1, h2⟩ := cl_of Tk pm pn so
    refine q ns p2 H5 (F3.same (s4.trans s5)) (k3.trans (.same (s4.trans s5))) (.ke k3 F3 (.of (s4.free np2))) hp2 h1 (fun s hs => mk _ (h2 s hs)) ?_
    rw [pn.length_eq]
    exact ls
/-- the claim cs is of the things 1 to m -/
def Of (m : Int) (cs : List Int) : Prop := IsCl cs ∧ ∀ s ∈ cs, (s.natAbs : Int) ≤ m
theorem of_one {m k0 : Int} (h1 : 1 ≤ k0) (h2 : k0 ≤ m) (h8 : m ≤ 8) : Of m [k0] := by
  refine ⟨⟨.cons (fun _ h => (nomatch h)) .nil, fun k hk => ?_, fun k hk hn => ?_, by show 1 ≤ 8; decide⟩, fun s hs => ?_⟩
  · rw [List.mem_singleton.mp hk]
    omega
  · rw [List.mem_singleton.mp hk] at hn
    have := List.mem_singleton.mp hn
    omega
  · rw [List.mem_singleton.mp hs]
    omega
/-- book(pen, most) -/
def spBok : Sp := fun vs H Q _ => ∃ (f c : Addr) (m : Int) (B : Nat), vs = [.ref f, .int m] ∧ 1 ≤ m ∧ m ≤ 8 ∧ Feed H f c B ∧ B ≤ 2 ^ 26 ∧
  ∀ (css : List (List Int)) (p : Addr) (H' : Hp), Feed H' f c (B + 500) → Ke (· = f) H H' → Frs H p → Bk H' (.ref p) css → (∀ cs ∈ css, Of m cs) → 1 ≤ css.length → css.length ≤ 16 → Q (.ref p) H'
theorem ok_bok {f fC : Addr} {fd fdC : FuncData} {k : Nat} (F : Fun K "_law_e_book" "_law_e_book" sBok f fd) (T : Zs mg) (FD : Fun K "_law_e_take" "_law_e_take" sDrw fD fdD) (bD : Binds K fdD ["pen", "many"] []) (gD : mg "_law_e_take" = some (.ref fD)) (GD : FnOk P w K mg base CX0 2 fD fdD ["pen", "many"] spDrw)
    (FC : Fun K "_law_e_claim" "_law_e_claim" sClm fC fdC) (bC : Binds K fdC ["pen", "most", "wide"] []) (gC : mg "_law_e_claim" = some (.ref fC)) (GC : FnOk P w K mg base CX0 3 fC fdC ["pen", "most", "wide"] spClm) :
    FnOk P w K mg base CX0 (k + 4) f fd ["pen", "most"] spBok := by
  refine F.ok scBok (fun vs H Q E h => ?_) (fun cdv A outer s H vs Q E hr h => ?_)
  · obtain ⟨f, c, m, B, rfl, _⟩ := h
    rfl
  · obtain ⟨f, c, m, B, rfl, m0, m8, hF, hB, q⟩ := h
    have hr2 : Room 2 _ := hr.mono (by omega)
    have hr3 : Room 3 _ := hr.mono (by omega)
    refine ⟨_, (Evl.pss_cut (ps_set (i := 2) scBok.nd rfl (.inl rfl) (pe_ix ix_list (pe_lstN (pa_cons pe_int (pa_cons pe_int (pa_cons pe_int (pa_cons pe_int pa_nil))))) (pe_call GD hr2 (by rfl) gD FD.kp bD .nil pass0 (pa_cons (pv 0) (pa_cons pe_int pa_nil))) (fun _ _ => rfl)))
      (Evl.pss_cut (ps_set (i := 3) scBok.nd rfl (.inl rfl) (pe_ix ix_list (pe_lstN (pa_cons pe_int (pa_cons pe_int (pa_cons pe_int (pa_cons pe_int (pa_cons pe_int pa_nil)))))) (pe_call GD hr2 (by rfl) gD FD.kp bD .nil pass0 (pa_cons (pv 0) (pa_cons pe_int pa_nil))) (fun _ _ => rfl)))
      (pss_cons (ps_set (i := 4) scBok.nd rfl (.inl rfl) (pe_lstN pa_nil))
      (Evl.pss_cut (ps_for PassesOwn.never rfl (pi_range1 (by rfl) T.z_range (pa_cons (pe_op op_add pe_int (pe_call GD hr2 (by rfl) gD FD.kp bD .nil pass0 (pa_cons (pv 0) (pa_cons (pv 2) pa_nil)))) pa_nil)) (pg_name (i := 5) scBok.nd rfl (.inl rfl)) (Evl.pss_cut (ps_set (i := 6) scBok.nd rfl (.inl rfl) (pe_call GC hr3 (by rfl) gC FC.kp bC .nil pass0 (pa_cons (pv 0) (pa_cons (pv 1) (pa_cons (pv 3) pa_nil)))))
      (Evl.pss_cut (ps_if (PW.pt (pw_and (pt_cmpR (op_eqD hr.units) (pv 6) (pe_tupN pa_nil) (nomark _)) (pw_and1 (pt_cmpR op_gt (pe_call GD hr2 (by rfl) gD FD.kp bD .nil pass0 (pa_cons (pv 0) (pa_cons pe_int pa_nil))) pe_int (nomark _))))) (pss_one (ps_set (i := 6) scBok.nd rfl (.inl rfl) (pe_tupN (pa_cons (pe_op op_add pe_int (pe_call GD hr2 (by rfl) gD FD.kp bD .nil pass0 (pa_cons (pv 0) (pa_cons (pv 1) pa_nil)))) pa_nil)))) pss_nil)
      (pss_one (ps_expr (pe_bm PySem.F.plainAttrs_list PySem.F.slot_list_append PySem.F.type_list_append mt_append (pv 4) (pa_cons (pv 6) pa_nil)))))))
      (pss_one (ps_ret (pe_callTy call_tuple_ofN (by rfl) T.z_tuple (by decide +kernel) (pa_cons (pv 4) pa_nil)))))))), ?_⟩
    -- many
    refine Evl.q_cut (M := fun σ' H' => ∃ ma : Int, σ' = [some (.ref f), some (.int m), some (.int ma), none, none, none, none] ∧ 1 ≤ ma ∧ ma ≤ 16 ∧ Feed H' f c (B + 1) ∧ Ke (· = f) H H') ?_ ?_
    · refine ⟨by show 4 ≤ sizeLine; decide, fun p4 H4 np4 s4 hp4 _ => ⟨_, rfl, f, c, 4, _, rfl, by decide, by decide, hF.same s4, by omega, fun e H5 e0 e1 F5 b5 => ?_⟩⟩
      have pk : ∃ mm : Int, 1 ≤ mm ∧ mm ≤ 16 ∧ atI [V.int 4, V.int 8, V.int 12, V.int 16] e = some (.int mm) := by
        have four : e = 0 ∨ e = 1 ∨ e = 2 ∨ e = 3 := by omega
        rcases four with rfl | rfl | rfl | rfl <;> exact ⟨_, by decide, by decide, rfl⟩
      obtain ⟨mm, mm0, mm1, ha⟩ := pk
      exact ⟨p4, _, e, .int mm, rfl, rfl, .of (b5.lst hp4 (hF.nf np4)), ha, mm, rfl, mm0, mm1, F5, (Ke.same s4).trans b5⟩
    rintro σ' H1 ⟨ma, rfl, ma1, ma16, F1, k1⟩
    -- wide
    refine Evl.q_cut (M := fun σ' H' => ∃ wi : Int, σ' = [some (.ref f), some (.int m), some (.int ma), some (.int wi), none, none, none] ∧ 0 ≤ wi ∧ wi ≤ 8 ∧ Feed H' f c (B + 2) ∧ Ke (· = f) H H') ?_ ?_
    · refine ⟨by show 5 ≤ sizeLine; decide, fun p4 H4 np4 s4 hp4 _ => ⟨_, rfl, f, c, 5, _, rfl, by decide, by decide, F1.same s4, by omega, fun e H5 e0 e1 F5 b5 => ?_⟩⟩
      have pk : ∃ mm : Int, 0 ≤ mm ∧ mm ≤ 8 ∧ atI [V.int 2, V.int 3, V.int 3, V.int 4, V.int 8] e = some (.int mm) := by
        have four : e = 0 ∨ e = 1 ∨ e = 2 ∨ e = 3 ∨ e = 4 := by omega
        rcases four with rfl | rfl | rfl | rfl | rfl <;> exact ⟨_, by decide, by decide, rfl⟩
      obtain ⟨mm, mm0, mm1, ha⟩ := pk
      exact ⟨p4, _, e, .int mm, rfl, rfl, .of (b5.lst hp4 (F1.nf np4)), ha, mm, rfl, mm0, mm1, F5, k1.trans ((Ke.same s4).trans b5)⟩
    rintro σ' H2 ⟨wi, rfl, wi0, wi8, F2, k2⟩
    refine ⟨Nat.zero_le _, fun L H1 nL s1 hL _ => ?_⟩
    have nLf : L ≠ f := F2.nf nL
    have nLc : L ≠ c := F2.nc nL
    have frL : Frs H L := .ke k2 F2 (.of nL)
    have frL2 : Frs H2 L := .of nL
    refine Evl.q_cut (M := fun σ' H' => ∃ (y4 y5 : Option V) (css : List (List Int)), σ' = [some (.ref f), some (.int m), some (.int ma), some (.int wi), some (.ref L), y4, y5] ∧ Feed H' f c (B + 500) ∧ Ke (· = f) H2 H' ∧ Ls H' L css ∧ (∀ cs ∈ css, Of m cs) ∧ 1 ≤ css.length ∧ css.length ≤ 16) ?_ ?_
    · have F1 : Feed H1 f c (B + 2) := F2.same s1
      refine ⟨_, rfl, _, rfl, f, c, _, B + 2, rfl, by omega, by omega, F1, by omega, fun d H2' d0 d1 F2' b2 => ?_⟩
      refine ⟨_, _, rfl, rfl, 1 + d, rfl, by omega, by omega, for_range (Pv := fun i σ H' => ∃ (y4 y5 : Option V) (css : List (List Int)), σ = [some (.ref f), some (.int m), some (.int ma), some (.int wi), some (.ref L), y4, y5] ∧ Feed H' f c (B + 3 + 30 * i) ∧ Ke (· = f) H2 H' ∧ Ls H' L css ∧ (∀ cs ∈ css, Of m cs) ∧ css.length = i) ?_ ?_ ?_⟩
      · exact ⟨none, none, [], rfl, F2', (Ke.same s1).trans b2, ⟨[], b2.lst hL nLf, rfl, fun i x cs h => by simp at h⟩, fun cs h => (nomatch h), rfl⟩
      · rintro i σ H3 hi ⟨y4, y5, css, rfl, F3, k3, ⟨vs, hL3, lv, hv⟩, oc, lc⟩
        have hi : i < (1 + d).toNat := hi
        refine Evl.q_cut (M := fun σ' H' => ∃ (p : Addr) (cs : List Int), σ' = [some (.ref f), some (.int m), some (.int ma), some (.int wi), some (.ref L), some (.int (0 + (i : Int))), some (.ref p)] ∧ Feed H' f c (B + 3 + 30 * i + 21) ∧ Ke (· = f) H3 H' ∧ H' p = some (.tup (cs.map V.int)) ∧ Of m cs) ?_ ?_
        · refine ⟨_, rfl, _, rfl, _, rfl, f, c, m, wi, _, rfl, m0, m8, wi0, wi8, F3, by omega, fun cs p H6 F6 k6 _ hp h1 h2 _ => ?_⟩
          exact ⟨p, cs, rfl, F6.mono (by omega), k6, hp, h1, h2⟩
        rintro σ' H4 ⟨p, cs, rfl, F4, k4, hp, hc⟩
        -- if claim == () and ..
        refine Evl.q_cut (M := fun σ' H' => ∃ (p : Addr) (cs : List Int), σ' = [some (.ref f), some (.int m), some (.int ma), some (.int wi), some (.ref L), some (.int (0 + (i : Int))), some (.ref p)] ∧ Feed H' f c (B + 3 + 30 * i + 23) ∧ Ke (· = f) H3 H' ∧ H' p = some (.tup (cs.map V.int)) ∧ Of m cs) ?_ ?_
        · refine ⟨_, rfl, Nat.zero_le _, fun p5 H5 np5 s5 hp5 _ => ?_⟩
          have F5 := F4.same s5
          have k5 : Ke (· = f) H3 H5 := k4.trans (.same s5)
          refine ⟨_, _, .tup (.of (s5 _ _ hp)) (dp_ints cs), .tup (.of hp5) .nil, shaped_tuple (flat_ints _), shaped_tuple rfl, _, rfl, ite2 (fun e => ?_) (fun e => ?_)⟩
          · refine ⟨_, rfl, f, c, 8, _, rfl, by decide, by decide, F5, by omega, fun g H6 g0 g1 F6 b6 => ?_⟩
            have k6 : Ke (· = f) H3 H6 := k5.trans b6
            refine ⟨_, _, rfl, rfl, _, rfl, ite2 (fun e => ?_) (fun e => ?_)⟩
            · refine ⟨_, rfl, _, rfl, f, c, m, _, rfl, by omega, by omega, F6, by omega, fun g H7 g0 g1 F7 b7 => ?_⟩
              refine ⟨_, _, rfl, rfl, by show 1 ≤ sizeLine; decide, fun p8 H8 np8 s8 hp8 _ => ?_⟩
              exact ⟨p8, [1 + g], rfl, (F7.same s8).mono (by omega), (k6.trans b7).trans (.same s8), hp8, of_one (by omega) (by omega) m8⟩
            · exact ⟨p, cs, rfl, F6.mono (by omega), k6, b6.tups _ _ (s5 _ _ hp), hc⟩
          · exact ⟨p, cs, rfl, F5.mono (by omega), k5, s5 _ _ hp, hc⟩
        rintro σ' H5 ⟨p, cs, rfl, F5, k5, hp, hc⟩
        -- found.append(claim)
        have hL5 : H5 L = some (.lst vs) := k5.lst hL3 nLf
        refine ⟨_, rfl, .inl ⟨rfl, _, .of hL5⟩, _, rfl, L, _, _, rfl, rfl, hL5, small1000 (by omega), ?_⟩
        have k6 : Ke (· = f) H2 (upd H5 L (.lst (vs ++ [.ref p]))) := (k3.trans k5).write frL2 hL5
        have tp : ∀ {x : V} {ds : List Int}, TupI H5 x ds → TupI (upd H5 L (.lst (vs ++ [.ref p]))) x ds := fun {x ds} ⟨a, e, h⟩ => ⟨a, e, by
          have n : a ≠ L := fun z => by
            rw [z, hL5] at h
            cases h
          rw [upd_ne n]
          exact h⟩
        refine ⟨_, _, css ++ [cs], rfl, (F5.upd nLf nLc).mono (by omega), k6, ⟨vs ++ [.ref p], upd_same, by rw [List.length_append, List.length_append, lv]; rfl, ix_append lv (fun i x ds h1 h2 => tp ((hv i x ds h1 h2).ke k5)) (tp ⟨p, rfl, hp⟩)⟩, fun ds hd => ?_, by rw [List.length_append, lc]; rfl⟩
        rcases List.mem_append.mp hd with z | z
        · exact oc ds z
        · rw [List.mem_singleton.mp z]
          exact hc
      · rintro σ H3 ⟨y4, y5, css, rfl, F3, k3, ls, oc, lc⟩
        have lc' : css.length = (1 + d).toNat := lc
        exact ⟨y4, y5, css, rfl, F3.mono (by omega), k3, ls, oc, by omega, by omega⟩
    rintro σ' H3 ⟨y4, y5, css, rfl, F3, k3, ⟨vs, hL2, lv, hv⟩, oc, l1, l2⟩
    refine ⟨_, rfl, L, vs, rfl, .of hL2, fun p H4 np s4 hp _ => ?_⟩
    have k4 : Ke (· = f) H3 H4 := .same s4
    exact q css p H4 (F3.same s4) (k2.trans (k3.trans k4)) (.ke k2 F2 (.ke k3 F3 (.of np))) ⟨p, vs, rfl, hp, lv, fun i x cs h1 h2 => (hv i x cs h1 h2).ke k4⟩ oc l1 l2
end
end Cl
namespace St
open PySem PySem.Spec PyProof.Rows L2 Nw
/-! ### set(xs) of a list of whole numbers, and sorted of it -/
/-- a set as it begins -/
abbrev bare (w : World) : Obj := { cls := .type "set", dict := none, data := .set #[] 0 (.fresh 0 0 (!w.params.followText "set-order")) }
section
variable {P : Program} {w : World} {A : Around} {E : Value → Shared → Prop} {s : Shared}
set_option maxRecDepth 100000 in
set_option maxHeartbeats 3200000 in
theorem set_of_list {l : Addr} {xs : Array Value} (ks : List Int) {Q : Value → Shared → Prop} (hA : A.handled = none) (hx : s.heap.IsList l xs) (hk : IntsAre xs.toList ks) (few : ks.length + 1 < scanBound)
    (want : ∀ (h' : Heap) (tk c : Nat), SetR w h' s.heap.objs.size (fun j => decide (j ∈ ks)) c → c ≤ ks.length → (∀ b o, s.heap.get? b = some o → h'.get? b = some o) → Q (.ref s.heap.objs.size) { s with heap := h', toks := tk }) :
    wpAny (model P w) A (call (.type "set") [.ref l]) Q E s := by
  have sz : xs.size = ks.length := by rw [← Array.length_toList]; exact IntsAre.length hk
  obtain ⟨c, tl, hmro⟩ := F.called_set.mro
  have m1 := F.called_set.made
  have m2 := F.called_set.sub
  have m3 := F.called_set.notType
  have m4 := F.called_set.canCreate
  have m5 := F.typeCall_set_1 (.ref l)
  refine wpAny_call (codeAny_of_tree (wpAny_pure ⟨Code.quiet_builtin _ (by decide +kernel), codeAny_builtin F.entry_type_call ?_⟩))
  rw [Around.under_plain (weight_type_call_type "set" [.ref l] []) rfl]
  repeat (any_goals (first | assumption | wp_step))
  refine codeAny_mono (code_set_led1 (.ref l) (E := E) (Q₁ := fun o s1 => o = .ref s.heap.objs.size ∧ s1 = { s with heap := s.heap.push (bare w) }) ⟨rfl, rfl⟩) fun r s1 hr => ?_
  cases r with
  | error e => exact hr
  | ok fl =>
    cases fl with
    | next => exact hr.elim
    | brk => exact hr.elim
    | cont => exact hr.elim
    | ret o =>
      obtain ⟨rfl, rfl⟩ := hr
      have g0 : (s.heap.push (bare w)).get? s.heap.objs.size = some (bare w) := Heap.get?_push_size _ rfl
      have t0 : Shared.TypeIs { s with heap := s.heap.push (bare w) } (.ref s.heap.objs.size) "set" := ⟨_, g0, rfl⟩
      have m6 := F.called_set.init.lookup
      have m7 := F.called_set.init.bind (.ref s.heap.objs.size)
      repeat (any_goals (first | assumption | wp_step))
      refine codeAny_mono (codeAny_call_builtin (R := wants (fun r s2 => r = .none ∧ ∃ h' tk c, s2 = { s with heap := h', toks := tk } ∧ SetR w h' s.heap.objs.size (fun j => decide (j ∈ ks)) c ∧ c ≤ ks.length ∧ ∀ b o, s.heap.get? b = some o → h'.get? b = some o) E) F.called_set.init.plain F.entry_set_init (check_set_init_1 t0 ?_)) fun r2 s2 hr2 => ?_
      · obtain ⟨ol, g1, hc, nl, hd⟩ := hx
        have lt : l < s.heap.objs.size := Heap.lt_size g1
        obtain ⟨oc, od, oda, osl⟩ := ol
        dsimp only at hc hd
        subst hc hd
        have g2 : (s.heap.push (bare w)).get? l = some { cls := .type "list", dict := od, data := .seq xs nl, slots := osl } := Heap.get?_push_of_some _ g1
        have i1 : (s.heap.push (bare w)).IsList l xs := ⟨_, g2, rfl, nl, rfl⟩
        have m8 := F.sub_list_set
        have m9 := F.sub_list_frozenset
        have m10 : (Value.type "list" == Value.type "dict") = false := by decide
        have szp : (s.heap.push (bare w)).objs.size = s.heap.objs.size + 1 := Heap.size_push ..
        unfold Builtin.«set.__init__» noKeywords Builtin.Frozenset.updateFrom
        generalize hPI : pyIter = PI
        wp_walk
        subst hPI
        refine wpAny_pyIter_list i1 (wpAny_bind (wpAny_runValue ?_))
        have ne1 : l ≠ (s.heap.push (bare w)).objs.size := by rw [szp]; exact Nat.ne_of_lt (Nat.lt_succ_of_lt lt)
        have ne2 : s.heap.objs.size ∉ [(s.heap.push (bare w)).objs.size, l] := by
          rw [szp]
          simp only [List.mem_cons, List.not_mem_nil, or_false, not_or]
          exact ⟨Nat.ne_of_lt (Nat.lt_succ_self _), Nat.ne_of_gt lt⟩
        have at_ : ∀ (i : Nat) (v : Value), xs[i]? = some v → ∃ k t, ks[i]? = some k ∧ v = .int k t := fun i v hv => by
          have hi : i < ks.length := by rw [← sz]; exact (Array.getElem?_eq_some_iff.mp hv).1
          obtain ⟨t, e⟩ := IntsAre.int_at hk i v (by rw [Array.getElem?_toList]; exact hv)
          rw [List.getD_eq_getElem?_getD, List.getElem?_eq_getElem hi, Option.getD_some] at e
          exact ⟨ks[i], t, List.getElem?_eq_getElem hi, e⟩
        have hA3 : A.in1.in1.in1.handled = none := by simp [hA]
        refine set_update_ints ((Walks.list hA3 _ l ne1 xs).toS) s.heap.objs.size ne2 ks sz few at_ (xs.size - 0) 0 _ (by omega) (Nat.zero_le _) ⟨⟨_, Heap.get?_push_size _ rfl, rfl, rfl⟩, i1.push _⟩ ⟨0, Nat.le_refl 0, setR_new_at (Heap.get?_push_of_some _ g0)⟩ ?_
        intro s' c' hm hc' hS'
        obtain ⟨h', g', d', tk', os'⟩ := s'
        obtain rfl : g' = s.gens := hm.gens
        obtain rfl : d' = s.drawn := hm.drawn
        obtain rfl : os' = s.os := hm.os
        show wpAny _ _ _ _ _ _
        refine wpAny_pure (wpAny_pure ⟨rfl, h', tk', c', rfl, hS', by omega, fun b o e => ?_⟩)
        have lb : b < s.heap.objs.size := Heap.lt_size e
        refine hm.heap b o ?_ (Heap.get?_push_of_some _ (Heap.get?_push_of_some _ e))
        rw [szp]
        simp only [List.mem_cons, List.not_mem_nil, or_false, not_or]
        exact ⟨Nat.ne_of_lt lb, Nat.ne_of_lt (Nat.lt_succ_of_lt lb)⟩
      · cases r2 with
        | error e => exact hr2
        | ok f2 =>
          cases f2 with
          | next => exact hr2.elim
          | brk => exact hr2.elim
          | cont => exact hr2.elim
          | ret r =>
            obtain ⟨rfl, h', tk, c', rfl, hS', hc', hk'⟩ := hr2
            repeat (any_goals (first | assumption | wp_step))
            exact want _ _ _ hS' hc' hk'
end
end St
namespace St
open PySem PySem.Spec PyProof.Rows L2 Nw
theorem cr_setL {X : Cx} (hc : X.calm = true) : CallR X (.type "set") (fun xs H Q => ∃ (a : Addr) (ns : List Int), xs = [.ref a] ∧ SqL X.K H a (ns.map V.int) ∧ ns.length ≤ 60 ∧ ∀ p H2 n, H p = none → Same H H2 → H2 p = some (SetO X.w p (fun j => decide (j ∈ ns)) n) → n ≤ ns.length → Q (.ref p) H2) := by
  intro pins s σ H xs us Q I r h
  obtain ⟨a, ns, rfl, hs, hl, q⟩ := h
  obtain ⟨u, rfl, ru⟩ := Vals.one r
  cases ru
  obtain ⟨its, ri, pl, _⟩ := I.list hs
  have hn : H s.heap.objs.size = none := I.hok.fresh (Nat.le_refl _)
  refine set_of_list ns (I.ok.hd hc) (PlainL.isList pl) (by rw [List.toList_toArray]; exact Vals.ints ri) (by unfold scanBound; omega) fun h' tk c R lc k => ?_
  exact ⟨.ref s.heap.objs.size, upd H s.heap.objs.size (SetO X.w s.heap.objs.size (fun j => decide (j ∈ ns)) c), I.laid (t' := tk) k (Nat.le_refl _) (setO_new R), rfl, q _ _ c hn (same_new hn) upd_same lc⟩
theorem cr_sortedS {X : Cx} (hc : X.calm = true) : CallR X (.builtin "sorted") (fun vs H Q => ∃ (a : Addr) (S : Int → Bool) (n : Nat), vs = [V.ref a] ∧ H a = some (SetO X.w a S n) ∧ n < 64 ∧ ∀ ns : List Int, ns.Pairwise (· < ·) → (∀ k : Int, k ∈ ns ↔ S k = true) → ns.length = n → New H (.lst (ns.map V.int)) Q) :=
  call_weak (cr_sortedSet hc) fun _ _ _ ⟨a, S, n, h1, h2, h3, h4⟩ => ⟨a, S, n, h1, h2, h3, fun ns p x1 x2 x3 np => (h4 ns x1 x2 x3).to p np⟩
end St
namespace St
open PySem PySem.Spec PyProof.Rows L2 Nw
section
variable {X : Cx}
/-- sorted(t), t a tuple of whole numbers: the items are gathered in a list, then a list of these is sorted in its place -/
theorem cr_sortedT : CallR X (.builtin "sorted") (fun vs H Q => ∃ (a : Addr) (ns : List Int), vs = [V.ref a] ∧ SqT X.K H a (ns.map V.int) ∧ ∀ ns' : List Int, ns'.Perm ns → ns'.Pairwise (· ≤ ·) → New H (.lst (ns'.map V.int)) Q) := by
  intro pins s σ H vs us Q I r h
  obtain ⟨a, ns, rfl, hs, q⟩ := h
  obtain ⟨its, rv, ⟨o, ho, hcl, n, hd⟩, hz⟩ := I.tuple hs
  obtain ⟨u, rfl, ru⟩ := Vals.one r
  cases ru
  have hin := Vals.ints rv
  have lz : its.length ≤ sizeLine := by rw [← Vals.length rv]; exact hz
  refine Calls.call_function_entry PyProof.Rows.kind_sorted PyProof.Rows.plain_sorted PyProof.Rows.entry_sorted (PyProof.Rows.args_sorted1 _) ?_
  unfold Builtin.«sorted»
  refine wpAny_bind (m := checkCount "sorted" 1 1 _) (wpAny_pure (wpAny_bind (wpAny_collect_seq a (.inr rfl) ho hcl hd (fun h1 k1 => ?_) (by rw [List.size_toArray]; exact lz))))
  refine wpAny_bind (wpAny_newList ?_ (by rw [List.toList_toArray]; exact lz))
  rw [List.toList_toArray]
  have at1 : (h1.push (seqObj "list" its.toArray 0)).get? h1.objs.size = some (seqObj "list" its.toArray 0) := Heap.get?_push_size _ rfl
  have up1 : ∀ b o, s.heap.get? b = some o → b ≠ h1.objs.size ∧ (h1.push (seqObj "list" its.toArray 0)).get? b = some o := fun b o e => ⟨Nat.ne_of_lt (Heap.lt_size (k1 b o e)), Heap.get?_push_of_some _ (k1 b o e)⟩
  refine wpAny_bind (wpAny_holding (wpAny_call_entry PyProof.Rows.slot_list_sort ⟨_, at1, rfl⟩ PyProof.Rows.entry_list_sort (SrtO.list_sort_ord SrtO.swo_int at1 lz (fun h2 => SrtO.ints_sortable hin h2) fun out g1 g2 => ⟨_, rfl, ?_⟩) (PyProof.Rows.args_list_sort _)))
  obtain ⟨i1, i2, i3⟩ := SrtO.ints_out hin g1 g2
  obtain ⟨ep, hat⟩ := PyProof.Rows.sortedHeap_at (out := out.toArray) at1
  have gone : s.heap.get? h1.objs.size = none := by
    cases e : s.heap.get? h1.objs.size with
    | none => rfl
    | some o => exact absurd (Heap.lt_size (k1 _ o e)) (Nat.lt_irrefl _)
  have hn : H h1.objs.size = none := I.hok.gone gone
  have old : ∀ b o, s.heap.get? b = some o → (PyProof.Rows.sortedHeap (h1.push (seqObj "list" its.toArray 0)) h1.objs.size its out.toArray).get? b = some o := fun b o e => by
    rw [PyProof.Rows.sortedHeap_old (up1 b o e).1 (Heap.lt_size (up1 b o e).2)]
    exact (up1 b o e).2
  have len : ((out.map SrtO.iv).map V.int).length ≤ sizeLine := by
    rw [List.length_map, i2.length_eq]
    rw [List.length_map] at hz
    exact hz
  refine wpAny_pure ⟨_, rfl, .ref h1.objs.size, upd H h1.objs.size (.lst ((out.map SrtO.iv).map V.int)), I.laidN (t' := s.toks) old gone hn ⟨len, out, ep, vals_of_ints i1, hat⟩, rfl, (q _ i2 i3).to _ hn⟩
end
end St
namespace St2
open PySem PySem.Spec PyProof.Rows L2 Nw
/-! ### set(t) of a tuple of whole numbers -/
/-- a set as it begins -/
abbrev bare (w : World) : Obj := { cls := .type "set", dict := none, data := .set #[] 0 (.fresh 0 0 (!w.params.followText "set-order")) }
section
variable {P : Program} {w : World} {A : Around} {E : Value → Shared → Prop} {s : Shared}
set_option maxRecDepth 100000 in
set_option maxHeartbeats 3200000 in
theorem set_of_tup {l : Addr} {xs : Array Value} (ks : List Int) {Q : Value → Shared → Prop} (hA : A.handled = none) (hx : s.heap.IsTuple l xs) (hk : IntsAre xs.toList ks) (few : ks.length + 1 < scanBound)
    (want : ∀ (h' : Heap) (tk c : Nat), SetR w h' s.heap.objs.size (fun j => decide (j ∈ ks)) c → c ≤ ks.length → (∀ b o, s.heap.get? b = some o → h'.get? b = some o) → Q (.ref s.heap.objs.size) { s with heap := h', toks := tk }) :
    wpAny (model P w) A (call (.type "set") [.ref l]) Q E s := by
  have sz : xs.size = ks.length := by rw [← Array.length_toList]; exact IntsAre.length hk
  obtain ⟨c, tl, hmro⟩ := F.called_set.mro
  have m1 := F.called_set.made
  have m2 := F.called_set.sub
  have m3 := F.called_set.notType
  have m4 := F.called_set.canCreate
  have m5 := F.typeCall_set_1 (.ref l)
  refine wpAny_call (codeAny_of_tree (wpAny_pure ⟨Code.quiet_builtin _ (by decide +kernel), codeAny_builtin F.entry_type_call ?_⟩))
  rw [Around.under_plain (weight_type_call_type "set" [.ref l] []) rfl]
  repeat (any_goals (first | assumption | wp_step))
  refine codeAny_mono (code_set_led1 (.ref l) (E := E) (Q₁ := fun o s1 => o = .ref s.heap.objs.size ∧ s1 = { s with heap := s.heap.push (bare w) }) ⟨rfl, rfl⟩) fun r s1 hr => ?_
  cases r with
  | error e => exact hr
  | ok fl =>
    cases fl with
    | next => exact hr.elim
    | brk => exact hr.elim
    | cont => exact hr.elim
    | ret o =>
      obtain ⟨rfl, rfl⟩ := hr
      have g0 : (s.heap.push (bare w)).get? s.heap.objs.size = some (bare w) := Heap.get?_push_size _ rfl
      have t0 : Shared.TypeIs { s with heap := s.heap.push (bare w) } (.ref s.heap.objs.size) "set" := ⟨_, g0, rfl⟩
      have m6 := F.called_set.init.lookup
      have m7 := F.called_set.init.bind (.ref s.heap.objs.size)
      repeat (any_goals (first | assumption | wp_step))
      refine codeAny_mono (codeAny_call_builtin (R := wants (fun r s2 => r = .none ∧ ∃ h' tk c, s2 = { s with heap := h', toks := tk } ∧ SetR w h' s.heap.objs.size (fun j => decide (j ∈ ks)) c ∧ c ≤ ks.length ∧ ∀ b o, s.heap.get? b = some o → h'.get? b = some o) E) F.called_set.init.plain F.entry_set_init (check_set_init_1 t0 ?_)) fun r2 s2 hr2 => ?_
      · obtain ⟨ol, g1, hc, nl, hd⟩ := hx
        have lt : l < s.heap.objs.size := Heap.lt_size g1
        obtain ⟨oc, od, oda, osl⟩ := ol
        dsimp only at hc hd
        subst hc hd
        have g2 : (s.heap.push (bare w)).get? l = some { cls := .type "tuple", dict := od, data := .seq xs nl, slots := osl } := Heap.get?_push_of_some _ g1
        have i1 : (s.heap.push (bare w)).IsTuple l xs := ⟨_, g2, rfl, nl, rfl⟩
        have m8 := F.sub_tuple_set
        have m9 := F.sub_tuple_frozenset
        have m10 : (Value.type "tuple" == Value.type "dict") = false := by decide
        have szp : (s.heap.push (bare w)).objs.size = s.heap.objs.size + 1 := Heap.size_push ..
        unfold Builtin.«set.__init__» noKeywords Builtin.Frozenset.updateFrom
        generalize hPI : pyIter = PI
        wp_walk
        subst hPI
        refine wpAny_pyIter_tuple i1 (wpAny_bind (wpAny_runValue ?_))
        have ne1 : l ≠ (s.heap.push (bare w)).objs.size := by rw [szp]; exact Nat.ne_of_lt (Nat.lt_succ_of_lt lt)
        have ne2 : s.heap.objs.size ∉ [(s.heap.push (bare w)).objs.size, l] := by
          rw [szp]
          simp only [List.mem_cons, List.not_mem_nil, or_false, not_or]
          exact ⟨Nat.ne_of_lt (Nat.lt_succ_self _), Nat.ne_of_gt lt⟩
        have at_ : ∀ (i : Nat) (v : Value), xs[i]? = some v → ∃ k t, ks[i]? = some k ∧ v = .int k t := fun i v hv => by
          have hi : i < ks.length := by rw [← sz]; exact (Array.getElem?_eq_some_iff.mp hv).1
          obtain ⟨t, e⟩ := IntsAre.int_at hk i v (by rw [Array.getElem?_toList]; exact hv)
          rw [List.getD_eq_getElem?_getD, List.getElem?_eq_getElem hi, Option.getD_some] at e
          exact ⟨ks[i], t, List.getElem?_eq_getElem hi, e⟩
        have hA3 : A.in1.in1.in1.handled = none := by simp [hA]
        refine set_update_ints ((Walks.tuple hA3 _ l ne1 xs).toS) s.heap.objs.size ne2 ks sz few at_ (xs.size - 0) 0 _ (by omega) (Nat.zero_le _) ⟨⟨_, Heap.get?_push_size _ rfl, rfl, rfl⟩, i1.push _⟩ ⟨0, Nat.le_refl 0, setR_new_at (Heap.get?_push_of_some _ g0)⟩ ?_
        intro s' c' hm hc' hS'
        obtain ⟨h', g', d', tk', os'⟩ := s'
        obtain rfl : g' = s.gens := hm.gens
        obtain rfl : d' = s.drawn := hm.drawn
        obtain rfl : os' = s.os := hm.os
        show wpAny _ _ _ _ _ _
        refine wpAny_pure (wpAny_pure ⟨rfl, h', tk', c', rfl, hS', by omega, fun b o e => ?_⟩)
        have lb : b < s.heap.objs.size := Heap.lt_size e
        refine hm.heap b o ?_ (Heap.get?_push_of_some _ (Heap.get?_push_of_some _ e))
        rw [szp]
        simp only [List.mem_cons, List.not_mem_nil, or_false, not_or]
        exact ⟨Nat.ne_of_lt lb, Nat.ne_of_lt (Nat.lt_succ_of_lt lb)⟩
      · cases r2 with
        | error e => exact hr2
        | ok f2 =>
          cases f2 with
          | next => exact hr2.elim
          | brk => exact hr2.elim
          | cont => exact hr2.elim
          | ret r =>
            obtain ⟨rfl, h', tk, c', rfl, hS', hc', hk'⟩ := hr2
            repeat (any_goals (first | assumption | wp_step))
            exact want _ _ _ hS' hc' hk'
theorem cr_setT {X : Cx} (hc : X.calm = true) : CallR X (.type "set") (fun xs H Q => ∃ (a : Addr) (ns : List Int), xs = [.ref a] ∧ SqT X.K H a (ns.map V.int) ∧ ns.length ≤ 60 ∧ ∀ p H2 n, H p = none → Same H H2 → H2 p = some (SetO X.w p (fun j => decide (j ∈ ns)) n) → n ≤ ns.length → Q (.ref p) H2) := by
  intro pins s σ H xs us Q I r h
  obtain ⟨a, ns, rfl, hs, hl, q⟩ := h
  obtain ⟨u, rfl, ru⟩ := Vals.one r
  cases ru
  obtain ⟨its, ri, pl, _⟩ := I.tuple hs
  have hn : H s.heap.objs.size = none := I.hok.fresh (Nat.le_refl _)
  refine set_of_tup ns (I.ok.hd hc) (show s.heap.IsTuple a its.toArray from pl) (by rw [List.toList_toArray]; exact Vals.ints ri) (by unfold scanBound; omega) fun h' tk c R lc k => ?_
  exact ⟨.ref s.heap.objs.size, upd H s.heap.objs.size (SetO X.w s.heap.objs.size (fun j => decide (j ∈ ns)) c), I.laid (t' := tk) k (Nat.le_refl _) (setO_new R), rfl, q _ _ c hn (same_new hn) upd_same lc⟩
end
end St2
namespace Ct
open PySem PySem.Spec PyProof.Rows L2 GxR Nw Dr Kp Se
structure Zc (mg : Str → Option Value) : Prop where
  z_any : mg "any" = none
  z_isinstance : mg "isinstance" = none
  z_int : mg "int" = none
  z_bool : mg "bool" = none
  z_tuple : mg "tuple" = none
  z_sorted : mg "sorted" = none
  z_set : mg "set" = none
abbrev sHop : Stmt := topS 3
abbrev nHop : List Str := ["says", "say"]
theorem scHop : FnScope nHop ["says"] (defScope sHop) := ⟨rfl, rfl, rfl, by decide +kernel, rfl, by decide +kernel, by decide +kernel⟩
abbrev sWho : Stmt := topS 2
theorem scWho : FnScope ["thing"] ["thing"] (defScope sWho) := ⟨rfl, rfl, rfl, by decide +kernel, rfl, by decide +kernel, by decide +kernel⟩
abbrev sCme : Stmt := topS 10
theorem scCme : FnScope ["one", "other", "k"] ["one", "other", "k"] (defScope sCme) := ⟨rfl, rfl, rfl, by decide +kernel, rfl, by decide +kernel, by decide +kernel⟩
abbrev sCon : Stmt := topS 11
abbrev nCon : List Str := ["one", "other", "k", "says", "say"]
theorem scCon : FnScope nCon ["one", "other", "k"] (defScope sCon) := ⟨rfl, rfl, rfl, by decide +kernel, rfl, by decide +kernel, by decide +kernel⟩
theorem ints_flat (cs : List Int) : (cs.map V.int).all flatV = true := by
  rw [List.all_map, List.all_eq_true]
  exact fun _ _ => rfl
theorem at_int {ks : List Int} {i : Nat} {x : V} (hx : (ks.map V.int)[i]? = some x) : ∃ z, ks[i]? = some z ∧ x = V.int z := by
  rw [List.getElem?_map] at hx
  cases e : ks[i]? with
  | none =>
    rw [e] at hx
    cases hx
  | some z =>
    rw [e] at hx
    exact ⟨z, rfl, (Option.some.inj hx).symm⟩
/-- any/all over a list that stays -/
theorem aa_list {K : PySem.W.Frag} {a : Addr} {xs : List V} {g : TG} {tt : TT} {te : TE} {vs : List Nat} {σ : L2.St} {H1 : Hp} {stopb : Bool} {Q : VK} (Pv : Nat → Hp → Prop) (h0 : Pv 0 H1) (hl : ∀ i H, i ≤ xs.length → Pv i H → SqL K H a xs)
    (hs : ∀ i x H, xs[i]? = some x → Pv i H → g x (wipe σ vs) H fun σ2 H2 => wipe σ2 vs = wipe σ vs ∧ tt σ2 H2 fun b H3 => if b = true then te σ2 H3 fun y H4 => (y = .bl stopb ∧ Q (.bl stopb) H4) ∨ (y = .bl (!stopb) ∧ Pv (i + 1) H4) else Pv (i + 1) H3) (hd : ∀ H, Pv xs.length H → Q (.bl (!stopb)) H) :
    ∃ W : Nat → Nat → Hp → Prop, (∃ m, W 0 m H1) ∧ ∀ i m H, W i m H → ((Itl K a).stop i H ∧ Q (.bl (!stopb)) H) ∨ ((Itl K a).go i H ∧ ∃ Nx : Hp → Prop, (∀ H', Nx H' → ∃ m', m' < m ∧ W (i + 1) m' H') ∧ ∀ x H', (Itl K a).yld i H x H' → g x (wipe σ vs) H' fun σ2 H2 => wipe σ2 vs = wipe σ vs ∧ tt σ2 H2 fun b H3 =>
      if b = true then te σ2 H3 fun y H4 => (y = .bl stopb ∧ Q (.bl stopb) H4) ∨ (y = .bl (!stopb) ∧ Nx H4) else Nx H3) := by
  refine ⟨fun i m H => i + m = xs.length ∧ Pv i H, ⟨xs.length, Nat.zero_add _, h0⟩, fun i m H ⟨e, p⟩ => ?_⟩
  have sq := hl i H (by omega) p
  cases m with
  | zero =>
    have ei : i = xs.length := by omega
    subst ei
    exact .inl ⟨⟨xs, sq, Nat.le_refl _⟩, hd H p⟩
  | succ m =>
    have lt : i < xs.length := by omega
    refine .inr ⟨⟨xs, xs[i], sq, List.getElem?_eq_getElem lt⟩, Pv (i + 1), fun H' q => ⟨m, Nat.lt_succ_self m, by omega, q⟩, fun x H' y => ?_⟩
    obtain ⟨rfl, y⟩ := y
    exact hs i x _ (y xs sq) p
/-- two of the says are opposite -/
def oppB (ns : List Int) : Bool := ns.any fun s => decide (0 < s) && inV (.int (-s)) (ns.map V.int)
theorem take_any {α : Type} {f : α → Bool} {l : List α} {i : Nat} {x : α} (h : l[i]? = some x) (p : (l.take i).any f = false) : (f x = true → l.any f = true) ∧ (f x = false → (l.take (i + 1)).any f = false) := by
  refine ⟨fun z => List.any_eq_true.mpr ⟨x, List.mem_of_getElem? h, z⟩, fun z => ?_⟩
  rw [List.take_add_one, h, List.any_append, p]
  show (f x || false) = false
  rw [z]
  rfl
section
variable {P : Program} {w : World} {K : PySem.W.Frag} {mg : Str → Option Value} {base : Heap}
def spHop (Po : Addr) : Sp := fun vs H Q _ => ∃ (a : Addr) (ns : List Int), vs = [.ref a] ∧ H a = some (.lst (ns.map V.int)) ∧ TabG H Po ∧ ∀ H', Ke Nof H H' → Q (.bl (oppB ns)) H'
theorem ok_hop {f c Po : Addr} {fd : FuncData} {k : Nat} (F : FunC K "has_opposites" "has_opposites" sHop f c fd) (T : Zc mg) (TB : TabB base mg c Po) : FnOk P w K mg base CX0 (k + 3) f fd ["says"] (spHop Po) := by
  refine F.ok scHop (fun vs H Q E h => ?_) (fun A outer s H vs Q E hr h => ?_)
  · obtain ⟨a, ns, rfl, _⟩ := h
    rfl
  · obtain ⟨a, ns, rfl, ha, tg, q⟩ := h
    refine ⟨_, (pss_one (ps_ret (Gx.pe_any hr (by rfl) T.z_any rfl scHop.nd TB rfl (pi_list (pv 0)) (own := [("say", 1)]) (g := gName 1) (blkOk_by (N := nHop) (sc := defScope sHop) (by decide +kernel)) ⟨rfl, by decide +kernel, rfl⟩ (fun _ _ _ _ _ _ _ => pg_name (i := 1) scHop.nd rfl (.inl rfl)) (fun _ _ _ _ _ _ _ => (pts_one (pt_cmpR op_gt (pv 1) pe_int (nomark _)))) (fun _ _ _ _ _ _ _ => (pe_cmpR (op_in_seqB (K := K) rfl) (pe_un un_neg (pv 1)) (pv 0) (by rfl)))))), ?_⟩
    refine ⟨_, rfl, a, rfl, ⟨_, .of ha⟩, tg, fun H1 tb => ?_⟩
    have k1 : Ke Nof H H1 := .tabbed tg tb
    refine aa_list (xs := ns.map V.int) (Pv := fun i H' => Ke Nof H H' ∧ (ns.take i).any (fun s => decide (0 < s) && inV (.int (-s)) (ns.map V.int)) = false) ⟨k1, rfl⟩ (fun i H' _ p => .of (p.1.lst ha fun z => z)) ?_ ?_
    · rintro i x H' hx ⟨k2, p⟩
      obtain ⟨z, hz, rfl⟩ := at_int hx
      obtain ⟨t1, t2⟩ := take_any hz p
      refine ⟨rfl, _, rfl, _, _, rfl, rfl, _, rfl, ite2 (fun y1 => ?_) (fun y1 => ?_)⟩
      · refine ⟨_, rfl, _, rfl, _, rfl, a, _, rfl, .inl (.of (k2.lst ha fun z => z)), rfl, ints_flat ns, ?_⟩
        cases e : inV (.int (-z)) (ns.map V.int) with
        | true =>
          refine .inl ⟨rfl, ?_⟩
          have := q H' k2
          rw [show oppB ns = true from t1 (by rw [e, Bool.and_true]; exact y1)] at this
          exact this
        | false => exact .inr ⟨rfl, k2, t2 (by rw [e, Bool.and_false])⟩
      · exact ⟨k2, t2 (by rw [show decide (0 < z) = false from Bool.eq_false_iff.mpr y1, Bool.false_and])⟩
    · rintro H' ⟨k2, p⟩
      rw [List.length_map, List.take_length] at p
      have := q H' k2
      rw [show oppB ns = false from p] at this
      exact this
def spWho : Sp := fun vs H Q _ => ∃ k : Int, vs = [.int k] ∧ Q (.bl true) H
theorem ok_who {f : Addr} {fd : FuncData} {k : Nat} (F : Fun K "is_whole" "is_whole" sWho f fd) (T : Zc mg) : FnOk P w K mg base CX0 (k + 1) f fd ["thing"] spWho := by
  refine F.ok scWho (fun vs H Q E h => ?_) (fun cdv A outer s H vs Q E hr h => ?_)
  · obtain ⟨k, rfl, _⟩ := h
    rfl
  · obtain ⟨k, rfl, q⟩ := h
    refine ⟨_, (pss_one (ps_ret (pe_and (pe_callB call_isi (by rfl) T.z_isinstance (by decide +kernel) (pa_cons (pv 0) (pa_cons (pe_bltn (v := .ty "int") (u := .type "int") (by rfl) T.z_int (by decide +kernel) rfl) pa_nil))) (pe_one (pe_not (pe_callB call_isi (by rfl) T.z_isinstance (by decide +kernel) (pa_cons (pv 0) (pa_cons (pe_bltn (v := .ty "bool") (u := .type "bool") (by rfl) T.z_bool (by decide +kernel) rfl) pa_nil)))))))), ?_⟩
    refine ⟨_, rfl, .int k, .ty "int", .type "int", .type "int", true, rfl, .ty _, .base (.int k), kit_ty (by decide +kernel), _, rfl, ?_⟩
    refine ⟨_, rfl, .int k, .ty "bool", .type "int", .type "bool", false, rfl, .ty _, .base (.int k), kit_ty (by decide +kernel), _, rfl, q⟩
/-- k meets -/
def meetB (cs ds : List Int) (k : Int) : Bool := decide (1 ≤ k) && decide (k ≤ 8) && inV (.int k) (cs.map V.int) && inV (.int (-k)) (ds.map V.int)
def spCme : Sp := fun vs H Q _ => ∃ (v u : V) (k : Int) (cs ds : List Int), vs = [v, u, .int k] ∧ TupI H v cs ∧ TupI H u ds ∧ Q (.bl (meetB cs ds k)) H
theorem ok_cme {f fW : Addr} {fd fdW : FuncData} {k : Nat} {tk : Tok} (F : Fun K "can_meet" "can_meet" sCme f fd) (T : Zc mg) (M8 : mg "MOST_THINGS" = some (.int 8 tk)) (FW : Fun K "is_whole" "is_whole" sWho fW fdW) (bW : Binds K fdW ["thing"] []) (gW : mg "is_whole" = some (.ref fW)) (GW : FnOk P w K mg base CX0 1 fW fdW ["thing"] spWho) :
    FnOk P w K mg base CX0 (k + 2) f fd ["one", "other", "k"] spCme := by
  refine F.ok scCme (fun vs H Q E h => ?_) (fun cdv A outer s H vs Q E hr h => ?_)
  · obtain ⟨v, u, k, cs, ds, rfl, _⟩ := h
    rfl
  · obtain ⟨v, u, k, cs, ds, rfl, ⟨a, rfl, ha⟩, ⟨b, rfl, hb⟩, q⟩ := h
    have hr1 : Room 1 _ := hr.mono (by omega)
    refine ⟨_, (pss_one (ps_ret (pe_and (pe_call GW hr1 (by rfl) gW FW.kp bW .nil pass0 (pa_cons (pv 2) pa_nil)) (pe_and (pe_chain op_le op_le pe_int (pv 2) (pe_glob (v := .int 8) rfl M8 ⟨_, rfl⟩)) (pe_and (pe_cmpR op_in_seq (pv 2) (pv 0) (by rfl)) (pe_one (pe_cmpR op_in_seq (pe_un un_neg (pv 2)) (pv 1) (by rfl)))))))), ?_⟩
    refine ⟨_, rfl, k, rfl, _, rfl, ?_⟩
    unfold meetB at q
    refine ⟨_, rfl, 1, _, rfl, rfl, decide (1 ≤ k), rfl, ?_⟩
    cases e1 : decide (1 ≤ k) with
    | false =>
      rw [e1] at q
      exact ⟨_, rfl, q⟩
    | true =>
      refine ⟨_, _, rfl, rfl, decide (k ≤ 8), rfl, ?_⟩
      cases e2 : decide (k ≤ 8) with
      | false =>
        rw [e1, e2] at q
        exact q
      | true =>
        refine ⟨_, rfl, _, rfl, a, _, rfl, .inr (.of ha), rfl, ints_flat cs, _, rfl, ?_⟩
        cases e3 : inV (.int k) (cs.map V.int) with
        | false =>
          rw [e1, e2, e3] at q
          exact q
        | true =>
          rw [e1, e2, e3] at q
          exact ⟨_, rfl, _, rfl, _, rfl, b, _, rfl, .inr (.of hb), rfl, ints_flat ds, q⟩
/-- what is said besides -/
def saysB (cs ds : List Int) (k : Int) : List Int := (cs.filter fun s => !decide (V.int s = V.int k)) ++ ds.filter fun s => !decide (V.int s = V.int (-k))
theorem filt_take {α : Type} {f : α → Bool} {l : List α} {i : Nat} {x : α} (h : l[i]? = some x) : (l.take (i + 1)).filter f = (l.take i).filter f ++ (if f x = true then [x] else []) := by
  rw [List.take_add_one, h, List.filter_append]
  congr 1
  show [x].filter f = _
  cases e : f x with
  | true => rw [List.filter_cons_of_pos e]; rfl
  | false => rw [List.filter_cons_of_neg (by rw [e]; decide)]; rfl
def spCon (Po : Addr) : Sp := fun vs H Q _ => ∃ (v u : V) (k : Int) (cs ds : List Int), vs = [v, u, .int k] ∧ TupI H v cs ∧ TupI H u ds ∧ cs.length ≤ 20 ∧ ds.length ≤ 20 ∧ TabG H Po ∧
  (∀ H', Ke Nof H H' → (meetB cs ds k = false ∨ oppB (saysB cs ds k) = true) → Q .non H') ∧
  ∀ (ns : List Int) (p : Addr) (H' : Hp), Ke Nof H H' → meetB cs ds k = true → oppB (saysB cs ds k) = false → ns.Pairwise (· < ·) → (∀ j, j ∈ ns ↔ j ∈ saysB cs ds k) → H' p = some (.tup (ns.map V.int)) → Q (.ref p) H'
theorem ok_con {f fM fH Po : Addr} {fd fdM fdH : FuncData} {k : Nat} (F : Fun K "cut_or_none" "cut_or_none" sCon f fd) (T : Zc mg) (FM : Fun K "can_meet" "can_meet" sCme fM fdM) (bM : Binds K fdM ["one", "other", "k"] []) (gM : mg "can_meet" = some (.ref fM)) (GM : FnOk P w K mg base CX0 2 fM fdM ["one", "other", "k"] spCme)
    (kpH : PySem.W.keepIn K (.ref fH) = true) (bH : Binds K fdH ["says"] []) (gH : mg "has_opposites" = some (.ref fH)) (GH : FnOk P w K mg base CX0 3 fH fdH ["says"] (spHop Po)) :
    FnOk P w K mg base CX0 (k + 4) f fd ["one", "other", "k"] (spCon Po) := by
  refine F.ok scCon (fun vs H Q E h => ?_) (fun cdv A outer s H vs Q E hr h => ?_)
  · obtain ⟨v, u, k, cs, ds, rfl, _⟩ := h
    rfl
  · obtain ⟨v, u, k, cs, ds, rfl, tv, tu, lc, ld, tg, q1, q2⟩ := h
    have hr2 : Room 2 _ := hr.mono (by omega)
    have hr3 : Room 3 _ := hr.mono (by omega)
    refine ⟨_, (pss_cons (ps_if (pt_not (pt_val (pe_call GM hr2 (by rfl) gM FM.kp bM .nil pass0 (pa_cons (pv 0) (pa_cons (pv 1) (pa_cons (pv 2) pa_nil)))))) (pss_one (ps_ret pe_non)) pss_nil)
      (Evl.pss_cut (ps_set (i := 3) scCon.nd rfl (.inl rfl) (pe_op op_catN (pe_lc (own := [("say", 4)]) (g := (gName 4))  rfl scCon.nd (pi_tup (pv 0)) (blkOk_by (N := nCon) (sc := defScope sCon) (by decide +kernel)) (fun _ _ _ _ _ => (pg_name (i := 4) scCon.nd rfl (.inl rfl))) (fun _ _ _ _ _ => (pts_one (pt_cmpR op_ne (pv 4) (pv 2) (nomark _)))) (fun _ _ _ _ _ => (pv 4))) (pe_lc (own := [("say", 4)]) (g := (gName 4))  rfl scCon.nd (pi_tup (pv 1)) (blkOk_by (N := nCon) (sc := defScope sCon) (by decide +kernel)) (fun _ _ _ _ _ => (pg_name (i := 4) scCon.nd rfl (.inl rfl))) (fun _ _ _ _ _ => (pts_one (pt_cmpR op_ne (pv 4) (pe_un un_neg (pv 2)) (nomark _)))) (fun _ _ _ _ _ => (pv 4)))))
      (pss_cons (ps_if (pt_val (pe_call GH hr3 (by rfl) gH kpH bH .nil pass0 (pa_cons (pv 3) pa_nil))) (pss_one (ps_ret pe_non)) pss_nil)
      (pss_one (ps_ret (pe_callTy call_tuple_ofN (by rfl) T.z_tuple (by decide +kernel) (pa_cons (pe_callB (St.cr_sortedS rfl) (by rfl) T.z_sorted (by decide +kernel) (pa_cons (pe_callTy (St.cr_setL rfl) (by rfl) T.z_set (by decide +kernel) (pa_cons (pv 3) pa_nil)) pa_nil)) pa_nil))))))), ?_⟩
    obtain ⟨a, rfl, ha⟩ := id tv
    obtain ⟨b, rfl, hb⟩ := id tu
    refine ⟨_, rfl, _, rfl, _, rfl, .ref a, .ref b, k, cs, ds, rfl, tv, tu, _, rfl, ?_⟩
    cases e1 : meetB cs ds k with
    | false => exact q1 H (.refl _ _) (.inl e1)
    | true =>
      refine Evl.q_cut (M := fun σ' H' => ∃ p : Addr, σ' = [some (.ref a), some (.ref b), some (.int k), some (.ref p), none] ∧ Same H H' ∧ H' p = some (.lst ((saysB cs ds k).map V.int))) ?_ ?_
      · refine ⟨_, rfl, a, rfl, ⟨_, .of ha⟩, fun D nD => ?_⟩
        refine lc_tup (xs := cs.map V.int) (Pv := fun i H' => Same H H' ∧ H' D = some (.lst (((cs.take i).filter fun s => !decide (V.int s = V.int k)).map V.int))) ⟨same_new nD, upd_same⟩ (fun i H' _ p => .of (p.1 _ _ ha)) ?_ ?_
        · rintro i x H' hx ⟨s1, hD⟩
          obtain ⟨z, hz, rfl⟩ := at_int hx
          have ft := filt_take (f := fun s => !decide (V.int s = V.int k)) hz
          refine ⟨rfl, _, rfl, _, rfl, rfl, _, rfl, ite2 (fun y1 => ?_) (fun y1 => ?_)⟩
          · refine ⟨_, rfl, _, hD, ?_, fun c o y => ?_, ?_⟩
            · rw [List.length_map]
              exact small1000 (Nat.le_trans (List.length_filter_le _ _) (by rw [List.length_take]; omega))
            · rw [upd_ne (ne_of_none y nD)]
              exact s1 _ _ y
            · rw [upd_same, ft, if_pos y1, List.map_append]
              rfl
          · refine ⟨s1, ?_⟩
            rw [ft, if_neg y1, List.append_nil]
            exact hD
        rintro H1 ⟨s1, hD⟩
        rw [List.length_map, List.take_length] at hD
        refine ⟨_, rfl, b, rfl, ⟨_, .of (s1 _ _ hb)⟩, fun D2 nD2 => ?_⟩
        refine lc_tup (xs := ds.map V.int) (Pv := fun i H' => Same H1 H' ∧ H' D2 = some (.lst (((ds.take i).filter fun s => !decide (V.int s = V.int (-k))).map V.int))) ⟨same_new nD2, upd_same⟩ (fun i H' _ p => .of (p.1 _ _ (s1 _ _ hb))) ?_ ?_
        · rintro i x H' hx ⟨s2, hD2⟩
          obtain ⟨z, hz, rfl⟩ := at_int hx
          have ft := filt_take (f := fun s => !decide (V.int s = V.int (-k))) hz
          refine ⟨rfl, _, rfl, _, rfl, _, rfl, rfl, _, rfl, ite2 (fun y1 => ?_) (fun y1 => ?_)⟩
          · refine ⟨_, rfl, _, hD2, ?_, fun c o y => ?_, ?_⟩
            · rw [List.length_map]
              exact small1000 (Nat.le_trans (List.length_filter_le _ _) (by rw [List.length_take]; omega))
            · rw [upd_ne (ne_of_none y nD2)]
              exact s2 _ _ y
            · rw [upd_same, ft, if_pos y1, List.map_append]
              rfl
          · refine ⟨s2, ?_⟩
            rw [ft, if_neg y1, List.append_nil]
            exact hD2
        rintro H2 ⟨s2, hD2⟩
        rw [List.length_map, List.take_length] at hD2
        refine ⟨D, D2, _, _, rfl, rfl, s2 _ _ hD, hD2, ?_, fun p H3 np s3 hp _ => ?_⟩
        · rw [List.length_map, List.length_map]
          have h1 := List.length_filter_le (fun s => !decide (V.int s = V.int k)) cs
          have h2 := List.length_filter_le (fun s => !decide (V.int s = V.int (-k))) ds
          exact Nat.le_trans (by omega : _ ≤ 1000) (by decide)
        · rw [← List.map_append] at hp
          exact ⟨p, rfl, (s1.trans s2).trans s3, hp⟩
      rintro σ' H1 ⟨p, rfl, s1, hp⟩
      have k1 : Ke Nof H H1 := .same s1
      refine ⟨_, rfl, p, _, rfl, hp, k1.tabs _ tg, fun H2 k2 => ⟨_, rfl, ?_⟩⟩
      have k12 := k1.trans k2
      cases e2 : oppB (saysB cs ds k) with
      | true => exact q1 H2 k12 (.inr e2)
      | false =>
        have hp2 := k2.lst hp fun z => z
        have ls : (saysB cs ds k).length ≤ 40 := by
          unfold saysB
          rw [List.length_append]
          have h1 := List.length_filter_le (fun s => !decide (V.int s = V.int k)) cs
          have h2 := List.length_filter_le (fun s => !decide (V.int s = V.int (-k))) ds
          omega
        refine ⟨_, rfl, p, _, rfl, .of hp2, by omega, fun r H3 n nr s3 hr' ln => ?_⟩
        refine ⟨r, _, n, rfl, hr', by omega, fun es up me le r2 H4 nr2 s4 h4 _ => ?_⟩
        refine ⟨r2, _, rfl, .of h4, fun r3 H5 nr3 s5 h5 _ => ?_⟩
        exact q2 es r3 H5 (k12.trans (.same ((s3.trans s4).trans s5))) e1 e2 up (fun j => (me j).trans decide_eq_true_iff) h5
end
end Ct
namespace Ct
open PySem PySem.Spec PyProof.Rows L2 GxR Nw Dr Kp Se
structure Zd (mg : Str → Option Value) : Prop where
  z_tuple : mg "tuple" = none
  z_sorted : mg "sorted" = none
  z_set : mg "set" = none
  z_abs : mg "abs" = none
theorem in_ints (k : Int) : ∀ cs : List Int, inV (.int k) (cs.map V.int) = true ↔ k ∈ cs
  | [] => by
    constructor
    · intro h
      cases h
    · intro h
      cases h
  | c :: r => by
    have ih := in_ints k r
    show (eqV (.int c) (.int k) || inV (.int k) (r.map V.int)) = true ↔ _
    rw [Bool.or_eq_true, ih, List.mem_cons]
    have e : eqV (.int c) (.int k) = true ↔ k = c := by
      show (c == k) = true ↔ k = c
      rw [beq_iff_eq]
      exact eq_comm
    rw [e]
/-- what is said besides, told by members -/
def Bes (cs ds : List Int) (k j : Int) : Prop := (j ∈ cs ∨ j ∈ ds) ∧ (j.natAbs : Int) ≠ k
end Ct
namespace Ct
open PySem PySem.Spec PyProof.Rows L2 GxR Nw Dr Kp Se
/-! ### what the program cuts and what is cut here agree -/
theorem up_unique : ∀ {xs ys : List Int}, xs.Pairwise (· < ·) → ys.Pairwise (· < ·) → (∀ j, j ∈ xs ↔ j ∈ ys) → xs = ys
  | [], [], _, _, _ => rfl
  | [], y :: r, _, _, h => absurd ((h y).mpr List.mem_cons_self) (by simp)
  | x :: r, [], _, _, h => absurd ((h x).mp List.mem_cons_self) (by simp)
  | x :: r, y :: t, hx, hy, h => by
    obtain ⟨x1, x2⟩ := List.pairwise_cons.mp hx
    obtain ⟨y1, y2⟩ := List.pairwise_cons.mp hy
    have e : x = y := by
      rcases List.mem_cons.mp ((h x).mp List.mem_cons_self) with e | m
      · exact e
      · rcases List.mem_cons.mp ((h y).mpr List.mem_cons_self) with e | m2
        · exact e.symm
        · have := y1 x m
          have := x1 y m2
          omega
    subst e
    rw [up_unique x2 y2 fun j => ⟨fun hj => ?_, fun hj => ?_⟩]
    · rcases List.mem_cons.mp ((h j).mp (List.mem_cons_of_mem _ hj)) with e | m
      · have := x1 j hj
        omega
      · exact m
    · rcases List.mem_cons.mp ((h j).mpr (List.mem_cons_of_mem _ hj)) with e | m
      · have := y1 j hj
        omega
      · exact m
variable {cs ds : List Int} {k : Int}
theorem meet_iff (hc : IsCl cs) : meetB cs ds k = true ↔ 1 ≤ k ∧ k ∈ cs ∧ -k ∈ ds := by
  unfold meetB
  rw [Bool.and_eq_true, Bool.and_eq_true, Bool.and_eq_true, decide_eq_true_iff, decide_eq_true_iff, in_ints, in_ints]
  constructor
  · rintro ⟨⟨⟨h1, _⟩, h2⟩, h3⟩
    exact ⟨h1, h2, h3⟩
  · rintro ⟨h1, h2, h3⟩
    exact ⟨⟨⟨h1, (hc.says k h2).2.2⟩, h2⟩, h3⟩
theorem not_int {a b : Int} : (!decide (V.int a = V.int b)) = true ↔ a ≠ b := by
  rw [Bool.not_eq_true', decide_eq_false_iff_not]
  exact ⟨fun z y => z (by rw [y]), fun z y => z (V.int.inj y)⟩
theorem says_iff (hc : IsCl cs) (hd : IsCl ds) (kc : k ∈ cs) (kd : -k ∈ ds) (k1 : 1 ≤ k) (j : Int) : j ∈ saysB cs ds k ↔ Bes cs ds k j := by
  unfold saysB Bes
  rw [List.mem_append, List.mem_filter, List.mem_filter, not_int, not_int]
  constructor
  · rintro (⟨h1, h2⟩ | ⟨h1, h2⟩)
    · refine ⟨.inl h1, fun z => ?_⟩
      have e : j = -k := by omega
      rw [e] at h1
      exact hc.opp k kc h1
    · refine ⟨.inr h1, fun z => ?_⟩
      have e : j = k := by omega
      rw [e] at h1
      exact hd.opp k h1 kd
  · rintro ⟨h1 | h1, h2⟩
    · exact .inl ⟨h1, by omega⟩
    · exact .inr ⟨h1, by omega⟩
theorem opp_iff (ns : List Int) (nz : ∀ j ∈ ns, j ≠ 0) : oppB ns = true ↔ ∃ j, j ∈ ns ∧ -j ∈ ns := by
  unfold oppB
  rw [List.any_eq_true]
  constructor
  · rintro ⟨j, hj, h⟩
    rw [Bool.and_eq_true, in_ints] at h
    exact ⟨j, hj, h.2⟩
  · rintro ⟨j, h1, h2⟩
    have := nz j h1
    by_cases p : 0 < j
    · exact ⟨j, h1, by rw [Bool.and_eq_true, in_ints, decide_eq_true_iff]; exact ⟨p, h2⟩⟩
    · exact ⟨-j, h2, by rw [Bool.and_eq_true, in_ints, decide_eq_true_iff, Int.neg_neg]; exact ⟨by omega, h1⟩⟩
/-- the cut of two claims: what comes, if anything -/
def Comes (cs ds : List Int) (k : Int) (ns : List Int) : Prop := 1 ≤ k ∧ k ∈ cs ∧ -k ∈ ds ∧ (∀ j, Bes cs ds k j → ¬ Bes cs ds k (-j)) ∧ ns.Pairwise (· < ·) ∧ ∀ j, j ∈ ns ↔ Bes cs ds k j
def NoCome (cs ds : List Int) (k : Int) : Prop := k < 1 ∨ k ∉ cs ∨ -k ∉ ds ∨ ∃ j, Bes cs ds k j ∧ Bes cs ds k (-j)
theorem Comes.one {ns ms : List Int} (a : Comes cs ds k ns) (b : Comes cs ds k ms) : ns = ms := up_unique a.2.2.2.2.1 b.2.2.2.2.1 fun j => (a.2.2.2.2.2 j).trans (b.2.2.2.2.2 j).symm
theorem Comes.no {ns : List Int} (a : Comes cs ds k ns) (b : NoCome cs ds k) : False := by
  obtain ⟨a1, a2, a3, a4, _⟩ := a
  rcases b with b | b | b | ⟨j, b1, b2⟩
  · omega
  · exact b a2
  · exact b a3
  · exact a4 j b1 b2
theorem comes_of (hc : IsCl cs) (hd : IsCl ds) {ns : List Int} (m : meetB cs ds k = true) (o : oppB (saysB cs ds k) = false) (up : ns.Pairwise (· < ·)) (me : ∀ j, j ∈ ns ↔ j ∈ saysB cs ds k) : Comes cs ds k ns := by
  obtain ⟨k1, kc, kd⟩ := (meet_iff hc).mp m
  have sb := says_iff hc hd kc kd k1
  refine ⟨k1, kc, kd, fun j h1 h2 => ?_, up, fun j => (me j).trans (sb j)⟩
  have nz : ∀ j ∈ saysB cs ds k, j ≠ 0 := fun j hj => by
    rcases ((sb j).mp hj).1 with h | h
    · exact (hc.says j h).1
    · exact (hd.says j h).1
  have := (opp_iff _ nz).mpr ⟨j, (sb j).mpr h1, (sb _).mpr h2⟩
  rw [o] at this
  cases this
theorem nocome_of (hc : IsCl cs) (hd : IsCl ds) (h : meetB cs ds k = false ∨ oppB (saysB cs ds k) = true) : NoCome cs ds k := by
  by_cases k1 : 1 ≤ k
  · by_cases kc : k ∈ cs
    · by_cases kd : -k ∈ ds
      · have m := (meet_iff (ds := ds) hc).mpr ⟨k1, kc, kd⟩
        rcases h with h | h
        · rw [m] at h
          cases h
        · have sb := says_iff hc hd kc kd k1
          have nz : ∀ j ∈ saysB cs ds k, j ≠ 0 := fun j hj => by
            rcases ((sb j).mp hj).1 with h | h
            · exact (hc.says j h).1
            · exact (hd.says j h).1
          obtain ⟨j, h1, h2⟩ := (opp_iff _ nz).mp h
          exact .inr (.inr (.inr ⟨j, (sb j).mp h1, (sb _).mp h2⟩))
      · exact .inr (.inr (.inl kd))
    · exact .inr (.inl kc)
  · exact .inl (by omega)
end Ct
namespace Od
open PySem PySem.Spec PyProof.Rows L2 GxR Nw Dr Kp
/-! ### anything: values by their data; no list among them is one of f -/
mutual
inductive OdV (f : Addr → Prop) (H : Hp) : V → PyData → Prop
  | non : OdV f H .non .none
  | bl (b : Bool) : OdV f H (.bl b) (.bool b)
  | int (i : Int) : OdV f H (.int i) (.int i)
  | str (x : Str) : OdV f H (.str x) (.str x)
  | lst {a : Addr} {xs : List V} {ds : List PyData} : H a = some (.lst xs) → ¬ f a → OdAll f H xs ds → OdV f H (.ref a) (.list ds)
  | tup {a : Addr} {xs : List V} {ds : List PyData} : H a = some (.tup xs) → OdAll f H xs ds → OdV f H (.ref a) (.tuple ds)
inductive OdAll (f : Addr → Prop) (H : Hp) : List V → List PyData → Prop
  | nil : OdAll f H [] []
  | cons {v : V} {vs : List V} {d : PyData} {ds : List PyData} : OdV f H v d → OdAll f H vs ds → OdAll f H (v :: vs) (d :: ds)
end
variable {f : Addr → Prop} {H H' : Hp}
mutual
theorem OdV.dp {K : PySem.W.Frag} : ∀ {d : PyData} {v : V}, OdV f H v d → Dp K H v d
  | .none, _, h => by cases h; exact .non
  | .bool _, _, h => by cases h; exact .bl _
  | .int _, _, h => by cases h; exact .int _
  | .str _, _, h => by cases h; exact .str _
  | .list ds, _, h => by cases h with | lst h1 _ h2 => exact .lst (.of h1) (OdAll.dp h2)
  | .tuple ds, _, h => by cases h with | tup h1 h2 => exact .tup (.of h1) (OdAll.dp h2)
  | .dict _, _, h => by cases h
theorem OdAll.dp {K : PySem.W.Frag} : ∀ {ds : List PyData} {vs : List V}, OdAll f H vs ds → DpAll K H vs ds
  | [], _, h => by cases h; exact .nil
  | d :: ds, _, h => by cases h with | cons h1 h2 => exact .cons (OdV.dp h1) (OdAll.dp h2)
end
mutual
theorem OdV.ke (k : Ke f H H') : ∀ {d : PyData} {v : V}, OdV f H v d → OdV f H' v d
  | .none, _, h => by cases h; exact .non
  | .bool _, _, h => by cases h; exact .bl _
  | .int _, _, h => by cases h; exact .int _
  | .str _, _, h => by cases h; exact .str _
  | .list ds, _, h => by cases h with | lst h1 n h2 => exact .lst (k.lst h1 n) n (OdAll.ke k h2)
  | .tuple ds, _, h => by cases h with | tup h1 h2 => exact .tup (k.tups _ _ h1) (OdAll.ke k h2)
  | .dict _, _, h => by cases h
theorem OdAll.ke (k : Ke f H H') : ∀ {ds : List PyData} {vs : List V}, OdAll f H vs ds → OdAll f H' vs ds
  | [], _, h => by cases h; exact .nil
  | d :: ds, _, h => by cases h with | cons h1 h2 => exact .cons (OdV.ke k h1) (OdAll.ke k h2)
end
theorem OdAll.len : ∀ {vs : List V} {ds : List PyData}, OdAll f H vs ds → vs.length = ds.length
  | [], _, h => by cases h; rfl
  | v :: vs, _, h => by cases h with | cons h1 h2 => rw [List.length_cons, List.length_cons, OdAll.len h2]
theorem OdAll.at : ∀ {vs : List V} {ds : List PyData} {i : Nat} {v : V}, OdAll f H vs ds → vs[i]? = some v → ∃ d, ds[i]? = some d ∧ OdV f H v d
  | [], _, _, _, _, e => by simp at e
  | v :: vs, _, 0, _, h, e => by
    cases h with
    | cons h1 h2 =>
      cases e
      exact ⟨_, rfl, h1⟩
  | v :: vs, _, i + 1, _, h, e => by
    cases h with
    | cons h1 h2 => exact OdAll.at (vs := vs) (i := i) h2 (by simpa using e)
theorem OdAll.cat : ∀ {vs us : List V} {ds es : List PyData}, OdAll f H vs ds → OdAll f H us es → OdAll f H (vs ++ us) (ds ++ es)
  | [], _, _, _, h, g => by cases h; exact g
  | v :: vs, _, _, _, h, g => by cases h with | cons h1 h2 => exact .cons h1 (OdAll.cat h2 g)
theorem OdAll.one {v : V} {d : PyData} (h : OdV f H v d) : OdAll f H [v] [d] := .cons h .nil
theorem OdAll.take : ∀ {vs : List V} {ds : List PyData} (n : Nat), OdAll f H vs ds → OdAll f H (vs.take n) (ds.take n)
  | _, _, 0, _ => by rw [List.take_zero, List.take_zero]; exact .nil
  | [], _, n + 1, h => by cases h; exact .nil
  | v :: vs, _, n + 1, h => by cases h with | cons h1 h2 => exact .cons h1 (OdAll.take n h2)
theorem OdAll.drop : ∀ {vs : List V} {ds : List PyData} (n : Nat), OdAll f H vs ds → OdAll f H (vs.drop n) (ds.drop n)
  | _, _, 0, h => by rw [List.drop_zero, List.drop_zero]; exact h
  | [], _, n + 1, h => by cases h; exact .nil
  | v :: vs, _, n + 1, h => by cases h with | cons h1 h2 => exact OdAll.drop n h2
theorem OdAll.rev : ∀ {vs : List V} {ds : List PyData}, OdAll f H vs ds → OdAll f H vs.reverse ds.reverse
  | [], _, h => by cases h; exact .nil
  | v :: vs, _, h => by
    cases h with
    | cons h1 h2 =>
      rw [List.reverse_cons, List.reverse_cons]
      exact (OdAll.rev h2).cat (.one h1)
theorem od_ints : ∀ ns : List Int, OdAll f H (ns.map V.int) (ns.map PyData.int)
  | [] => .nil
  | n :: r => .cons (.int n) (od_ints r)
/-! ### what anything is -/
def tyD : PyData → String
  | .none => "NoneType" | .bool _ => "bool" | .int _ => "int" | .str _ => "str" | .list _ => "list" | .tuple _ => "tuple" | .dict _ => "dict"
theorem OdV.ty {K : PySem.W.Frag} {d : PyData} {v : V} (h : OdV f H v d) : TyX K H v (.type (tyD d)) := by
  cases h with
  | non => exact .base .non
  | bl b => exact .base (.bl b)
  | int i => exact .base (.int i)
  | str x => exact .base (.str x)
  | lst h1 _ _ => exact .base (.lst h1)
  | tup h1 _ => exact .base (.tup h1)
def whD : PyData → Bool
  | .int _ => true
  | _ => false
def tuD : PyData → Bool
  | .tuple _ => true
  | _ => false
def numD : PyData → Int → Bool
  | .int n, m => decide (0 ≤ n) && decide (n < m)
  | _, _ => false
/-! ### small data, to be shown -/
structure Sm (B : Nat) (d : PyData) : Prop where
  sh : d.showable = true
  nd : d.hasDict = false
  dp : d.depth ≤ 6
  sz : d.shown.length ≤ B
structure SmAll (B : Nat) (ds : List PyData) : Prop where
  sh : PyData.showableAll ds = true
  nd : PyData.hasDictAll ds = false
  dp : PyData.depthAll ds ≤ 5
  sz : ∀ x ∈ PyData.shownAll ds, x.length ≤ B
theorem SmAll.nil {B : Nat} : SmAll B [] := ⟨rfl, rfl, by decide, fun _ h => nomatch h⟩
theorem SmAll.cons {B : Nat} {d : PyData} {ds : List PyData} (h : Sm B d) (h5 : d.depth ≤ 5) (t : SmAll B ds) : SmAll B (d :: ds) := by
  refine ⟨?_, ?_, ?_, fun x hx => ?_⟩
  · show (PyData.showable d && PyData.showableAll ds) = true
    rw [h.sh, t.sh]
    rfl
  · show (PyData.hasDict d || PyData.hasDictAll ds) = false
    rw [h.nd, t.nd]
    rfl
  · exact Nat.max_le.mpr ⟨h5, t.dp⟩
  · rcases List.mem_cons.mp hx with e | e
    · rw [e]
      exact h.sz
    · exact t.sz x e
theorem shownAll_len : ∀ ds : List PyData, (PyData.shownAll ds).length = ds.length
  | [] => rfl
  | _ :: r => congrArg (· + 1) (shownAll_len r)
theorem sum_le {B : Nat} : ∀ {l : List Nat}, (∀ x ∈ l, x ≤ B) → l.sum ≤ B * l.length
  | [], _ => Nat.zero_le _
  | x :: r, h => by
    have h1 := h x List.mem_cons_self
    have h2 := sum_le (l := r) fun y hy => h y (List.mem_cons_of_mem _ hy)
    rw [List.sum_cons, List.length_cons, Nat.mul_add]
    omega
theorem SmAll.sum {B : Nat} {ds : List PyData} (h : SmAll B ds) : ((PyData.shownAll ds).map (·.length)).sum ≤ B * ds.length := by
  have := sum_le (B := B) (l := (PyData.shownAll ds).map (·.length)) fun x hx => by
    obtain ⟨y, hy, rfl⟩ := List.mem_map.mp hx
    exact h.sz y hy
  rw [List.length_map, shownAll_len] at this
  exact this
theorem SmAll.list {B n B' : Nat} {ds : List PyData} (h : SmAll B ds) (l : ds.length ≤ n) (hb : B * n + 2 * n + 3 ≤ B') : Sm B' (.list ds) := by
  have e := listText_len_le (PyData.shownAll ds)
  have s := h.sum
  rw [shownAll_len] at e
  have m : B * ds.length ≤ B * n := Nat.mul_le_mul_left _ l
  exact ⟨h.sh, h.nd, by show PyData.depthAll ds + 1 ≤ 6; have := h.dp; omega, by show (listText (PyData.shownAll ds)).length ≤ B'; omega⟩
theorem SmAll.tuple {B n B' : Nat} {ds : List PyData} (h : SmAll B ds) (l : ds.length ≤ n) (hb : B * n + 2 * n + 3 ≤ B') : Sm B' (.tuple ds) := by
  have e := tupleText_len_le (PyData.shownAll ds)
  have s := h.sum
  rw [shownAll_len] at e
  have m : B * ds.length ≤ B * n := Nat.mul_le_mul_left _ l
  exact ⟨h.sh, h.nd, by show PyData.depthAll ds + 1 ≤ 6; have := h.dp; omega, by show (tupleText (PyData.shownAll ds)).length ≤ B'; omega⟩
theorem SmAll.cat {B : Nat} : ∀ {ds es : List PyData}, SmAll B ds → SmAll B es → SmAll B (ds ++ es)
  | [], _, _, g => g
  | d :: r, es, h, g => by
    have hs := h.sh
    have hn := h.nd
    have hd := h.dp
    have hz := h.sz
    have hs' : (PyData.showable d && PyData.showableAll r) = true := hs
    have hn' : (PyData.hasDict d || PyData.hasDictAll r) = false := hn
    rw [Bool.and_eq_true] at hs'
    rw [Bool.or_eq_false_iff] at hn'
    have hd' : Nat.max (PyData.depth d) (PyData.depthAll r) ≤ 5 := hd
    have z := Nat.max_le.mp hd'
    have hr : SmAll B r := ⟨hs'.2, hn'.2, z.2, fun x hx => hz x (List.mem_cons_of_mem _ hx)⟩
    exact SmAll.cons ⟨hs'.1, hn'.1, by omega, hz _ List.mem_cons_self⟩ z.1 (SmAll.cat hr g)
theorem SmAll.of {B : Nat} : ∀ {ds : List PyData}, (∀ d ∈ ds, Sm B d ∧ d.depth ≤ 5) → SmAll B ds
  | [], _ => .nil
  | d :: r, h => SmAll.cons (h d List.mem_cons_self).1 (h d List.mem_cons_self).2 (SmAll.of fun x hx => h x (List.mem_cons_of_mem _ hx))
theorem SmAll.mem {B : Nat} : ∀ {ds : List PyData}, SmAll B ds → ∀ d ∈ ds, Sm B d ∧ d.depth ≤ 5
  | [], _, d, hd => nomatch hd
  | e :: r, h, d, hd => by
    have hs' : (PyData.showable e && PyData.showableAll r) = true := h.sh
    have hn' : (PyData.hasDict e || PyData.hasDictAll r) = false := h.nd
    rw [Bool.and_eq_true] at hs'
    rw [Bool.or_eq_false_iff] at hn'
    have hd' : Nat.max (PyData.depth e) (PyData.depthAll r) ≤ 5 := h.dp
    have z := Nat.max_le.mp hd'
    rcases List.mem_cons.mp hd with u | u
    · rw [u]
      exact ⟨⟨hs'.1, hn'.1, by omega, h.sz _ List.mem_cons_self⟩, z.1⟩
    · exact SmAll.mem (ds := r) ⟨hs'.2, hn'.2, z.2, fun x hx => h.sz x (List.mem_cons_of_mem _ hx)⟩ d u
theorem Sm.mono {B B' : Nat} {d : PyData} (h : Sm B d) (l : B ≤ B') : Sm B' d := ⟨h.sh, h.nd, h.dp, Nat.le_trans h.sz l⟩
theorem small_ints : ∀ n : Fin 130, PyData.showable (.int ((n.val : Int) - 60)) = true ∧ (PyData.shown (.int ((n.val : Int) - 60))).length ≤ 3 := by decide +kernel
theorem sm_int {n : Int} (h0 : -60 ≤ n) (h1 : n < 70) : Sm 3 (.int n) := by
  have := small_ints ⟨(n + 60).toNat, by omega⟩
  rw [show (((n + 60).toNat : Nat) : Int) - 60 = n by omega] at this
  exact ⟨this.1, rfl, by show 0 ≤ 6; decide, this.2⟩
theorem OdV.un {g : Addr → Prop} (h : ∀ a, g a → f a) : ∀ {d : PyData} {v : V}, OdV f H v d → OdV g H v d := fun {d v} => OdV.rec (motive_1 := fun v d _ => OdV g H v d) (motive_2 := fun vs ds _ => OdAll g H vs ds) .non .bl .int .str (fun h1 n _ ih => .lst h1 (fun z => n (h _ z)) ih) (fun h1 _ ih => .tup h1 ih) .nil (fun _ _ i1 i2 => .cons i1 i2)
theorem OdAll.un {g : Addr → Prop} (h : ∀ a, g a → f a) : ∀ {ds : List PyData} {vs : List V}, OdAll f H vs ds → OdAll g H vs ds
  | [], _, x => by cases x; exact .nil
  | _ :: _, _, x => by cases x with | cons h1 h2 => exact .cons (OdV.un h h1) (OdAll.un h h2)
end Od
namespace Lr
open PySem PySem.Spec PyProof.Rows L2 GxR Nw Dr Kp Ct
/-! ### rows, ladders, their claims -/
inductive Rw where
  | book (n : Nat)
  | cut (i j : Nat) (k : Int)
/-- the row's parts -/
def Rw.vs : Rw → List V
  | .book n => [.str "book", .int (n : Nat)]
  | .cut i j k => [.str "cut", .int (i : Nat), .int (j : Nat), .int k]
def RowAt (H : Hp) (v : V) (r : Rw) : Prop := ∃ a, v = .ref a ∧ H a = some (.tup r.vs)
variable {F : Addr → Prop} {H H' : Hp}
theorem RowAt.ke {v : V} {r : Rw} (h : RowAt H v r) (k : Ke F H H') : RowAt H' v r := by
  obtain ⟨a, e, h⟩ := h
  exact ⟨a, e, k.tups _ _ h⟩
/-- items told one by one -/
def All2 {α β : Type} (R : α → β → Prop) (xs : List α) (ys : List β) : Prop := xs.length = ys.length ∧ ∀ (i : Nat) (x : α) (y : β), xs[i]? = some x → ys[i]? = some y → R x y
theorem All2.imp {α β : Type} {R S : α → β → Prop} {xs : List α} {ys : List β} (h : All2 R xs ys) (f : ∀ x y, R x y → S x y) : All2 S xs ys := ⟨h.1, fun i x y h1 h2 => f x y (h.2 i x y h1 h2)⟩
theorem All2.nil {α β : Type} {R : α → β → Prop} : All2 R ([] : List α) ([] : List β) := ⟨rfl, fun i x y h => by cases h⟩
theorem All2.snoc {α β : Type} {R : α → β → Prop} {xs : List α} {ys : List β} {x : α} {y : β} (h : All2 R xs ys) (r : R x y) : All2 R (xs ++ [x]) (ys ++ [y]) := by
  refine ⟨by rw [List.length_append, List.length_append, h.1]; rfl, fun i x' y' h1 h2 => ?_⟩
  by_cases hi : i < xs.length
  · rw [List.getElem?_append_left hi] at h1
    rw [List.getElem?_append_left (by rw [← h.1]; exact hi)] at h2
    exact h.2 i x' y' h1 h2
  · have e : i = xs.length := by
      have := (List.getElem?_eq_some_iff.mp h1).1
      rw [List.length_append, List.length_singleton] at this
      omega
    subst e
    rw [List.getElem?_append_right (Nat.le_refl _), Nat.sub_self] at h1
    rw [List.getElem?_append_right (by rw [h.1]; exact Nat.le_refl _), show xs.length - ys.length = 0 by rw [h.1]; exact Nat.sub_self _] at h2
    cases h1
    cases h2
    exact r
theorem All2.cat {α β : Type} {R : α → β → Prop} {xs us : List α} {ys ws : List β} (h : All2 R xs ys) (g : All2 R us ws) : All2 R (xs ++ us) (ys ++ ws) := by
  refine ⟨by rw [List.length_append, List.length_append, h.1, g.1], fun i x y h1 h2 => ?_⟩
  by_cases hi : i < xs.length
  · rw [List.getElem?_append_left hi] at h1
    rw [List.getElem?_append_left (by rw [← h.1]; exact hi)] at h2
    exact h.2 i x y h1 h2
  · rw [List.getElem?_append_right (by omega)] at h1
    rw [List.getElem?_append_right (by rw [← h.1]; omega), ← h.1] at h2
    exact g.2 _ x y h1 h2
theorem All2.take {α β : Type} {R : α → β → Prop} {xs : List α} {ys : List β} (h : All2 R xs ys) (n : Nat) : All2 R (xs.take n) (ys.take n) := by
  refine ⟨by rw [List.length_take, List.length_take, h.1], fun i x y h1 h2 => ?_⟩
  rw [List.getElem?_take] at h1 h2
  by_cases l : i < n
  · rw [if_pos l] at h1 h2
    exact h.2 i x y h1 h2
  · rw [if_neg l] at h1
    cases h1
theorem All2.at {α β : Type} {R : α → β → Prop} {xs : List α} {ys : List β} (h : All2 R xs ys) {i : Nat} {x : α} (e : xs[i]? = some x) : ∃ y, ys[i]? = some y ∧ R x y := by
  have l := (List.getElem?_eq_some_iff.mp e).1
  have l2 : i < ys.length := by rw [← h.1]; exact l
  exact ⟨ys[i], List.getElem?_eq_getElem l2, h.2 i x _ e (List.getElem?_eq_getElem l2)⟩
theorem All2.atR {α β : Type} {R : α → β → Prop} {xs : List α} {ys : List β} (h : All2 R xs ys) {i : Nat} {y : β} (e : ys[i]? = some y) : ∃ x, xs[i]? = some x ∧ R x y := by
  have l := (List.getElem?_eq_some_iff.mp e).1
  have l2 : i < xs.length := by rw [h.1]; exact l
  exact ⟨xs[i], List.getElem?_eq_getElem l2, h.2 i _ y (List.getElem?_eq_getElem l2) e⟩
/-- a list of claims, a list of rows -/
def ClL (H : Hp) (L : Addr) (cls : List (List Int)) : Prop := ∃ vs, H L = some (.lst vs) ∧ All2 (TupI H) vs cls
def RwL (H : Hp) (L : Addr) (rows : List Rw) : Prop := ∃ vs, H L = some (.lst vs) ∧ All2 (RowAt H) vs rows
theorem ClL.ke {L : Addr} {cls : List (List Int)} (h : ClL H L cls) (k : Ke F H H') (n : ¬ F L) : ClL H' L cls := by
  obtain ⟨vs, h1, h2⟩ := h
  exact ⟨vs, k.lst h1 n, h2.imp fun x y r => r.ke k⟩
theorem RwL.ke {L : Addr} {rows : List Rw} (h : RwL H L rows) (k : Ke F H H') (n : ¬ F L) : RwL H' L rows := by
  obtain ⟨vs, h1, h2⟩ := h
  exact ⟨vs, k.lst h1 n, h2.imp fun x y r => r.ke k⟩
theorem bk_all {v : V} {css : List (List Int)} (h : Bk H v css) : ∃ a vs, v = .ref a ∧ H a = some (.tup vs) ∧ All2 (TupI H) vs css := by
  obtain ⟨a, vs, e, h, l, t⟩ := h
  exact ⟨a, vs, e, h, l, t⟩
/-- the claim of a row behind rows with the claims cls -/
def RowCl (css cls : List (List Int)) : Rw → List Int → Prop
  | .book n, c => css[n]? = some c
  | .cut i j k, c => ∃ x y, cls[i]? = some x ∧ cls[j]? = some y ∧ Comes x y k c
/-- a ladder by the book, with its claims -/
def Lad (css : List (List Int)) (rows : List Rw) (cls : List (List Int)) : Prop := rows.length = cls.length ∧ ∀ (i : Nat) (r : Rw) (c : List Int), rows[i]? = some r → cls[i]? = some c → RowCl css (cls.take i) r c
theorem Lad.nil (css : List (List Int)) : Lad css [] [] := ⟨rfl, fun i r c h => by cases h⟩
theorem Lad.snoc {css cls : List (List Int)} {rows : List Rw} {r : Rw} {c : List Int} (h : Lad css rows cls) (hr : RowCl css cls r c) : Lad css (rows ++ [r]) (cls ++ [c]) := by
  refine ⟨by rw [List.length_append, List.length_append, h.1]; rfl, fun i r' c' h1 h2 => ?_⟩
  by_cases hi : i < rows.length
  · rw [List.getElem?_append_left hi] at h1
    rw [List.getElem?_append_left (by rw [← h.1]; exact hi)] at h2
    rw [List.take_append_of_le_length (by have := h.1; omega)]
    exact h.2 i r' c' h1 h2
  · have e : i = rows.length := by
      have := (List.getElem?_eq_some_iff.mp h1).1
      rw [List.length_append, List.length_singleton] at this
      omega
    subst e
    rw [List.getElem?_append_right (Nat.le_refl _), Nat.sub_self] at h1
    rw [List.getElem?_append_right (by rw [h.1]; exact Nat.le_refl _), show rows.length - cls.length = 0 by rw [h.1]; exact Nat.sub_self _] at h2
    cases h1
    cases h2
    rw [h.1, List.take_append_of_le_length (Nat.le_refl _), List.take_length]
    exact hr
theorem Lad.take {css cls : List (List Int)} {rows : List Rw} (h : Lad css rows cls) (n : Nat) : Lad css (rows.take n) (cls.take n) := by
  refine ⟨by rw [List.length_take, List.length_take, h.1], fun i r c h1 h2 => ?_⟩
  rw [List.getElem?_take] at h1 h2
  by_cases l : i < n
  · rw [if_pos l] at h1 h2
    rw [List.take_take, Nat.min_eq_left (by omega)]
    exact h.2 i r c h1 h2
  · rw [if_neg l] at h1
    cases h1
/-- what any two tellings of a row's claim tell is one -/
theorem RowCl.one {css cls : List (List Int)} {r : Rw} {c d : List Int} (a : RowCl css cls r c) (b : RowCl css cls r d) : c = d := by
  cases r with
  | book n => exact Option.some.inj (a.symm.trans b)
  | cut i j k =>
    obtain ⟨x, y, h1, h2, h3⟩ := a
    obtain ⟨x', y', h1', h2', h3'⟩ := b
    cases h1.symm.trans h1'
    cases h2.symm.trans h2'
    exact h3.one h3'
theorem RowCl.parts {css cls : List (List Int)} {i j : Nat} {k : Int} {c : List Int} (a : RowCl css cls (.cut i j k) c) : i < cls.length ∧ j < cls.length := by
  obtain ⟨x, y, h1, h2, _⟩ := a
  exact ⟨(List.getElem?_eq_some_iff.mp h1).1, (List.getElem?_eq_some_iff.mp h2).1⟩
theorem len_sub : ∀ (l m : List Int), l.Nodup → (∀ x ∈ l, x ∈ m) → l.length ≤ m.length
  | [], _, _, _ => Nat.zero_le _
  | x :: r, m, nd, h => by
    obtain ⟨h1, h2⟩ := List.nodup_cons.mp nd
    have ih := len_sub r (m.erase x) h2 fun y hy => (List.mem_erase_of_ne (fun e => h1 (by rw [← e]; exact hy))).mpr (h y (List.mem_cons_of_mem _ hy))
    have e := List.length_erase_of_mem (h x List.mem_cons_self)
    have p := List.length_pos_of_mem (h x List.mem_cons_self)
    rw [List.length_cons]
    omega
/-- rising, from -8 to 8, not 0, none opposite: a claim -/
theorem cl_mk {ns : List Int} (up : ns.Pairwise (· < ·)) (says : ∀ k ∈ ns, k ≠ 0 ∧ -8 ≤ k ∧ k ≤ 8) (opp : ∀ k ∈ ns, -k ∉ ns) : IsCl ns := by
  refine ⟨up, says, opp, ?_⟩
  have nd : (ns.map fun s => (s.natAbs : Int)).Nodup := List.pairwise_map.mpr (up.imp_of_mem fun {a b} ha hb hab e => by
    have : a = b ∨ a = -b := by omega
    rcases this with z | z
    · omega
    · have e2 : -b = a := by omega
      exact opp b hb (by rw [e2]; exact ha))
  have := len_sub _ [1, 2, 3, 4, 5, 6, 7, 8] nd fun x hx => by
    obtain ⟨s, hs, rfl⟩ := List.mem_map.mp hx
    have := says s hs
    simp only [List.mem_cons, List.not_mem_nil, or_false]
    omega
  rw [List.length_map] at this
  exact this
theorem cl_comes {cs ds ns : List Int} {k : Int} (hc : IsCl cs) (hd : IsCl ds) (h : Comes cs ds k ns) : IsCl ns := by
  obtain ⟨_, _, _, no, up, me⟩ := h
  refine cl_mk up (fun j hj => ?_) fun j hj hn => no j ((me j).mp hj) ((me (-j)).mp hn)
  rcases ((me j).mp hj).1 with z | z
  · exact hc.says j z
  · exact hd.says j z
theorem RowCl.isCl {css cls : List (List Int)} {r : Rw} {c : List Int} (hb : ∀ c ∈ css, IsCl c) (hc : ∀ c ∈ cls, IsCl c) (h : RowCl css cls r c) : IsCl c := by
  cases r with
  | book n => exact hb c (List.mem_of_getElem? h)
  | cut i j k =>
    obtain ⟨x, y, h1, h2, h3⟩ := h
    exact cl_comes (hc x (List.mem_of_getElem? h1)) (hc y (List.mem_of_getElem? h2)) h3
theorem Lad.isCl {css cls : List (List Int)} {rows : List Rw} (hb : ∀ c ∈ css, IsCl c) (h : Lad css rows cls) : ∀ c ∈ cls, IsCl c := by
  have key : ∀ n, n ≤ cls.length → ∀ c ∈ cls.take n, IsCl c := by
    intro n
    induction n with
    | zero => exact fun _ c hc => by simp at hc
    | succ n ih =>
      intro hn c hc
      rw [List.take_add_one] at hc
      rcases List.mem_append.mp hc with hc | hc
      · exact ih (by omega) c hc
      · have ln : n < cls.length := by omega
        have lr : n < rows.length := by rw [h.1]; exact ln
        rw [List.getElem?_eq_getElem ln] at hc
        obtain rfl : c = cls[n] := List.mem_singleton.mp hc
        exact (h.2 n rows[n] cls[n] (List.getElem?_eq_getElem lr) (List.getElem?_eq_getElem ln)).isCl hb (ih (by omega))
  have := key cls.length (Nat.le_refl _)
  rwa [List.take_length] at this
/-! ### min, max of a tuple of two whole numbers -/
section
variable {X : Cx}
def rT2 (K : PySem.W.Frag) (f : Int → Int → Int) : List V → Hp → VK → Prop := fun vs H Q => ∃ (a : Addr) (i j : Int), vs = [V.ref a] ∧ SqT K H a [.int i, .int j] ∧ Q (.int (f i j)) H
theorem two_of {its : List Value} {i j : Int} (r : Vals [V.int i, V.int j] its) : IntsAre its [i, j] := by
  obtain ⟨t, u, rfl⟩ := Vals.int2 r
  exact .cons _ _ (.cons _ _ .nil)
theorem cr_minT (hc : X.calm = true) (hu : X.A.units + 70 < cLine) : CallR X (.builtin "min") (rT2 X.K fun i j => if j < i then j else i) := by
  intro pins s σ H vs us Q I r h
  obtain ⟨a, i, j, rfl, hs, q⟩ := h
  obtain ⟨its, rv, hl, _⟩ := I.tuple hs
  rw [Vals.ref1 r]
  refine PySem.W.min_tuple_datum (α := Int) (x := i) (xs := [j]) (I.ok.hd hc) hl (PySem.W.HoldAll.of_ints (two_of rv)) (by show X.A.units + 1 + 0 < cLine; omega) fun n v h' tk hv hh hk => ?_
  have e : PySem.W.minOf i [j] = if j < i then j else i := by
    show (if decide (j < i) = true then j else i) = _
    by_cases z : j < i
    · rw [if_pos z, if_pos (decide_eq_true z)]
    · rw [if_neg z, if_neg (by rw [decide_eq_false z]; exact Bool.false_ne_true)]
  rw [e] at hh
  obtain ⟨as, hh⟩ := hh
  cases hh
  exact ⟨.int _, H, I.kept hk, ⟨_, rfl⟩, q⟩
theorem cr_maxT (hc : X.calm = true) (hu : X.A.units + 70 < cLine) : CallR X (.builtin "max") (rT2 X.K fun i j => if i < j then j else i) := by
  intro pins s σ H vs us Q I r h
  obtain ⟨a, i, j, rfl, hs, q⟩ := h
  obtain ⟨its, rv, hl, _⟩ := I.tuple hs
  rw [Vals.ref1 r]
  refine PySem.W.max_tuple_datum (α := Int) (x := i) (xs := [j]) (I.ok.hd hc) hl (PySem.W.HoldAll.of_ints (two_of rv)) (by show X.A.units + 1 + 0 < cLine; omega) fun n v h' tk hv hh hk => ?_
  have e : PySem.W.maxOf i [j] = if i < j then j else i := by
    show (if decide (i < j) = true then j else i) = _
    by_cases z : i < j
    · rw [if_pos z, if_pos (decide_eq_true z)]
    · rw [if_neg z, if_neg (by rw [decide_eq_false z]; exact Bool.false_ne_true)]
  rw [e] at hh
  obtain ⟨as, hh⟩ := hh
  cases hh
  exact ⟨.int _, H, I.kept hk, ⟨_, rfl⟩, q⟩
end
end Lr
namespace Lp
open PySem PySem.Spec PyProof.Rows L2 GxR Nw Dr Kp Se Ct Lr
structure Zp (mg : Str → Option Value) : Prop where
  z_len : mg "len" = none
  z_isinstance : mg "isinstance" = none
  z_tuple : mg "tuple" = none
  z_list : mg "list" = none
  z_max : mg "max" = none
theorem TupI.wr {H : Hp} {D : Addr} {x : V} {ns : List Int} {ys : List V} {o : HO} (h : TupI H x ns) (hD : H D = some (.lst ys)) : TupI (upd H D o) x ns := by
  obtain ⟨a, e, h⟩ := h
  refine ⟨a, e, ?_⟩
  rw [upd_ne (fun z => by rw [z, hD] at h; cases h)]
  exact h
theorem RowAt.wr {H : Hp} {D : Addr} {x : V} {r : Rw} {ys : List V} {o : HO} (h : RowAt H x r) (hD : H D = some (.lst ys)) : RowAt (upd H D o) x r := by
  obtain ⟨a, e, h⟩ := h
  refine ⟨a, e, ?_⟩
  rw [upd_ne (fun z => by rw [z, hD] at h; cases h)]
  exact h
theorem cl_snoc {H : Hp} {D : Addr} {vs : List V} {cls : List (List Int)} {x : V} {c : List Int} (hD : H D = some (.lst vs)) (h : All2 (TupI H) vs cls) (hx : TupI H x c) : ClL (upd H D (.lst (vs ++ [x]))) D (cls ++ [c]) :=
  ⟨_, upd_same, (h.imp fun _ _ r => TupI.wr r hD).snoc (TupI.wr hx hD)⟩
theorem take_snoc {α : Type} {l : List α} {i : Nat} {x : α} (h : l[i]? = some x) : l.take (i + 1) = l.take i ++ [x] := by
  rw [List.take_add_one, h]
  rfl
theorem cut_all {xs : List V} {n : Nat} (h : xs.length ≤ n) : cutV xs none (some (n : Int)) = xs := by
  unfold cutV
  rw [HT.sIx_none, HT.sIx_nat, List.drop_zero, Nat.sub_zero, Nat.min_eq_right h, List.take_length]
section
variable {P : Program} {w : World} {K : PySem.W.Frag} {mg : Str → Option Value} {base : Heap}
abbrev sNum : Stmt := topS 13
theorem scNum : FnScope ["thing", "many"] ["thing", "many"] (defScope sNum) := ⟨rfl, rfl, rfl, by decide +kernel, rfl, by decide +kernel, by decide +kernel⟩
def spNum : Sp := fun vs H Q _ => ∃ n m : Int, vs = [.int n, .int m] ∧ Q (.bl (decide (0 ≤ n) && decide (n < m))) H
theorem ok_num {f fW : Addr} {fd fdW : FuncData} {k : Nat} (F : Fun K "is_number_of" "is_number_of" sNum f fd) (FW : Fun K "is_whole" "is_whole" sWho fW fdW) (bW : Binds K fdW ["thing"] []) (gW : mg "is_whole" = some (.ref fW)) (GW : FnOk P w K mg base CX0 1 fW fdW ["thing"] spWho) :
    FnOk P w K mg base CX0 (k + 2) f fd ["thing", "many"] spNum := by
  refine F.ok scNum (fun vs H Q E h => ?_) (fun cdv A outer s H vs Q E hr h => ?_)
  · obtain ⟨n, m, rfl, _⟩ := h
    rfl
  · obtain ⟨n, m, rfl, q⟩ := h
    have hr1 : Room 1 _ := hr.mono (by omega)
    refine ⟨_, (pss_one (ps_ret (pe_and (pe_call GW hr1 (by rfl) gW FW.kp bW .nil pass0 (pa_cons (pv 0) pa_nil)) (pe_one (pe_chain op_le op_lt pe_int (pv 0) (pv 1)))))), ?_⟩
    refine ⟨_, rfl, n, rfl, _, rfl, ?_⟩
    refine ⟨_, rfl, 0, _, rfl, rfl, decide (0 ≤ n), rfl, ?_⟩
    cases e1 : decide (0 ≤ n) with
    | false =>
      rw [e1] at q
      exact q
    | true =>
      rw [e1] at q
      exact ⟨_, rfl, _, _, rfl, rfl, q⟩
theorem num_at {α : Type} {l : List α} {n : Nat} (h : (decide ((0 : Int) ≤ (n : Int)) && decide ((n : Int) < (l.length : Int))) = true) : n < l.length := by
  rw [Bool.and_eq_true] at h
  have := of_decide_eq_true h.2
  omega
theorem num_no {α : Type} {l : List α} {n : Nat} (h : ¬ (decide ((0 : Int) ≤ (n : Int)) && decide ((n : Int) < (l.length : Int))) = true) : l.length ≤ n := by
  rw [Bool.and_eq_true] at h
  by_cases z : n < l.length
  · exact absurd ⟨decide_eq_true (by omega), decide_eq_true (by omega)⟩ h
  · omega
end
end Lp
namespace Tr
open PySem PySem.Spec PyProof.Rows L2 GxR Nw Dr Kp Ct Lr
/-! ### trees -/
inductive T where
  | leaf (n : Nat)
  | cut (t u : T) (k : Int)
def T.depth : T → Nat
  | .leaf _ => 1
  | .cut t u _ => 1 + max t.depth u.depth
def T.pieces : T → Nat
  | .leaf _ => 1
  | .cut t u _ => 1 + t.pieces + u.pieces
def T.cuts : T → Nat
  | .leaf _ => 0
  | .cut t u _ => 1 + t.cuts + u.cuts
def T.isCut : T → Bool
  | .leaf _ => false
  | .cut _ _ _ => true
theorem T.pos : ∀ t : T, 1 ≤ t.depth ∧ 1 ≤ t.pieces
  | .leaf _ => ⟨Nat.le_refl _, Nat.le_refl _⟩
  | .cut t u _ => ⟨Nat.le_add_right _ _, by show 1 ≤ 1 + t.pieces + u.pieces; omega⟩
/-- at v stands the tree -/
def At (H : Hp) : T → V → Prop
  | .leaf n, v => ∃ a, v = .ref a ∧ H a = some (.tup [.str "book", .int (n : Nat)])
  | .cut t u k, v => ∃ a x y, v = .ref a ∧ H a = some (.tup [.str "cut", x, y, .int k]) ∧ At H t x ∧ At H u y
theorem At.ke {F : Addr → Prop} {H H' : Hp} (k : Ke F H H') : ∀ {t : T} {v : V}, At H t v → At H' t v
  | .leaf n, v, h => by
    obtain ⟨a, e, h⟩ := h
    exact ⟨a, e, k.tups _ _ h⟩
  | .cut t u i, v, h => by
    obtain ⟨a, x, y, e, h, h1, h2⟩ := h
    exact ⟨a, x, y, e, k.tups _ _ h, At.ke k h1, At.ke k h2⟩
theorem At.wr {H : Hp} {D : Addr} {ys : List V} {o : HO} (hD : H D = some (.lst ys)) : ∀ {t : T} {v : V}, At H t v → At (upd H D o) t v
  | .leaf n, v, h => by
    obtain ⟨a, e, h⟩ := h
    refine ⟨a, e, ?_⟩
    rw [upd_ne (fun z => by rw [z, hD] at h; cases h)]
    exact h
  | .cut t u i, v, h => by
    obtain ⟨a, x, y, e, h, h1, h2⟩ := h
    refine ⟨a, x, y, e, ?_, At.wr hD h1, At.wr hD h2⟩
    rw [upd_ne (fun z => by rw [z, hD] at h; cases h)]
    exact h
/-- its claim -/
def Cl (css : List (List Int)) : T → List Int → Prop
  | .leaf n, c => css[n]? = some c
  | .cut t u k, c => ∃ x y, Cl css t x ∧ Cl css u y ∧ Comes x y k c
theorem Cl.one {css : List (List Int)} : ∀ {t : T} {c d : List Int}, Cl css t c → Cl css t d → c = d
  | .leaf n, _, _, a, b => Option.some.inj (a.symm.trans b)
  | .cut t u k, _, _, a, b => by
    obtain ⟨x, y, h1, h2, h3⟩ := a
    obtain ⟨x', y', h1', h2', h3'⟩ := b
    cases Cl.one h1 h1'
    cases Cl.one h2 h2'
    exact h3.one h3'
theorem Cl.isCl {css : List (List Int)} (hb : ∀ c ∈ css, IsCl c) : ∀ {t : T} {c : List Int}, Cl css t c → IsCl c
  | .leaf n, c, h => hb c (List.mem_of_getElem? h)
  | .cut t u k, c, h => by
    obtain ⟨x, y, h1, h2, h3⟩ := h
    exact cl_comes (Cl.isCl hb h1) (Cl.isCl hb h2) h3
/-- all pieces, in the order in which they are done -/
def T.all : T → List T
  | .leaf n => [.leaf n]
  | .cut t u k => t.all ++ u.all ++ [.cut t u k]
theorem T.all_len : ∀ t : T, t.all.length = t.pieces
  | .leaf _ => rfl
  | .cut t u k => by
    show (t.all ++ u.all ++ [T.cut t u k]).length = 1 + t.pieces + u.pieces
    rw [List.length_append, List.length_append, T.all_len t, T.all_len u]
    show t.pieces + u.pieces + 1 = _
    omega
theorem T.all_cuts : ∀ t : T, t.all.countP T.isCut = t.cuts
  | .leaf _ => rfl
  | .cut t u k => by
    show (t.all ++ u.all ++ [T.cut t u k]).countP T.isCut = 1 + t.cuts + u.cuts
    rw [List.countP_append, List.countP_append, T.all_cuts t, T.all_cuts u]
    show t.cuts + u.cuts + 1 = _
    omega
theorem T.all_sub {css : List (List Int)} : ∀ {t : T} {c : List Int}, Cl css t c → ∀ s ∈ t.all, s.depth ≤ t.depth ∧ s.pieces ≤ t.pieces ∧ ∃ d, Cl css s d
  | .leaf n, c, h, s, hs => by
    obtain rfl : s = .leaf n := List.mem_singleton.mp hs
    exact ⟨Nat.le_refl _, Nat.le_refl _, c, h⟩
  | .cut t u k, c, h, s, hs => by
    obtain ⟨x, y, h1, h2, h3⟩ := id h
    rcases List.mem_append.mp hs with hs | hs
    · rcases List.mem_append.mp hs with hs | hs
      · obtain ⟨a1, a2, a3⟩ := T.all_sub h1 s hs
        exact ⟨by show s.depth ≤ 1 + max t.depth u.depth; omega, by show s.pieces ≤ 1 + t.pieces + u.pieces; omega, a3⟩
      · obtain ⟨a1, a2, a3⟩ := T.all_sub h2 s hs
        exact ⟨by show s.depth ≤ 1 + max t.depth u.depth; omega, by show s.pieces ≤ 1 + t.pieces + u.pieces; omega, a3⟩
    · rw [List.mem_singleton.mp hs]
      exact ⟨Nat.le_refl _, Nat.le_refl _, c, h⟩
theorem unsnoc {α β : Type} {R : α → β → Prop} {xs : List α} {ys : List β} (h : All2 R xs ys) (ne : xs ≠ []) : ∃ xs0 x ys0 y, xs = xs0 ++ [x] ∧ ys = ys0 ++ [y] ∧ All2 R xs0 ys0 ∧ R x y := by
  have l := h.1
  have lp : 0 < xs.length := by
    cases xs with
    | nil => exact absurd rfl ne
    | cons a t => exact Nat.zero_lt_succ _
  have e1 : xs = xs.take (xs.length - 1) ++ [xs[xs.length - 1]] := by
    have := Lp.take_snoc (List.getElem?_eq_getElem (show xs.length - 1 < xs.length by omega))
    rw [show xs.length - 1 + 1 = xs.length by omega, List.take_length] at this
    exact this
  have e2 : ys = ys.take (xs.length - 1) ++ [ys[xs.length - 1]] := by
    have := Lp.take_snoc (List.getElem?_eq_getElem (show xs.length - 1 < ys.length by omega))
    rw [show xs.length - 1 + 1 = ys.length by omega, List.take_length] at this
    exact this
  exact ⟨_, _, _, _, e1, e2, h.take _, h.2 _ _ _ (List.getElem?_eq_getElem _) (List.getElem?_eq_getElem _)⟩
end Tr
namespace Ct
open PySem PySem.Spec PyProof.Rows L2 Kp
/-- where two says are opposite and no two of the others are, a claim comes -/
theorem comes_ex {c1 c2 : List Int} {k : Int} (i1 : IsCl c1) (i2 : IsCl c2) (k1 : 1 ≤ k) (m1 : k ∈ c1) (m2 : -k ∈ c2) (no : ∀ j, Bes c1 c2 k j → ¬ Bes c1 c2 k (-j)) : ∃ ns, Comes c1 c2 k ns := by
  let all : List Int := (List.range 17).map fun n : Nat => (n : Int) - 8
  let ns := all.filter fun j => decide ((j ∈ c1 ∨ j ∈ c2) ∧ (j.natAbs : Int) ≠ k)
  have up : all.Pairwise (· < ·) := (by decide : ((List.range 17).map fun n : Nat => (n : Int) - 8).Pairwise (· < ·))
  refine ⟨ns, k1, m1, m2, no, up.filter _, fun j => ?_⟩
  unfold Bes
  show j ∈ all.filter _ ↔ _
  rw [List.mem_filter, decide_eq_true_iff]
  constructor
  · exact fun h => h.2
  · refine fun h => ⟨?_, h⟩
    have b : -8 ≤ j ∧ j ≤ 8 := by
      rcases h.1 with z | z
      · exact (i1.says j z).2
      · exact (i2.says j z).2
    exact List.mem_map.mpr ⟨(j + 8).toNat, List.mem_range.mpr (by omega), by omega⟩
end Ct
namespace To
open PySem PySem.Spec PyProof.Rows L2
/-! ### a tuple of whole numbers as a key (to's own, for texts without told_once) -/
def kT (c : List Int) : List Key := c.map Sum.inl
theorem kT_v (c : List Int) : (kT c).map kV = c.map V.int := by
  unfold kT
  rw [List.map_map]
  rfl
theorem kT_inj : ∀ {c d : List Int}, kT c = kT d → c = d
  | [], [], _ => rfl
  | [], _ :: _, h => (nomatch h)
  | _ :: _, [], h => (nomatch h)
  | x :: c, y :: d, h => by
    have h : (Sum.inl x : Key) :: kT c = Sum.inl y :: kT d := h
    injection h with h1 h2
    rw [Sum.inl.inj h1, kT_inj h2]
end To
namespace Un
open PySem PySem.Spec PyProof.Rows L2
theorem lt1 {n : Nat} (h : n + 64 < cLine) : n + 1 < cLine := by omega
theorem in_ints (k : Int) : ∀ cs : List Int, inV (.int k) (cs.map V.int) = true ↔ k ∈ cs
  | [] => by
    constructor
    · intro h
      cases h
    · intro h
      cases h
  | c :: r => by
    have ih := in_ints k r
    show (eqV (.int c) (.int k) || inV (.int k) (r.map V.int)) = true ↔ _
    rw [Bool.or_eq_true, ih, List.mem_cons]
    have e : eqV (.int c) (.int k) = true ↔ k = c := by
      show (c == k) = true ↔ k = c
      rw [beq_iff_eq]
      exact eq_comm
    rw [e]
end Un
namespace Dj
open PySem PySem.Spec PyProof.Rows L2 GxR Nw Dr Kp Ct Lr
open Tr (T)
/-! ### the least trees of all claims that come: a claim is done with when no other that waits has less -/
abbrev C := List Int
/-- whence a claim comes -/
inductive Rc where
  | book (n : Nat)
  | cut (a b : C) (k : Int)
/-- worths: which is no more, that of a cut, that of the book's claims -/
structure Ab (W : Type) where
  le : W → W → Prop
  ab : W → W → W
  st : W
structure Ab.Ok {W : Type} (A : Ab W) : Prop where
  re : ∀ u, A.le u u
  to : ∀ u v, A.le u v ∨ A.le v u
  tr : ∀ {u v w}, A.le u v → A.le v w → A.le u w
  ul : ∀ u v, A.le u (A.ab u v)
  ur : ∀ u v, A.le v (A.ab u v)
  mo : ∀ {u v u' v'}, A.le u u' → A.le v v' → A.le (A.ab u v) (A.ab u' v')
/-- the worth of a tree -/
def wt {W : Type} (A : Ab W) : T → W
  | .leaf _ => A.st
  | .cut t s _ => A.ab (wt A t) (wt A s)
def set {α : Type} (f : C → Option α) (c : C) (x : α) : C → Option α := fun d => if d = c then some x else f d
theorem set_same {α : Type} {f : C → Option α} {c : C} {x : α} : set f c x c = some x := if_pos rfl
theorem set_ne {α : Type} {f : C → Option α} {c d : C} {x : α} (h : d ≠ c) : set f c x d = f d := if_neg h
section
variable {W : Type} {A : Ab W} {css : List C} {ws : C → Option W} {rs : C → Option Rc} {D : List C} {Pd : C → C → Int → C → Prop}
/-- a worth is that of its record -/
def So (A : Ab W) (css : List C) (ws : C → Option W) (rs : C → Option Rc) (D : List C) (c : C) (w : W) : Prop :=
  (∃ n, rs c = some (.book n) ∧ css[n]? = some c ∧ w = A.st) ∨
  ∃ a b k u v, rs c = some (.cut a b k) ∧ a ∈ D ∧ b ∈ D ∧ Comes a b k c ∧ ws a = some u ∧ ws b = some v ∧ w = A.ab u v ∧ (c ∈ D → D.idxOf a < D.idxOf c ∧ D.idxOf b < D.idxOf c)
/-- how it stands: D is done with, Pd has been gone through -/
structure Inv (A : Ab W) (css : List C) (ws : C → Option W) (rs : C → Option Rc) (D : List C) (Pd : C → C → Int → C → Prop) : Prop where
  bk : ∀ c ∈ css, ∃ w, ws c = some w ∧ A.le w A.st
  nd : D.Nodup
  dk : ∀ c ∈ D, ∃ w, ws c = some w
  lo : ∀ d ∈ D, ∀ c, c ∉ D → ∀ u w, ws d = some u → ws c = some w → A.le u w
  so : ∀ c w, ws c = some w → So A css ws rs D c w
  ps : ∀ a b k c, Pd a b k c → a ∈ D ∧ b ∈ D ∧ ∃ u v w, ws a = some u ∧ ws b = some v ∧ ws c = some w ∧ A.le w (A.ab u v)
theorem Inv.keep (I : Inv A css ws rs D Pd) {a b c : C} {k : Int} {u v w : W} (ha : a ∈ D) (hb : b ∈ D) (ua : ws a = some u) (ub : ws b = some v) (uc : ws c = some w) (l : A.le w (A.ab u v)) :
    Inv A css ws rs D fun a' b' k' c' => Pd a' b' k' c' ∨ (a' = a ∧ b' = b ∧ k' = k ∧ c' = c) := by
  refine ⟨I.bk, I.nd, I.dk, I.lo, I.so, fun a' b' k' c' h => ?_⟩
  rcases h with h | ⟨rfl, rfl, rfl, rfl⟩
  · exact I.ps _ _ _ _ h
  · exact ⟨ha, hb, u, v, w, ua, ub, uc, l⟩
theorem Inv.put (o : A.Ok) (I : Inv A css ws rs D Pd) {a b c x : C} {k : Int} {u v wx : W} (hx : x ∈ D) (ux : ws x = some wx) (tx : ∀ d ∈ D, ∀ w, ws d = some w → A.le w wx) (ha : a ∈ D) (hb : b ∈ D) (ax : a = x ∨ b = x) (ua : ws a = some u) (ub : ws b = some v) (cm : Comes a b k c) (no : ∀ w, ws c = some w → ¬ A.le w (A.ab u v)) :
    c ∉ D ∧ Inv A css (set ws c (A.ab u v)) (set rs c (.cut a b k)) D fun a' b' k' c' => Pd a' b' k' c' ∨ (a' = a ∧ b' = b ∧ k' = k ∧ c' = c) := by
  have lx : A.le wx (A.ab u v) := by
    rcases ax with rfl | rfl
    · rw [ux] at ua
      cases ua
      exact o.ul _ _
    · rw [ux] at ub
      cases ub
      exact o.ur _ _
  have nin : c ∉ D := fun z => by
    obtain ⟨w, hw⟩ := I.dk c z
    exact no w hw (o.tr (tx c z w hw) lx)
  have old : ∀ {d : C}, d ∈ D → set ws c (A.ab u v) d = ws d := fun {d} hd => set_ne fun e => nin (e ▸ hd)
  refine ⟨nin, ?_, I.nd, fun d hd => by rw [old hd]; exact I.dk d hd, fun d hd e ne u' w' h1 h2 => ?_, fun d w' h => ?_, fun a' b' k' c' h => ?_⟩
  · intro d hd
    obtain ⟨w, h1, h2⟩ := I.bk d hd
    by_cases z : d = c
    · subst z
      rw [set_same]
      exact ⟨_, rfl, o.tr ((o.to _ _).resolve_left (no w h1)) h2⟩
    · rw [set_ne z]
      exact ⟨w, h1, h2⟩
  · rw [old hd] at h1
    by_cases z : e = c
    · subst z
      rw [set_same] at h2
      cases h2
      exact o.tr (tx d hd u' h1) lx
    · rw [set_ne z] at h2
      exact I.lo d hd e ne u' w' h1 h2
  · by_cases z : d = c
    · subst z
      rw [set_same] at h
      cases h
      exact .inr ⟨a, b, k, u, v, set_same, ha, hb, cm, by rw [old ha]; exact ua, by rw [old hb]; exact ub, rfl, fun z => absurd z nin⟩
    · rw [set_ne z] at h
      rcases I.so d w' h with ⟨n, h1, h2⟩ | ⟨a', b', k', u', v', h1, ha', hb', h2, h3, h4, h5⟩
      · exact .inl ⟨n, by rw [set_ne z]; exact h1, h2⟩
      · exact .inr ⟨a', b', k', u', v', by rw [set_ne z]; exact h1, ha', hb', h2, by rw [old ha']; exact h3, by rw [old hb']; exact h4, h5⟩
  · rcases h with h | ⟨rfl, rfl, rfl, rfl⟩
    · obtain ⟨ha', hb', u', v', w', h1, h2, h3, h4⟩ := I.ps _ _ _ _ h
      refine ⟨ha', hb', u', v', ?_⟩
      rw [old ha', old hb']
      by_cases z : c' = c
      · subst z
        exact ⟨_, h1, h2, set_same, o.tr ((o.to _ _).resolve_left (no w' h3)) h4⟩
      · exact ⟨w', h1, h2, by rw [set_ne z]; exact h3, h4⟩
    · exact ⟨ha, hb, u, v, _, by rw [old ha]; exact ua, by rw [old hb]; exact ub, set_same, o.re _⟩
theorem idx_app {a x : C} (h : a ∈ D) : (D ++ [x]).idxOf a = D.idxOf a := by rw [List.idxOf_append, if_pos h]
theorem idx_new {x : C} (h : x ∉ D) : (D ++ [x]).idxOf x = D.length := by rw [List.idxOf_append, if_neg h, List.idxOf_cons_self, Nat.zero_add]
/-- one that waits with no more than the others is done with -/
theorem Inv.pick (o : A.Ok) (I : Inv A css ws rs D Pd) {x : C} {wx : W} (hx : x ∉ D) (ux : ws x = some wx) (mn : ∀ c, c ∉ D → ∀ w, ws c = some w → A.le wx w) :
    Inv A css ws rs (D ++ [x]) Pd ∧ ∀ d ∈ D ++ [x], ∀ w, ws d = some w → A.le w wx := by
  have sub : ∀ {d : C}, d ∈ D → d ∈ D ++ [x] := fun {d} h => List.mem_append.mpr (.inl h)
  refine ⟨⟨I.bk, ?_, fun c hc => ?_, fun d hd c hc u w h1 h2 => ?_, fun c w h => ?_, fun a b k c h => ?_⟩, fun d hd w h => ?_⟩
  · rw [List.nodup_append]
    refine ⟨I.nd, by simp, fun a ha b hb e => ?_⟩
    rw [List.mem_singleton.mp hb] at e
    exact hx (e ▸ ha)
  · rcases List.mem_append.mp hc with h | h
    · exact I.dk c h
    · rw [List.mem_singleton.mp h]
      exact ⟨wx, ux⟩
  · have nc : c ∉ D := fun z => hc (sub z)
    rcases List.mem_append.mp hd with h | h
    · exact I.lo d h c nc u w h1 h2
    · rw [List.mem_singleton.mp h, ux] at h1
      cases h1
      exact mn c nc w h2
  · rcases I.so c w h with h1 | ⟨a, b, k, u, v, h1, ha, hb, h2, h3, h4, h5, h6⟩
    · exact .inl h1
    · refine .inr ⟨a, b, k, u, v, h1, sub ha, sub hb, h2, h3, h4, h5, fun hc => ?_⟩
      rw [idx_app ha, idx_app hb]
      rcases List.mem_append.mp hc with z | z
      · rw [idx_app z]
        exact h6 z
      · have e := List.mem_singleton.mp z
        subst e
        rw [idx_new hx]
        exact ⟨List.idxOf_lt_length_of_mem ha, List.idxOf_lt_length_of_mem hb⟩
  · obtain ⟨ha, hb, h1⟩ := I.ps _ _ _ _ h
    exact ⟨sub ha, sub hb, h1⟩
  · rcases List.mem_append.mp hd with z | z
    · exact I.lo d z x hx w wx h ux
    · rw [List.mem_singleton.mp z, ux] at h
      cases h
      exact o.re _
/-- the tree that the records tell -/
inductive By (rs : C → Option Rc) : C → T → Prop
  | book {c : C} {n : Nat} : rs c = some (.book n) → By rs c (.leaf n)
  | cut {c a b : C} {k : Int} {t s : T} : rs c = some (.cut a b k) → By rs a t → By rs b s → By rs c (.cut t s k)
theorem By.one {c : C} {t : T} (h : By rs c t) : ∀ {t' : T}, By rs c t' → t = t' := by
  induction h with
  | book e =>
    intro t' g
    cases g with
    | book e' => rw [e] at e'; cases e'; rfl
    | cut e' _ _ => rw [e] at e'; cases e'
  | cut e _ _ ih1 ih2 =>
    intro t' g
    cases g with
    | book e' => rw [e] at e'; cases e'
    | cut e' g1 g2 => rw [e] at e'; cases e'; rw [ih1 g1, ih2 g2]
/-- all are done with -/
structure Fin (A : Ab W) (css : List C) (ws : C → Option W) (rs : C → Option Rc) : Prop where
  bk : ∀ c ∈ css, ∃ w, ws c = some w ∧ A.le w A.st
  ps : ∀ a b k c u v, ws a = some u → ws b = some v → Comes a b k c → ∃ w, ws c = some w ∧ A.le w (A.ab u v)
  le : ∀ (t : T) (c : C), Tr.Cl css t c → ∃ w, ws c = some w ∧ A.le w (wt A t)
  tr : ∀ c w, ws c = some w → ∃ t, By rs c t ∧ Tr.Cl css t c ∧ wt A t = w
theorem Inv.fin (o : A.Ok) (I : Inv A css ws rs D Pd) (al : ∀ c w, ws c = some w → c ∈ D) (pa : ∀ a b k c, a ∈ D → b ∈ D → Comes a b k c → Pd a b k c) : Fin A css ws rs := by
  have ps : ∀ a b k c u v, ws a = some u → ws b = some v → Comes a b k c → ∃ w, ws c = some w ∧ A.le w (A.ab u v) := fun a b k c u v h1 h2 cm => by
    obtain ⟨_, _, u', v', w, g1, g2, g3, g4⟩ := I.ps _ _ _ _ (pa a b k c (al a u h1) (al b v h2) cm)
    rw [h1] at g1
    rw [h2] at g2
    cases g1
    cases g2
    exact ⟨w, g3, g4⟩
  refine ⟨I.bk, ps, fun t => ?_, ?_⟩
  · induction t with
    | leaf n => exact fun c h => I.bk c (List.mem_of_getElem? h)
    | cut t s k ih1 ih2 =>
      rintro c ⟨x, y, h1, h2, cm⟩
      obtain ⟨u, e1, l1⟩ := ih1 x h1
      obtain ⟨v, e2, l2⟩ := ih2 y h2
      obtain ⟨w, e3, l3⟩ := ps x y k c u v e1 e2 cm
      exact ⟨w, e3, o.tr l3 (o.mo l1 l2)⟩
  · have key : ∀ (n : Nat) (c : C) (w : W), D.idxOf c < n → ws c = some w → ∃ t, By rs c t ∧ Tr.Cl css t c ∧ wt A t = w := by
      intro n
      induction n with
      | zero => exact fun c w h => absurd h (Nat.not_lt_zero _)
      | succ n ih =>
        intro c w hn h
        rcases I.so c w h with ⟨m, h1, h2, h3⟩ | ⟨a, b, k, u, v, h1, ha, hb, h2, h3, h4, h5, h6⟩
        · exact ⟨.leaf m, .book h1, h2, h3.symm⟩
        · obtain ⟨i1, i2⟩ := h6 (al c w h)
          obtain ⟨t, p1, p2, p3⟩ := ih a u (by omega) h3
          obtain ⟨s, q1, q2, q3⟩ := ih b v (by omega) h4
          exact ⟨.cut t s k, .cut h1 p1 q1, ⟨a, b, p2, q2, h2⟩, by show A.ab _ _ = w; rw [p3, q3, h5]⟩
    exact fun c w h => key _ c w (Nat.lt_succ_self _) h
end
/-! ### fewest cuts, then the least height; the least height -/
def aC : Ab (Nat × Nat) where
  le := fun u v => u.1 < v.1 ∨ (u.1 = v.1 ∧ u.2 ≤ v.2)
  ab := fun u v => (u.1 + v.1 + 1, 1 + max u.2 v.2)
  st := (0, 0)
def aH : Ab Nat where
  le := fun u v => u ≤ v
  ab := fun u v => 1 + max u v
  st := 0
theorem aC_ok : aC.Ok := by
  refine ⟨fun u => .inr ⟨rfl, Nat.le_refl _⟩, fun u v => ?_, fun {u v w} h g => ?_, fun u v => .inl ?_, fun u v => .inl ?_, fun {u v u' v'} h g => ?_⟩
  · show (u.1 < v.1 ∨ (u.1 = v.1 ∧ u.2 ≤ v.2)) ∨ (v.1 < u.1 ∨ (v.1 = u.1 ∧ v.2 ≤ u.2))
    omega
  · have h : u.1 < v.1 ∨ (u.1 = v.1 ∧ u.2 ≤ v.2) := h
    have g : v.1 < w.1 ∨ (v.1 = w.1 ∧ v.2 ≤ w.2) := g
    show u.1 < w.1 ∨ (u.1 = w.1 ∧ u.2 ≤ w.2)
    omega
  · show u.1 < u.1 + v.1 + 1
    omega
  · show v.1 < u.1 + v.1 + 1
    omega
  · have h : u.1 < u'.1 ∨ (u.1 = u'.1 ∧ u.2 ≤ u'.2) := h
    have g : v.1 < v'.1 ∨ (v.1 = v'.1 ∧ v.2 ≤ v'.2) := g
    show u.1 + v.1 + 1 < u'.1 + v'.1 + 1 ∨ (u.1 + v.1 + 1 = u'.1 + v'.1 + 1 ∧ 1 + max u.2 v.2 ≤ 1 + max u'.2 v'.2)
    omega
theorem aH_ok : aH.Ok := by
  refine ⟨fun u => Nat.le_refl _, fun u v => Nat.le_total u v, fun {u v w} h g => Nat.le_trans h g, fun u v => ?_, fun u v => ?_, fun {u v u' v'} h g => ?_⟩
  · show u ≤ 1 + max u v
    omega
  · show v ≤ 1 + max u v
    omega
  · have h : u ≤ u' := h
    have g : v ≤ v' := g
    show 1 + max u v ≤ 1 + max u' v'
    omega
theorem wt_cuts : ∀ t : T, (wt aC t).1 = t.cuts
  | .leaf _ => rfl
  | .cut t s _ => by
    show (wt aC t).1 + (wt aC s).1 + 1 = 1 + t.cuts + s.cuts
    rw [wt_cuts t, wt_cuts s]
    omega
theorem wt_high : ∀ t : T, (wt aC t).2 + 1 = t.depth ∧ wt aH t + 1 = t.depth
  | .leaf _ => ⟨rfl, rfl⟩
  | .cut t s _ => by
    have h1 := wt_high t
    have h2 := wt_high s
    show (1 + max (wt aC t).2 (wt aC s).2) + 1 = 1 + max t.depth s.depth ∧ (1 + max (wt aH t) (wt aH s)) + 1 = 1 + max t.depth s.depth
    omega
theorem high_cuts : ∀ t : T, t.depth ≤ t.cuts + 1
  | .leaf _ => Nat.le_refl _
  | .cut t s _ => by
    have h1 := high_cuts t
    have h2 := high_cuts s
    show 1 + max t.depth s.depth ≤ (1 + t.cuts + s.cuts) + 1
    omega
section
variable {css : List C} {wc : C → Option (Nat × Nat)} {rc rh : C → Option Rc} {wh : C → Option Nat}
/-- the same claims have both, and the height is no more than the cuts -/
theorem both (fc : Fin aC css wc rc) (fh : Fin aH css wh rh) {c : C} : (∀ u, wc c = some u → ∃ h, wh c = some h ∧ h ≤ u.1) ∧ (∀ h, wh c = some h → ∃ u, wc c = some u) := by
  refine ⟨fun u e => ?_, fun h e => ?_⟩
  · obtain ⟨t, _, cl, wt1⟩ := fc.tr c u e
    obtain ⟨h, e2, l⟩ := fh.le t c cl
    have l : h ≤ wt aH t := l
    have := wt_high t
    have := high_cuts t
    have := wt_cuts t
    rw [wt1] at this
    exact ⟨h, e2, by omega⟩
  · obtain ⟨t, _, cl, _⟩ := fh.tr c h e
    obtain ⟨u, e2, _⟩ := fc.le t c cl
    exact ⟨u, e2⟩
/-- fewest: no tree of the claim has fewer cuts; some tree has as many -/
theorem Fin.cuts (fc : Fin aC css wc rc) {c : C} {u : Nat × Nat} (e : wc c = some u) : (∀ t, Tr.Cl css t c → u.1 ≤ t.cuts) ∧ ∃ t, By rc c t ∧ Tr.Cl css t c ∧ t.cuts = u.1 ∧ t.depth = u.2 + 1 := by
  refine ⟨fun t cl => ?_, ?_⟩
  · obtain ⟨w, e2, l⟩ := fc.le t c cl
    rw [e] at e2
    cases e2
    have l : u.1 < (wt aC t).1 ∨ (u.1 = (wt aC t).1 ∧ u.2 ≤ (wt aC t).2) := l
    have := wt_cuts t
    omega
  · obtain ⟨t, b, cl, w⟩ := fc.tr c u e
    have h1 := wt_cuts t
    have h2 := (wt_high t).1
    rw [w] at h1 h2
    exact ⟨t, b, cl, h1.symm, h2.symm⟩
end
end Dj
namespace Cpl
open PySem PySem.Spec PyProof.Rows L2 GxR Nw Dr Kp Ct Lr
/-! ### where no claim that comes is among a claim's says, some setting shows it doesn't follow -/
def yes (bs : List Bool) (k : Int) : Bool := bs.getD (k.natAbs - 1) false == decide (0 < k)
structure Ok (css : List (List Int)) (F : List Int) : Prop where
  cs : ∀ k ∈ F, -k ∉ F
  no : ∀ t c, Tr.Cl css t c → ¬ ∀ k ∈ c, k ∈ F
theorem Ok.step {css : List (List Int)} {F : List Int} (ib : ∀ c ∈ css, IsCl c) (o : Ok css F) {v : Int} (v1 : 1 ≤ v) : ∃ F', Ok css F' ∧ (∀ k ∈ F, k ∈ F') ∧ (v ∈ F' ∨ -v ∈ F') := by
  by_cases hp : v ∈ F
  · exact ⟨F, o, fun _ h => h, .inl hp⟩
  by_cases hn : -v ∈ F
  · exact ⟨F, o, fun _ h => h, .inr hn⟩
  by_cases hA : ∀ t c, Tr.Cl css t c → ¬ ∀ k ∈ c, k ∈ v :: F
  · refine ⟨v :: F, ⟨fun k hk z => ?_, hA⟩, fun _ h => List.mem_cons_of_mem _ h, .inl List.mem_cons_self⟩
    rcases List.mem_cons.mp hk with e | e <;> rcases List.mem_cons.mp z with e' | e'
    · omega
    · rw [e] at e'
      exact hn e'
    · have : k = -v := by omega
      rw [this] at e
      exact hn e
    · exact o.cs k e e'
  by_cases hB : ∀ t c, Tr.Cl css t c → ¬ ∀ k ∈ c, k ∈ -v :: F
  · refine ⟨-v :: F, ⟨fun k hk z => ?_, hB⟩, fun _ h => List.mem_cons_of_mem _ h, .inr List.mem_cons_self⟩
    rcases List.mem_cons.mp hk with e | e <;> rcases List.mem_cons.mp z with e' | e'
    · omega
    · rw [e, Int.neg_neg] at e'
      exact hp e'
    · have : k = v := by omega
      rw [this] at e
      exact hp e
    · exact o.cs k e e'
  exfalso
  obtain ⟨t1, hA⟩ := Classical.not_forall.mp hA
  obtain ⟨c1, hA⟩ := Classical.not_forall.mp hA
  obtain ⟨l1, hA⟩ := Classical.not_imp.mp hA
  have a1 : ∀ k ∈ c1, k ∈ v :: F := Classical.not_not.mp hA
  obtain ⟨t2, hB⟩ := Classical.not_forall.mp hB
  obtain ⟨c2, hB⟩ := Classical.not_forall.mp hB
  obtain ⟨l2, hB⟩ := Classical.not_imp.mp hB
  have a2 : ∀ k ∈ c2, k ∈ -v :: F := Classical.not_not.mp hB
  have m1 : v ∈ c1 := Classical.byContradiction fun z => o.no t1 c1 l1 fun k hk => (List.mem_cons.mp (a1 k hk)).resolve_left fun e => z (e ▸ hk)
  have m2 : -v ∈ c2 := Classical.byContradiction fun z => o.no t2 c2 l2 fun k hk => (List.mem_cons.mp (a2 k hk)).resolve_left fun e => z (e ▸ hk)
  have i1 := Tr.Cl.isCl ib l1
  have i2 := Tr.Cl.isCl ib l2
  have bes : ∀ j, Bes c1 c2 v j → j ∈ F := fun j hj => by
    obtain ⟨h1, h2⟩ := hj
    rcases h1 with h | h
    · exact (List.mem_cons.mp (a1 j h)).resolve_left fun e => h2 (by omega)
    · exact (List.mem_cons.mp (a2 j h)).resolve_left fun e => h2 (by omega)
  obtain ⟨ns, cm⟩ := comes_ex i1 i2 v1 m1 m2 fun j h1 h2 => o.cs j (bes j h1) (bes _ h2)
  exact o.no (.cut t1 t2 v) ns ⟨c1, c2, l1, l2, cm⟩ fun k hk => bes k ((cm.2.2.2.2.2 k).mp hk)
theorem Ok.steps {css : List (List Int)} {F : List Int} (ib : ∀ c ∈ css, IsCl c) (o : Ok css F) : ∀ n : Nat, ∃ F', Ok css F' ∧ (∀ k ∈ F, k ∈ F') ∧ ∀ v : Int, 1 ≤ v → v ≤ n → v ∈ F' ∨ -v ∈ F'
  | 0 => ⟨F, o, fun _ h => h, fun v h1 h2 => by omega⟩
  | n + 1 => by
    obtain ⟨F1, o1, s1, t1⟩ := Ok.steps ib o n
    obtain ⟨F2, o2, s2, t2⟩ := o1.step ib (v := ((n + 1 : Nat) : Int)) (by omega)
    refine ⟨F2, o2, fun k h => s2 k (s1 k h), fun v h1 h2 => ?_⟩
    by_cases z : v = ((n + 1 : Nat) : Int)
    · rw [z]
      exact t2
    · exact (t1 v h1 (by omega)).imp (s2 _) (s2 _)
/-- the setting in which all of F is false -/
def setF (F : List Int) : List Bool := (List.range 8).map fun i : Nat => decide (-((i : Int) + 1) ∈ F)
theorem yes_pos {F : List Int} {k : Int} (h1 : 1 ≤ k) (h8 : k ≤ 8) : yes (setF F) k = decide (-k ∈ F) := by
  unfold yes setF
  have l : k.natAbs - 1 < 8 := by omega
  rw [List.getD_eq_getElem?_getD, List.getElem?_map, List.getElem?_range l, decide_eq_true (show 0 < k by omega)]
  show (decide (-(((k.natAbs - 1 : Nat) : Int) + 1) ∈ F) == true) = _
  rw [show (((k.natAbs - 1 : Nat) : Int) + 1) = k by omega]
  cases decide (-k ∈ F) <;> rfl
theorem yes_neg {F : List Int} {k : Int} (h1 : k ≤ -1) (h8 : -8 ≤ k) : yes (setF F) k = !decide (k ∈ F) := by
  unfold yes setF
  have l : k.natAbs - 1 < 8 := by omega
  rw [List.getD_eq_getElem?_getD, List.getElem?_map, List.getElem?_range l, decide_eq_false (show ¬ 0 < k by omega)]
  show (decide (-(((k.natAbs - 1 : Nat) : Int) + 1) ∈ F) == false) = _
  rw [show -(((k.natAbs - 1 : Nat) : Int) + 1) = k by omega]
  cases decide (k ∈ F) <;> rfl
theorem complete {css : List (List Int)} (ib : ∀ c ∈ css, IsCl c) {cs : List Int} (ic : IsCl cs) (no : ∀ t c, Tr.Cl css t c → ¬ ∀ k ∈ c, k ∈ cs) :
    ∃ bs : List Bool, bs.length = 8 ∧ (∀ k ∈ cs, yes bs k = false) ∧ ∀ c ∈ css, ∃ k ∈ c, yes bs k = true := by
  obtain ⟨F, o, s, t⟩ := Ok.steps ib (⟨ic.opp, no⟩ : Ok css cs) 8
  refine ⟨setF F, by unfold setF; rw [List.length_map, List.length_range], fun k hk => ?_, fun c hc => ?_⟩
  · obtain ⟨n0, l1, l2⟩ := ic.says k hk
    have hF := s k hk
    rcases Int.lt_or_gt_of_ne n0 with z | z
    · rw [yes_neg (by omega) l1, decide_eq_true hF]
      rfl
    · rw [yes_pos (by omega) l2]
      exact decide_eq_false (o.cs k hF)
  · obtain ⟨n, hn⟩ := List.getElem?_of_mem hc
    have h := o.no (.leaf n) c hn
    obtain ⟨k, h⟩ := Classical.not_forall.mp h
    obtain ⟨hk, nF⟩ := Classical.not_imp.mp h
    obtain ⟨n0, l1, l2⟩ := (ib c hc).says k hk
    refine ⟨k, hk, ?_⟩
    rcases Int.lt_or_gt_of_ne n0 with z | z
    · rw [yes_neg (by omega) l1, decide_eq_false nF]
      rfl
    · rw [yes_pos (by omega) l2]
      exact decide_eq_true ((t k (by omega) (by omega)).resolve_left nF)
end Cpl
namespace Tp
open PySem PySem.Spec PyProof.Rows L2 GxR Nw Dr Kp Se Ct Lr Lp Tr
structure Zt5 (mg : Str → Option Value) : Prop where
  z_len : mg "len" = none
  z_isinstance : mg "isinstance" = none
  z_tuple : mg "tuple" = none
section
variable {P : Program} {w : World} {K : PySem.W.Frag} {mg : Str → Option Value} {base : Heap}
abbrev sFork : Stmt := topS 17
theorem scFork : FnScope ["thing"] ["thing"] (defScope sFork) := ⟨rfl, rfl, rfl, by decide +kernel, rfl, by decide +kernel, by decide +kernel⟩
def spFork : Sp := fun vs H Q _ => ∃ (v : V) (t : T), vs = [v] ∧ At H t v ∧ Q (.bl t.isCut) H
theorem ok_fork {f : Addr} {fd : FuncData} {k : Nat} (F : Fun K "is_fork" "is_fork" sFork f fd) (Z : Zt5 mg) : FnOk P w K mg base CX0 (k + 1) f fd ["thing"] spFork := by
  have T := Z
  refine F.ok scFork (fun vs H Q E h => ?_) (fun cdv A outer s H vs Q E hr h => ?_)
  · obtain ⟨v, t, rfl, _⟩ := h
    rfl
  · obtain ⟨v, t, rfl, ht, q⟩ := h
    refine ⟨_, (pss_one (ps_ret (pe_and (pe_callB call_isi (by rfl) T.z_isinstance (by decide +kernel) (pa_cons (pv 0) (pa_cons (pe_bltn (v := .ty "tuple") (u := .type "tuple") (by rfl) T.z_tuple (by decide +kernel) rfl) pa_nil))) (pe_and (pe_cmpR op_eq (pe_callB call_len_seq (by rfl) T.z_len (by decide +kernel) (pa_cons (pv 0) pa_nil)) pe_int (nomark _)) (pe_one (pe_cmpR op_eq (pe_ix ix_tup (pv 0) pe_int (fun _ _ => rfl)) pe_str (nomark _))))))), ?_⟩
    cases t with
    | leaf n =>
      obtain ⟨a, rfl, ha⟩ := ht
      refine ⟨_, rfl, .ref a, .ty "tuple", .type "tuple", .type "tuple", true, rfl, .ty _, .base (.tup ha), kit_ty (by decide +kernel), _, rfl, ?_⟩
      exact ⟨_, rfl, a, _, rfl, .inr (.of ha), rfl, false, rfl, q⟩
    | cut t u k =>
      obtain ⟨a, x, y, rfl, ha, _, _⟩ := ht
      refine ⟨_, rfl, .ref a, .ty "tuple", .type "tuple", .type "tuple", true, rfl, .ty _, .base (.tup ha), kit_ty (by decide +kernel), _, rfl, ?_⟩
      refine ⟨_, rfl, a, _, rfl, .inr (.of ha), rfl, true, rfl, ?_⟩
      refine ⟨_, rfl, a, _, 0, .str "cut", rfl, rfl, .of ha, rfl, rfl, ?_⟩
      rw [decide_eq_true rfl]
      exact q
abbrev sLeaf : Stmt := topS 18
theorem scLeaf : FnScope ["thing"] ["thing"] (defScope sLeaf) := ⟨rfl, rfl, rfl, by decide +kernel, rfl, by decide +kernel, by decide +kernel⟩
def spLeaf : Sp := fun vs H Q _ => ∃ (v : V) (t : T), vs = [v] ∧ At H t v ∧ Q (.bl (!t.isCut)) H
theorem ok_leaf {f : Addr} {fd : FuncData} {k : Nat} (F : Fun K "is_leaf" "is_leaf" sLeaf f fd) (Z : Zt5 mg) : FnOk P w K mg base CX0 (k + 1) f fd ["thing"] spLeaf := by
  have T := Z
  refine F.ok scLeaf (fun vs H Q E h => ?_) (fun cdv A outer s H vs Q E hr h => ?_)
  · obtain ⟨v, t, rfl, _⟩ := h
    rfl
  · obtain ⟨v, t, rfl, ht, q⟩ := h
    refine ⟨_, (pss_one (ps_ret (pe_and (pe_callB call_isi (by rfl) T.z_isinstance (by decide +kernel) (pa_cons (pv 0) (pa_cons (pe_bltn (v := .ty "tuple") (u := .type "tuple") (by rfl) T.z_tuple (by decide +kernel) rfl) pa_nil))) (pe_and (pe_cmpR op_eq (pe_callB call_len_seq (by rfl) T.z_len (by decide +kernel) (pa_cons (pv 0) pa_nil)) pe_int (nomark _)) (pe_one (pe_cmpR op_eq (pe_ix ix_tup (pv 0) pe_int (fun _ _ => rfl)) pe_str (nomark _))))))), ?_⟩
    cases t with
    | leaf n =>
      obtain ⟨a, rfl, ha⟩ := ht
      refine ⟨_, rfl, .ref a, .ty "tuple", .type "tuple", .type "tuple", true, rfl, .ty _, .base (.tup ha), kit_ty (by decide +kernel), _, rfl, ?_⟩
      refine ⟨_, rfl, a, _, rfl, .inr (.of ha), rfl, true, rfl, ?_⟩
      refine ⟨_, rfl, a, _, 0, .str "book", rfl, rfl, .of ha, rfl, rfl, ?_⟩
      rw [decide_eq_true rfl]
      exact q
    | cut t u k =>
      obtain ⟨a, x, y, rfl, ha, _, _⟩ := ht
      refine ⟨_, rfl, .ref a, .ty "tuple", .type "tuple", .type "tuple", true, rfl, .ty _, .base (.tup ha), kit_ty (by decide +kernel), _, rfl, ?_⟩
      exact ⟨_, rfl, a, _, rfl, .inr (.of ha), rfl, false, rfl, q⟩
/-! ### the size -/
/-- what waits -/
def Wt (H : Hp) (x : V) (tw : T × Nat) : Prop := ∃ p y, x = .ref p ∧ H p = some (.tup [y, .int (tw.2 : Nat)]) ∧ At H tw.1 y
theorem Wt.ke {F : Addr → Prop} {H H' : Hp} {x : V} {tw : T × Nat} (h : Wt H x tw) (k : Ke F H H') : Wt H' x tw := by
  obtain ⟨p, y, e, h1, h2⟩ := h
  exact ⟨p, y, e, k.tups _ _ h1, h2.ke k⟩
theorem Wt.wr {H : Hp} {D : Addr} {ys : List V} {o : HO} {x : V} {tw : T × Nat} (h : Wt H x tw) (hD : H D = some (.lst ys)) : Wt (upd H D o) x tw := by
  obtain ⟨p, y, e, h1, h2⟩ := h
  refine ⟨p, y, e, ?_, h2.wr hD⟩
  rw [upd_ne (fun z => by rw [z, hD] at h1; cases h1)]
  exact h1
def left (ws : List (T × Nat)) : Nat := (ws.map fun tw => tw.1.pieces).sum
theorem left_snoc (ws : List (T × Nat)) (tw : T × Nat) : left (ws ++ [tw]) = left ws + tw.1.pieces := by
  unfold left
  rw [List.map_append, List.sum_append]
  rfl
theorem left_len : ∀ ws : List (T × Nat), ws.length ≤ left ws
  | [] => Nat.le_refl _
  | tw :: r => by
    have := left_len r
    have := tw.1.pos.2
    show r.length + 1 ≤ tw.1.pieces + left r
    omega
abbrev sSize : Stmt := topS 19
theorem scSize : FnScope ["thing", "waiting", "pieces", "part", "within"] ["thing"] (defScope sSize) := ⟨rfl, rfl, rfl, by decide +kernel, rfl, by decide +kernel, by decide +kernel⟩
def spSize : Sp := fun vs H Q _ => ∃ (v : V) (t : T), vs = [v] ∧ At H t v ∧ t.pieces ≤ 360 ∧ t.depth ≤ 40 ∧ ∀ H', Ke Nof H H' → Q (.bl true) H'
theorem ok_size {f fF : Addr} {fd fdF : FuncData} {k : Nat} {tk tk' : Tok} (F : Fun K "has_size_of_tree" "has_size_of_tree" sSize f fd) (M3 : mg "MOST_PIECES" = some (.int 360 tk)) (M4 : mg "MOST_WITHIN" = some (.int 40 tk')) (FF : Fun K "is_fork" "is_fork" sFork fF fdF) (bF : Binds K fdF ["thing"] []) (gF : mg "is_fork" = some (.ref fF)) (GF : FnOk P w K mg base CX0 1 fF fdF ["thing"] spFork) :
    FnOk P w K mg base CX0 (k + 2) f fd ["thing"] spSize := by
  refine F.ok scSize (fun vs H Q E h => ?_) (fun cdv A outer s H vs Q E hr h => ?_)
  · obtain ⟨v, t, rfl, _⟩ := h
    rfl
  · obtain ⟨v, t, rfl, ht, hp, hd, q⟩ := h
    have hr1 : Room 1 _ := hr.mono (by omega)
    refine ⟨_, (Evl.pss_cut (ps_set (i := 1) scSize.nd rfl (.inl rfl) (pe_lstN (pa_cons (pe_tupN (pa_cons (pv 0) (pa_cons pe_int pa_nil))) pa_nil)))
      (Evl.pss_cut (ps_set (i := 2) scSize.nd rfl (.inl rfl) pe_int)
      (pss_cons (ps_while PassesOwn.never (pt_truth (pv 1) (fun _ => rfl)) (Evl.pss_cut (ps_asg (pe_bm0 PySem.F.plainAttrs_list PySem.F.slot_list_pop PySem.F.type_list_pop mt_pop (pv 1)) (pg_tup rfl (pgs_cons (pg_name (i := 3) scSize.nd rfl (.inl rfl)) (pgs_cons (pg_name (i := 4) scSize.nd rfl (.inl rfl)) pgs_nil))))
      (Evl.pss_cut (ps_aug (i := 2) scSize.nd rfl (.inl rfl) pe_int ip_add)
      (Evl.pss_cut (ps_if (PW.pt (pw_or (pt_cmpR op_gt (pv 2) (pe_glob (v := .int 360) rfl M3 ⟨_, rfl⟩) (nomark _)) (pw_or1 (pt_cmpR op_gt (pv 4) (pe_glob (v := .int 40) rfl M4 ⟨_, rfl⟩) (nomark _))))) pss_never pss_nil)
      (pss_one (ps_if (pt_val (pe_call GF hr1 (by rfl) gF FF.kp bF .nil pass0 (pa_cons (pv 3) pa_nil))) (pss_cons (ps_expr (pe_bm PySem.F.plainAttrs_list PySem.F.slot_list_append PySem.F.type_list_append mt_append (pv 1) (pa_cons (pe_tupN (pa_cons (pe_ix ix_tup (pv 3) pe_int (fun _ _ => rfl)) (pa_cons (pe_op op_add (pv 4) pe_int) pa_nil))) pa_nil)))
      (pss_one (ps_expr (pe_bm PySem.F.plainAttrs_list PySem.F.slot_list_append PySem.F.type_list_append mt_append (pv 1) (pa_cons (pe_tupN (pa_cons (pe_ix ix_tup (pv 3) pe_int (fun _ _ => rfl)) (pa_cons (pe_op op_add (pv 4) pe_int) pa_nil))) pa_nil))))) pss_nil))))))
      (pss_one (ps_ret pe_bl))))), ?_⟩
    refine Evl.q_cut (M := fun σ' H' => ∃ D : Addr, σ' = [some v, some (.ref D), none, none, none] ∧ H D = none ∧ Ke Nof H H' ∧ ∃ vs, H' D = some (.lst vs) ∧ All2 (Wt H') vs [(t, 1)]) ?_ ?_
    · refine ⟨_, rfl, by show 2 ≤ sizeLine; decide, fun p H1 np s1 hp1 _ => ?_⟩
      refine ⟨by show 1 ≤ sizeLine; decide, fun D H2 nD s2 hD _ => ?_⟩
      have k2 : Ke Nof H H2 := .same (s1.trans s2)
      exact ⟨D, rfl, s1.free nD, k2, _, hD, All2.nil.snoc ⟨p, v, rfl, s2 _ _ hp1, ht.ke k2⟩⟩
    rintro σ' H1 ⟨D, rfl, nD, k1, vs1, hD1, a1⟩
    refine Evl.q_cut (M := fun σ' H' => σ' = [some v, some (.ref D), some (.int 0), none, none] ∧ H' = H1) ⟨rfl, rfl⟩ ?_
    rintro σ' H' ⟨rfl, rfl⟩
    refine ⟨fun m σ H2 => ∃ (y3 y4 : Option V) (ws : List (T × Nat)) (n : Nat) (vs : List V), σ = [some v, some (.ref D), some (.int (n : Nat)), y3, y4] ∧ Ke Nof H H2 ∧ H2 D = some (.lst vs) ∧ All2 (Wt H2) vs ws ∧ m = left ws ∧ n + m ≤ 360 ∧ ∀ tw ∈ ws, tw.2 + tw.1.depth ≤ 41, ⟨t.pieces, none, none, [(t, 1)], 0, vs1, rfl, k1, hD1, a1, rfl, by omega, fun tw h => ?_⟩, ?_⟩
    · rw [List.mem_singleton.mp h]
      show 1 + t.depth ≤ 41
      omega
    · rintro m σ H2 ⟨y3, y4, ws, n, vs, rfl, k2, hD2, a2, rfl, nm, bd⟩
      refine ⟨_, rfl, !vs.isEmpty, .inl ⟨vs, .of hD2, rfl⟩, ?_⟩
      cases hv : vs with
      | nil =>
        exact q H2 k2
      | cons v0 vt =>
        have ne : vs ≠ [] := by rw [hv]; exact List.cons_ne_nil _ _
        rw [if_pos (by rfl)]
        obtain ⟨vs0, x, ws0, ⟨t0, w0⟩, e1, e2, a0, p, y, rfl, hp0, ht0⟩ := unsnoc a2 ne
        have ll := left_snoc ws0 (t0, w0)
        have tp := t0.pos
        have b0 := bd (t0, w0) (by rw [e2]; exact List.mem_append_right _ List.mem_cons_self)
        have b0 : w0 + t0.depth ≤ 41 := b0
        have bd0 : ∀ tw ∈ ws0, tw.2 + tw.1.depth ≤ 41 := fun tw h => bd tw (by rw [e2]; exact List.mem_append_left _ h)
        rw [e2, ll] at nm
        have ll : left (ws0 ++ [(t0, w0)]) = left ws0 + t0.pieces := ll
        have nm : n + (left ws0 + t0.pieces) ≤ 360 := nm
        refine ⟨fun σ' H' => ∃ (y3 y4 : Option V) (ws' : List (T × Nat)) (vs' : List V), σ' = [some v, some (.ref D), some (.int ((n + 1 : Nat) : Int)), y3, y4] ∧ Ke Nof H H' ∧ H' D = some (.lst vs') ∧ All2 (Wt H') vs' ws' ∧ left ws' + 1 = left ws0 + t0.pieces ∧ ∀ tw ∈ ws', tw.2 + tw.1.depth ≤ 41, ?_, ?_⟩
        · rintro σ' H' ⟨z3, z4, ws', vs', rfl, k', hD', a', l', b'⟩
          refine ⟨left ws', by rw [e2, ll]; omega, z3, z4, ws', n + 1, vs', rfl, k', hD', a', rfl, by omega, b'⟩
        -- part, within
        refine Evl.q_cut (M := fun σ' H' => σ' = [some v, some (.ref D), some (.int (n : Nat)), some y, some (.int (w0 : Nat))] ∧ Ke Nof H H' ∧ H' D = some (.lst vs0) ∧ All2 (Wt H') vs0 ws0 ∧ At H' t0 y) ?_ ?_
        · refine ⟨_, rfl, .inl ⟨rfl, _, .of hD2⟩, D, vs, .ref p, rfl, rfl, hD2, ?_, ?_⟩
          · rw [e1, List.length_append, List.length_singleton, Nat.add_sub_cancel, List.getElem?_append_right (Nat.le_refl _), Nat.sub_self]
            rfl
          rw [e1, List.dropLast_concat]
          have hp2 : (upd H2 D (.lst vs0)) p = some (.tup [y, .int (w0 : Nat)]) := by
            rw [upd_ne (fun z => by rw [z, hD2] at hp0; cases hp0)]
            exact hp0
          refine ⟨p, _, rfl, .of hp2, rfl, _, _, rfl, _, _, rfl, rfl, rfl, k2.upd nD, upd_same, a0.imp fun _ _ h => h.wr hD2, ht0.wr hD2⟩
        rintro σ' H3 ⟨rfl, k3, hD3, a3, ht3⟩
        refine Evl.q_cut (M := fun σ' H' => σ' = [some v, some (.ref D), some (.int ((n + 1 : Nat) : Int)), some y, some (.int (w0 : Nat))] ∧ H' = H3) ?_ ?_
        · exact ⟨_, rfl, _, _, rfl, rfl, by rw [show ((n + 1 : Nat) : Int) = (n : Int) + 1 by omega]; rfl, rfl⟩
        rintro σ' H' ⟨rfl, rfl⟩
        -- not too great
        refine Evl.q_cut (M := fun σ' H4 => σ' = [some v, some (.ref D), some (.int ((n + 1 : Nat) : Int)), some y, some (.int (w0 : Nat))] ∧ H4 = H') ?_ ?_
        · refine ⟨_, rfl, _, _, rfl, rfl, false, ?_, ?_⟩
          · show V.bl (decide (((n + 1 : Nat) : Int) > 360)) = V.bl false
            rw [decide_eq_false (by omega)]
          refine ⟨_, rfl, _, _, rfl, rfl, false, ?_, rfl, rfl⟩
          show V.bl (decide (((w0 : Nat) : Int) > 40)) = V.bl false
          rw [decide_eq_false (by omega)]
        rintro σ' H4 ⟨rfl, rfl⟩
        refine ⟨_, rfl, y, t0, rfl, ht3, _, rfl, ?_⟩
        cases t0 with
        | leaf n0 => exact ⟨_, _, ws0, vs0, rfl, k3, hD3, a3, rfl, bd0⟩
        | cut tl tr k0 =>
          obtain ⟨a0', x0, y0, rfl, ha0, h1, h2⟩ := id ht3
          have dp : (Tr.T.cut tl tr k0).depth = 1 + max tl.depth tr.depth := rfl
          have pp : (T.cut tl tr k0).pieces = 1 + tl.pieces + tr.pieces := rfl
          have lv0 := a3.1
          have lw0 := left_len ws0
          show (if true = true then _ else _)
          rw [if_pos rfl]
          refine ⟨_, rfl, .inl ⟨rfl, _, .of hD3⟩, _, rfl, a0', _, 1, x0, rfl, rfl, .of ha0, rfl, _, rfl, _, _, rfl, rfl, by show 2 ≤ sizeLine; decide, fun p1 H5 np1 s5 hp1 _ => ?_⟩
          have hD5 := s5 _ _ hD3
          have k45 : Ke Nof H4 H5 := .same s5
          refine ⟨D, _, _, rfl, rfl, hD5, small1000 (by omega), ?_⟩
          have a6 : All2 (Wt (upd H5 D (.lst (vs0 ++ [.ref p1])))) (vs0 ++ [.ref p1]) (ws0 ++ [(tl, w0 + 1)]) := (a3.imp fun _ _ h => (h.ke k45).wr hD5).snoc (Wt.wr ⟨p1, x0, rfl, hp1, h1.ke k45⟩ hD5)
          have k6 : Ke Nof H (upd H5 D (.lst (vs0 ++ [.ref p1]))) := (k3.trans k45).upd nD
          have ha6 : (upd H5 D (.lst (vs0 ++ [.ref p1]))) a0' = some (.tup [.str "cut", x0, y0, .int k0]) := by
            rw [upd_ne (fun z => by rw [z, hD3] at ha0; cases ha0)]
            exact s5 _ _ ha0
          have h26 : At (upd H5 D (.lst (vs0 ++ [.ref p1]))) tr y0 := (h2.ke k45).wr hD5
          have hD6 : (upd H5 D (.lst (vs0 ++ [.ref p1]))) D = some (.lst (vs0 ++ [.ref p1])) := upd_same
          generalize upd H5 D (.lst (vs0 ++ [.ref p1])) = H6 at a6 k6 ha6 h26 hD6
          refine ⟨_, rfl, .inl ⟨rfl, _, .of hD6⟩, _, rfl, a0', _, 2, y0, rfl, rfl, .of ha6, rfl, _, rfl, _, _, rfl, rfl, by show 2 ≤ sizeLine; decide, fun p2 H7 np2 s7 hp2 _ => ?_⟩
          have hD7 := s7 _ _ hD6
          have k67 : Ke Nof H6 H7 := .same s7
          refine ⟨D, _, _, rfl, rfl, hD7, ?_, ?_⟩
          · rw [List.length_append]
            exact small1000 (by show vs0.length + 1 ≤ 1000; omega)
          have a8 : All2 (Wt (upd H7 D (.lst (vs0 ++ [.ref p1] ++ [.ref p2])))) (vs0 ++ [.ref p1] ++ [.ref p2]) (ws0 ++ [(tl, w0 + 1)] ++ [(tr, w0 + 1)]) := (a6.imp fun _ _ h => (h.ke k67).wr hD7).snoc (Wt.wr ⟨p2, y0, rfl, hp2, h26.ke k67⟩ hD7)
          refine ⟨_, _, _, _, rfl, (k6.trans k67).upd nD, upd_same, a8, ?_, fun tw htw => ?_⟩
          · rw [left_snoc, left_snoc]
            show left ws0 + tl.pieces + tr.pieces + 1 = _
            omega
          · rcases List.mem_append.mp htw with z | z
            · rcases List.mem_append.mp z with z | z
              · exact bd0 tw z
              · rw [List.mem_singleton.mp z]
                show w0 + 1 + tl.depth ≤ 41
                omega
            · rw [List.mem_singleton.mp z]
              show w0 + 1 + tr.depth ≤ 41
              omega
abbrev sCn : Stmt := topS 20
theorem scCn : FnScope ["book", "thing", "one", "other"] ["book", "thing"] (defScope sCn) := ⟨rfl, rfl, rfl, by decide +kernel, rfl, by decide +kernel, by decide +kernel⟩
/-- of trees at most d within one another -/
def spCn (Po : Addr) (d : Nat) : Sp := fun vs H Q _ => ∃ (b v : V) (css : List (List Int)) (t : T) (c : List Int), vs = [b, v] ∧ Bk H b css ∧ (∀ c ∈ css, IsCl c) ∧ At H t v ∧ t.depth ≤ d ∧ Cl css t c ∧ TabG H Po ∧ ∀ p H', Ke Nof H H' → H' p = some (.tup (c.map V.int)) → Q (.ref p) H'
theorem ok_cn {f fF fE fN fC Po : Addr} {fd fdF fdE fdN fdC : FuncData} (F : Fun K "claim_or_none" "claim_or_none" sCn f fd) (Z : Zt5 mg) (bS : Binds K fd ["book", "thing"] []) (gS : mg "claim_or_none" = some (.ref f))
    (FF : Fun K "is_fork" "is_fork" sFork fF fdF) (bF : Binds K fdF ["thing"] []) (gF : mg "is_fork" = some (.ref fF)) (GF : FnOk P w K mg base CX0 1 fF fdF ["thing"] spFork)
    (FE : Fun K "is_leaf" "is_leaf" sLeaf fE fdE) (bE : Binds K fdE ["thing"] []) (gE : mg "is_leaf" = some (.ref fE)) (GE : FnOk P w K mg base CX0 1 fE fdE ["thing"] spLeaf)
    (FN : Fun K "is_number_of" "is_number_of" sNum fN fdN) (bN : Binds K fdN ["thing", "many"] []) (gN : mg "is_number_of" = some (.ref fN)) (GN : FnOk P w K mg base CX0 2 fN fdN ["thing", "many"] spNum)
    (FC : Fun K "cut_or_none" "cut_or_none" sCon fC fdC) (bC : Binds K fdC ["one", "other", "k"] []) (gC : mg "cut_or_none" = some (.ref fC)) (GC : FnOk P w K mg base CX0 4 fC fdC ["one", "other", "k"] (spCon Po)) :
    ∀ d, FnOk P w K mg base CX0 (d + 5) f fd ["book", "thing"] (spCn Po d) := by
  have T := Z
  intro d
  induction d with
  | zero =>
    refine F.ok scCn (fun vs H Q E h => ?_) (fun cdv A outer s H vs Q E hr h => ?_)
    · obtain ⟨b, v, css, t, c, rfl, _⟩ := h
      rfl
    · obtain ⟨b, v, css, t, c, rfl, _, _, _, h0, _⟩ := h
      have := t.pos
      omega
  | succ d ih =>
    refine F.ok scCn (fun vs H Q E h => ?_) (fun cdv A outer s H vs Q E hr h => ?_)
    · obtain ⟨b, v, css, t, c, rfl, _⟩ := h
      rfl
    · obtain ⟨b, v, css, t, c, rfl, hb, ib, ht, hd, hc, tg, q⟩ := h
      have hr1 : Room 1 _ := hr.mono (by omega)
      have hr2 : Room 2 _ := hr.mono (by omega)
      have hr4 : Room 4 _ := hr.mono (by omega)
      have hrd : Room (d + 5) _ := hr
      refine ⟨_, (pss_cons (ps_if (pt_val (pe_call GE hr1 (by rfl) gE FE.kp bE .nil pass0 (pa_cons (pv 1) pa_nil))) (pss_one (ps_ret (pe_ifExp (pt_val (pe_call GN hr2 (by rfl) gN FN.kp bN .nil pass0 (pa_cons (pe_ix ix_tup (pv 1) pe_int (fun _ _ => rfl)) (pa_cons (pe_callB call_len_seq (by rfl) T.z_len (by decide +kernel) (pa_cons (pv 0) pa_nil)) pa_nil)))) (pe_ix ix_tup (pv 0) (pe_ix ix_tup (pv 1) pe_int (fun _ _ => rfl)) (fun _ _ => rfl)) pe_non))) pss_nil)
      (pss_cons (ps_if (pt_not (pt_val (pe_call GF hr1 (by rfl) gF FF.kp bF .nil pass0 (pa_cons (pv 1) pa_nil)))) pss_never pss_nil)
      (Evl.pss_cut (ps_set (i := 2) scCn.nd rfl (.inl rfl) (pe_call ih hrd (by rfl) gS F.kp bS .nil pass0 (pa_cons (pv 0) (pa_cons (pe_ix ix_tup (pv 1) pe_int (fun _ _ => rfl)) pa_nil))))
      (Evl.pss_cut (ps_set (i := 3) scCn.nd rfl (.inl rfl) (pe_call ih hrd (by rfl) gS F.kp bS .nil pass0 (pa_cons (pv 0) (pa_cons (pe_ix ix_tup (pv 1) pe_int (fun _ _ => rfl)) pa_nil))))
      (pss_cons (ps_if (PW.pt (pw_or (pt_cmpR op_isN (pv 2) pe_non (nomark _)) (pw_or1 (pt_cmpR op_isN (pv 3) pe_non (nomark _))))) pss_never pss_nil)
      (pss_one (ps_ret (pe_call GC hr4 (by rfl) gC FC.kp bC .nil pass0 (pa_cons (pv 2) (pa_cons (pv 3) (pa_cons (pe_ix ix_tup (pv 1) pe_int (fun _ _ => rfl)) pa_nil))))))))))), ?_⟩
      obtain ⟨ba, bvs, rfl, hbt, aB⟩ := bk_all hb
      refine ⟨_, rfl, v, t, rfl, ht, _, rfl, ?_⟩
      cases t with
      | leaf n =>
        obtain ⟨a, rfl, ha⟩ := id ht
        obtain ⟨x, hx, p, rfl, hp⟩ := aB.atR hc
        have ln := (List.getElem?_eq_some_iff.mp hx).1
        refine ⟨_, rfl, a, _, 1, .int (n : Nat), rfl, rfl, .of ha, rfl, _, rfl, ba, _, rfl, .inr (.of hbt), _, _, rfl, _, rfl, ?_⟩
        rw [decide_eq_true (by omega : (0 : Int) ≤ (n : Nat)), decide_eq_true (by omega : ((n : Nat) : Int) < (bvs.length : Nat))]
        refine ⟨_, rfl, _, rfl, a, _, 1, .int (n : Nat), rfl, rfl, .of ha, rfl, ba, bvs, _, .ref p, rfl, rfl, .of hbt, at_of (j := n) rfl hx, ?_⟩
        exact q p H (.refl _ _) hp
      | cut tl tr k0 =>
        obtain ⟨a, x, y, rfl, ha, h1, h2⟩ := id ht
        obtain ⟨cx, cy, hx, hy, cm⟩ := hc
        have dp : (Tr.T.cut tl tr k0).depth = 1 + max tl.depth tr.depth := rfl
        have ix := hx.isCl ib
        have iy := hy.isCl ib
        have lx := ix.len
        have ly := iy.len
        refine ⟨_, rfl, .ref a, .cut tl tr k0, rfl, ht, _, rfl, ?_⟩
        refine Evl.q_cut (M := fun σ' H' => ∃ p1 : Addr, σ' = [some (.ref ba), some (.ref a), some (.ref p1), none] ∧ Ke Nof H H' ∧ H' p1 = some (.tup (cx.map V.int))) ?_ ?_
        · exact ⟨_, rfl, _, rfl, a, _, 1, x, rfl, rfl, .of ha, rfl, .ref ba, x, css, tl, cx, rfl, hb, ib, h1, by omega, hx, tg, fun p H1 k1 hp => ⟨p, rfl, k1, hp⟩⟩
        rintro σ' H1 ⟨p1, rfl, k1, hp1⟩
        refine Evl.q_cut (M := fun σ' H' => ∃ p2 : Addr, σ' = [some (.ref ba), some (.ref a), some (.ref p1), some (.ref p2)] ∧ Ke Nof H H' ∧ H' p1 = some (.tup (cx.map V.int)) ∧ H' p2 = some (.tup (cy.map V.int))) ?_ ?_
        · exact ⟨_, rfl, _, rfl, a, _, 2, y, rfl, rfl, .of (k1.tups _ _ ha), rfl, .ref ba, y, css, tr, cy, rfl, hb.ke k1, ib, h2.ke k1, by omega, hy, k1.tabs _ tg, fun p H2 k2 hp => ⟨p, rfl, k1.trans k2, k2.tups _ _ hp1, hp⟩⟩
        clear hp1
        rintro σ' H2 ⟨p2, rfl, k2, hp1, hp2⟩
        refine ⟨_, rfl, rfl, false, rfl, ?_⟩
        refine ⟨_, rfl, rfl, false, rfl, ?_⟩
        refine ⟨_, rfl, _, rfl, _, rfl, a, _, 3, .int k0, rfl, rfl, .of (k2.tups _ _ ha), rfl, .ref p1, .ref p2, k0, cx, cy, rfl, ⟨p1, rfl, hp1⟩, ⟨p2, rfl, hp2⟩, by omega, by omega, k2.tabs _ tg, fun H3 k3 no => ?_, fun ns p H3 k3 m o up me hp => ?_⟩
        · exact (cm.no (nocome_of ix iy no)).elim
        · obtain rfl := cm.one (comes_of ix iy m o up me)
          exact q p H3 (k2.trans k3) hp
abbrev sIst : Stmt := topS 21
theorem scIst : FnScope ["book", "thing"] ["book", "thing"] (defScope sIst) := ⟨rfl, rfl, rfl, by decide +kernel, rfl, by decide +kernel, by decide +kernel⟩
def spIst (Po : Addr) : Sp := fun vs H Q _ => ∃ (b v : V) (css : List (List Int)) (t : T) (c : List Int), vs = [b, v] ∧ Bk H b css ∧ (∀ c ∈ css, IsCl c) ∧ At H t v ∧ t.depth ≤ 40 ∧ t.pieces ≤ 360 ∧ Cl css t c ∧ TabG H Po ∧ ∀ H', Ke Nof H H' → Q (.bl true) H'
theorem ok_ist {f fS fC Po : Addr} {fd fdS fdC : FuncData} (F : Fun K "is_tree" "is_tree" sIst f fd) (FS : Fun K "has_size_of_tree" "has_size_of_tree" sSize fS fdS) (bS : Binds K fdS ["thing"] []) (gS : mg "has_size_of_tree" = some (.ref fS)) (GS : FnOk P w K mg base CX0 2 fS fdS ["thing"] spSize)
    (FC : Fun K "claim_or_none" "claim_or_none" sCn fC fdC) (bC : Binds K fdC ["book", "thing"] []) (gC : mg "claim_or_none" = some (.ref fC)) (GC : FnOk P w K mg base CX0 45 fC fdC ["book", "thing"] (spCn Po 40)) :
    FnOk P w K mg base CX0 46 f fd ["book", "thing"] (spIst Po) := by
  refine F.ok scIst (fun vs H Q E h => ?_) (fun cdv A outer s H vs Q E hr h => ?_)
  · obtain ⟨b, v, css, t, c, rfl, _⟩ := h
    rfl
  · obtain ⟨b, v, css, t, c, rfl, hb, ib, ht, hd, hp, hc, tg, q⟩ := h
    have hr2 : Room 2 _ := hr.mono (by omega)
    have hrd : Room 45 _ := hr
    refine ⟨_, (pss_one (ps_ret (pe_and (pe_call GS hr2 (by rfl) gS FS.kp bS .nil pass0 (pa_cons (pv 1) pa_nil)) (pe_one (pe_cmpR op_notN (pe_call GC hrd (by rfl) gC FC.kp bC .nil pass0 (pa_cons (pv 0) (pa_cons (pv 1) pa_nil))) pe_non (nomark _)))))), ?_⟩
    refine ⟨_, rfl, v, t, rfl, ht, hp, hd, fun H1 k1 => ⟨true, rfl, ?_⟩⟩
    exact ⟨_, rfl, _, rfl, b, v, css, t, c, rfl, hb.ke k1, ib, ht.ke k1, hd, hc, k1.tabs _ tg, fun p H2 k2 hp2 => ⟨rfl, q H2 (k1.trans k2)⟩⟩
abbrev sCot : Stmt := topS 22
theorem scCot : FnScope ["book", "tree"] ["book", "tree"] (defScope sCot) := ⟨rfl, rfl, rfl, by decide +kernel, rfl, by decide +kernel, by decide +kernel⟩
theorem ok_cot {f fC Po : Addr} {fd fdC : FuncData} (F : Fun K "claim_of_tree" "claim_of_tree" sCot f fd) (FC : Fun K "claim_or_none" "claim_or_none" sCn fC fdC) (bC : Binds K fdC ["book", "thing"] []) (gC : mg "claim_or_none" = some (.ref fC)) (GC : FnOk P w K mg base CX0 45 fC fdC ["book", "thing"] (spCn Po 40)) :
    FnOk P w K mg base CX0 46 f fd ["book", "tree"] (spCn Po 40) := by
  refine F.ok scCot (fun vs H Q E h => ?_) (fun cdv A outer s H vs Q E hr h => ?_)
  · obtain ⟨b, v, css, t, c, rfl, _⟩ := h
    rfl
  · have hrd : Room 45 _ := hr
    obtain ⟨b, v, css, t, c, rfl, h⟩ := h
    refine ⟨_, (pss_one (ps_ret (pe_call GC hrd (by rfl) gC FC.kp bC .nil pass0 (pa_cons (pv 0) (pa_cons (pv 1) pa_nil))))), ?_⟩
    exact ⟨_, rfl, _, rfl, b, v, css, t, c, rfl, h⟩
abbrev sCts : Stmt := topS 23
theorem scCts : FnScope ["tree"] ["tree"] (defScope sCts) := ⟨rfl, rfl, rfl, by decide +kernel, rfl, by decide +kernel, by decide +kernel⟩
def spCts (d : Nat) : Sp := fun vs H Q _ => ∃ (v : V) (t : T), vs = [v] ∧ At H t v ∧ t.depth ≤ d ∧ Q (.int (t.cuts : Nat)) H
theorem ok_cts {f : Addr} {fd : FuncData} (F : Fun K "cuts_of_tree" "cuts_of_tree" sCts f fd) (bS : Binds K fd ["tree"] []) (gS : mg "cuts_of_tree" = some (.ref f)) : ∀ d, FnOk P w K mg base CX0 (d + 1) f fd ["tree"] (spCts d) := by
  intro d
  induction d with
  | zero =>
    refine F.ok scCts (fun vs H Q E h => ?_) (fun cdv A outer s H vs Q E hr h => ?_)
    · obtain ⟨v, t, rfl, _⟩ := h
      rfl
    · obtain ⟨v, t, rfl, _, h0, _⟩ := h
      have := t.pos
      omega
  | succ d ih =>
    refine F.ok scCts (fun vs H Q E h => ?_) (fun cdv A outer s H vs Q E hr h => ?_)
    · obtain ⟨v, t, rfl, _⟩ := h
      rfl
    · obtain ⟨v, t, rfl, ht, hd, q⟩ := h
      have hrd : Room (d + 1) _ := hr
      refine ⟨_, (pss_cons (ps_if (pt_cmpR op_eq (pe_ix ix_tup (pv 0) pe_int (fun _ _ => rfl)) pe_str (nomark _)) (pss_one (ps_ret pe_int)) pss_nil)
      (pss_one (ps_ret (pe_op op_add (pe_op op_add pe_int (pe_call ih hrd (by rfl) gS F.kp bS .nil pass0 (pa_cons (pe_ix ix_tup (pv 0) pe_int (fun _ _ => rfl)) pa_nil))) (pe_call ih hrd (by rfl) gS F.kp bS .nil pass0 (pa_cons (pe_ix ix_tup (pv 0) pe_int (fun _ _ => rfl)) pa_nil)))))), ?_⟩
      cases t with
      | leaf n =>
        obtain ⟨a, rfl, ha⟩ := id ht
        exact ⟨_, rfl, a, _, 0, .str "book", rfl, rfl, .of ha, rfl, rfl, true, by simp, q⟩
      | cut tl tr k0 =>
        obtain ⟨a, x, y, rfl, ha, h1, h2⟩ := id ht
        have dp : (Tr.T.cut tl tr k0).depth = 1 + max tl.depth tr.depth := rfl
        refine ⟨_, rfl, a, _, 0, .str "cut", rfl, rfl, .of ha, rfl, rfl, false, by simp; decide, ?_⟩
        refine ⟨_, rfl, a, _, 1, x, rfl, rfl, .of ha, rfl, x, tl, rfl, h1, by omega, _, _, rfl, rfl, ?_⟩
        refine ⟨_, rfl, a, _, 2, y, rfl, rfl, .of ha, rfl, y, tr, rfl, h2, by omega, _, _, rfl, rfl, ?_⟩
        have e : (((T.cut tl tr k0).cuts : Nat) : Int) = 1 + (tl.cuts : Int) + (tr.cuts : Int) := by
          show ((1 + tl.cuts + tr.cuts : Nat) : Int) = _
          omega
        rw [e] at q
        exact q
end
end Tp
namespace Wtc
open PySem PySem.Spec PyProof.Rows L2 GxR Nw Dr Kp Se Ct Lr
/-! ### all ways to cut one claim with another -/
/-- what comes, if anything -/
noncomputable def opt (c1 c2 : List Int) (k : Int) : Option (List Int) := open Classical in if h : ∃ c, Comes c1 c2 k c then some h.choose else none
theorem opt_some {c1 c2 c : List Int} {k : Int} (h : Comes c1 c2 k c) : opt c1 c2 k = some c := by
  unfold opt
  have e : ∃ c, Comes c1 c2 k c := ⟨c, h⟩
  rw [dif_pos e, (e.choose_spec).one h]
theorem opt_none {c1 c2 : List Int} {k : Int} (h : NoCome c1 c2 k) : opt c1 c2 k = none := dif_neg fun ⟨_, e⟩ => e.no h
theorem opt_iff {c1 c2 c : List Int} {k : Int} : opt c1 c2 k = some c ↔ Comes c1 c2 k c := by
  refine ⟨fun h => ?_, opt_some⟩
  unfold opt at h
  split at h
  · rename_i e
    have := e.choose_spec
    rw [Option.some.inj h] at this
    exact this
  · cases h
/-- a number and what comes by it -/
def PoT (H : Hp) (v : V) (ko : Int × Option (List Int)) : Prop := ∃ a x, v = .ref a ∧ H a = some (.tup [.int ko.1, x]) ∧ match ko.2 with
  | none => x = .non
  | some c => ∃ b, x = .ref b ∧ H b = some (.tup (c.map V.int))
/-- a number and the claim that comes by it -/
def PrT (H : Hp) (v : V) (kc : Int × List Int) : Prop := ∃ a b, v = .ref a ∧ H a = some (.tup [.int kc.1, .ref b]) ∧ H b = some (.tup (kc.2.map V.int))
theorem PoT.ke {F : Addr → Prop} {H H' : Hp} {v : V} {ko : Int × Option (List Int)} (h : PoT H v ko) (k : Ke F H H') : PoT H' v ko := by
  obtain ⟨a, x, e, ha, hx⟩ := h
  refine ⟨a, x, e, k.tups _ _ ha, ?_⟩
  obtain ⟨k0, o⟩ := ko
  cases o with
  | none => exact hx
  | some c =>
    obtain ⟨b, e', hb⟩ := hx
    exact ⟨b, e', k.tups _ _ hb⟩
theorem PrT.ke {F : Addr → Prop} {H H' : Hp} {v : V} {kc : Int × List Int} (h : PrT H v kc) (k : Ke F H H') : PrT H' v kc := by
  obtain ⟨a, b, e, ha, hb⟩ := h
  exact ⟨a, b, e, k.tups _ _ ha, k.tups _ _ hb⟩
/-- the ways -/
noncomputable def ways (c1 c2 : List Int) : List (Int × List Int) := (((c1.filter fun k => decide (0 < k)).map fun k => (k, opt c1 c2 k)).filterMap fun ko => ko.2.map fun c => (ko.1, c))
theorem mem_ways {c1 c2 c : List Int} {k : Int} : (k, c) ∈ ways c1 c2 ↔ Comes c1 c2 k c := by
  unfold ways
  rw [List.mem_filterMap]
  constructor
  · rintro ⟨⟨k', o⟩, hm, h⟩
    obtain ⟨k0, _, e⟩ := List.mem_map.mp hm
    cases e
    obtain ⟨c', h1, h2⟩ := Option.map_eq_some_iff.mp h
    cases h2
    exact opt_iff.mp h1
  · intro h
    refine ⟨(k, opt c1 c2 k), List.mem_map.mpr ⟨k, List.mem_filter.mpr ⟨h.2.1, decide_eq_true (by have := h.1; omega)⟩, rfl⟩, ?_⟩
    rw [opt_some h]
    rfl
theorem ways_len (c1 c2 : List Int) : (ways c1 c2).length ≤ c1.length := by
  unfold ways
  exact Nat.le_trans (List.length_filterMap_le _ _) (by rw [List.length_map]; exact List.length_filter_le _ _)
def PrL (H : Hp) (p : Addr) (ws : List (Int × List Int)) : Prop := ∃ vs, H p = some (.lst vs) ∧ All2 (PrT H) vs ws
theorem fm_take {α β : Type} {f : α → Option β} {l : List α} {i : Nat} {x : α} (h : l[i]? = some x) : (l.take (i + 1)).filterMap f = (l.take i).filterMap f ++ (match f x with | some y => [y] | none => []) := by
  rw [List.take_add_one, h, List.filterMap_append]
  congr 1
  show List.filterMap f [x] = _
  cases e : f x <;> simp [e]
section
variable {P : Program} {w : World} {K : PySem.W.Frag} {mg : Str → Option Value} {base : Heap}
abbrev sWay : Stmt := topS 27
abbrev nWay : List Str := ["one", "other", "pairs", "k", "pair"]
theorem scWay : FnScope nWay ["one", "other"] (defScope sWay) := ⟨rfl, rfl, rfl, by decide +kernel, rfl, by decide +kernel, by decide +kernel⟩
def spWay (Po : Addr) : Sp := fun vs H Q _ => ∃ (v u : V) (c1 c2 : List Int), vs = [v, u] ∧ TupI H v c1 ∧ TupI H u c2 ∧ IsCl c1 ∧ IsCl c2 ∧ TabG H Po ∧ ∀ p H', Ke Nof H H' → Frs H p → PrL H' p (ways c1 c2) → Q (.ref p) H'
theorem ok_way {f fC Po : Addr} {fd fdC : FuncData} {k : Nat} (F : Fun K "ways_to_cut" "ways_to_cut" sWay f fd)
    (FC : Fun K "cut_or_none" "cut_or_none" sCon fC fdC) (bC : Binds K fdC ["one", "other", "k"] []) (gC : mg "cut_or_none" = some (.ref fC)) (GC : FnOk P w K mg base CX0 4 fC fdC ["one", "other", "k"] (spCon Po)) :
    FnOk P w K mg base CX0 (k + 5) f fd ["one", "other"] (spWay Po) := by
  refine F.ok scWay (fun vs H Q E h => ?_) (fun cdv A outer s H vs Q E hr h => ?_)
  · obtain ⟨v, u, c1, c2, rfl, _⟩ := h
    rfl
  · obtain ⟨v, u, c1, c2, rfl, hv, hu, i1, i2, tg, q⟩ := h
    have hr4 : Room 4 _ := hr.mono (by omega)
    refine ⟨_, (Evl.pss_cut (ps_setLc (i := 2) (own := [("k", 3)]) (g := (gName 3))  rfl scWay.nd rfl rfl (sw_true rfl rfl rfl (by decide +kernel)) (pi_tup (pv 0)) (blkOk_by (N := nWay) (sc := defScope sWay) (by decide +kernel)) (fun _ _ _ _ _ => (pg_name (i := 3) scWay.nd rfl (.inl rfl))) (fun _ _ _ _ _ => (pts_one (pt_cmpR op_gt (pv 3) pe_int (nomark _)))) (fun _ _ _ _ _ => (pe_tupN (pa_cons (pv 3) (pa_cons (pe_call GC hr4 (by rfl) gC FC.kp bC .nil pass0 (pa_cons (pv 0) (pa_cons (pv 1) (pa_cons (pv 3) pa_nil)))) pa_nil)))))
      (pss_one (ps_ret (pe_lc (own := [("pair", 4)]) (g := (gName 4))  rfl scWay.nd (pi_list (pv 2)) (blkOk_by (N := nWay) (sc := defScope sWay) (by decide +kernel)) (fun _ _ _ _ _ => (pg_name (i := 4) scWay.nd rfl (.inl rfl))) (fun _ _ _ _ _ => (pts_one (pt_cmpR op_notN (pe_ix (ix_tupB (K := K) rfl) (pv 4) pe_int (fun _ _ => rfl)) pe_non (nomark _)))) (fun _ _ _ _ _ => (pv 4)))))), ?_⟩
    have l1 := i1.len
    have l2 := i2.len
    obtain ⟨a1, rfl, h1⟩ := id hv
    refine Evl.q_cut (M := fun σ' H' => ∃ (D : Addr) (vs : List V), σ' = [some (.ref a1), some u, some (.ref D), none, none] ∧ Ke Nof H H' ∧ H' D = some (.lst vs) ∧ All2 (PoT H') vs ((c1.filter fun k => decide (0 < k)).map fun k => (k, opt c1 c2 k))) ?_ ?_
    · refine ⟨_, rfl, a1, rfl, ⟨_, .of h1⟩, fun Z nZ => ?_⟩
      refine lc_tup (xs := c1.map V.int) (Pv := fun i H' => Ke Nof H H' ∧ ∃ vs, H' Z = some (.lst vs) ∧ All2 (PoT H') vs (((c1.take i).filter fun k => decide (0 < k)).map fun k => (k, opt c1 c2 k))) ⟨.same (same_new nZ), [], upd_same, .nil⟩ (fun i H' _ z => .of (z.1.tups _ _ h1)) ?_ ?_
      · rintro i x H1 hx ⟨k1, vs, hZ, al⟩
        obtain ⟨y, hy, rfl⟩ := at_int hx
        have ft := Sl.filter_take (f := fun k => decide (0 < k)) hy
        refine ⟨rfl, _, rfl, _, _, rfl, rfl, _, rfl, ite2 (fun e => ?_) (fun e => ?_)⟩
        · have e : decide (0 < y) = true := e
          have la := al.1
          rw [List.length_map] at la
          have lf := List.length_filter_le (fun k => decide (0 < k)) (c1.take i)
          rw [List.length_take] at lf
          have fin : ∀ (x : V) (o : Option (List Int)) (H2 : Hp), Ke Nof H1 H2 → opt c1 c2 y = o → (match o with | none => x = .non | some c => ∃ b, x = .ref b ∧ H2 b = some (.tup (c.map V.int))) → ∀ (t : Addr) (H3 : Hp), Same H2 H3 → H3 t = some (.tup [.int y, x]) → H3 Z = some (.lst vs) ∧ Ke Nof H (upd H3 Z (.lst (vs ++ [.ref t]))) ∧ ∃ vs', (upd H3 Z (.lst (vs ++ [.ref t]))) Z = some (.lst vs') ∧ All2 (PoT (upd H3 Z (.lst (vs ++ [.ref t])))) vs' (((c1.take (i + 1)).filter fun k => decide (0 < k)).map fun k => (k, opt c1 c2 k)) := fun x o H2 k2 eo hx t H3 s3 ht => by
            have k13 : Ke Nof H1 H3 := k2.trans (.same s3)
            have hZ3 := k13.lst hZ fun z => z
            have wr : ∀ {b : Addr} {xs : List V}, H3 b = some (.tup xs) → upd H3 Z (.lst (vs ++ [.ref t])) b = some (.tup xs) := fun {b xs} h => by
              rw [upd_ne (fun z => by rw [z, hZ3] at h; cases h)]
              exact h
            refine ⟨hZ3, (k1.trans k13).upd nZ, _, upd_same, ?_⟩
            rw [ft, if_pos e, List.map_append]
            refine All2.snoc (al.imp fun _ _ h => ?_) ⟨t, x, rfl, wr ht, ?_⟩
            · obtain ⟨a, x, e, ha, hx⟩ := h.ke k13
              refine ⟨a, x, e, wr ha, ?_⟩
              split at hx
              · exact hx
              · obtain ⟨b, e', hb⟩ := hx
                exact ⟨b, e', wr hb⟩
            · show match opt c1 c2 y with | none => x = .non | some c => ∃ b, x = .ref b ∧ upd H3 Z (.lst (vs ++ [.ref t])) b = some (.tup (c.map V.int))
              rw [eo]
              cases o with
              | none => exact hx
              | some c =>
                obtain ⟨b, e', hb⟩ := hx
                exact ⟨b, e', wr (s3 _ _ hb)⟩
          refine ⟨_, rfl, _, rfl, _, rfl, _, rfl, .ref a1, u, y, c1, c2, rfl, hv.ke k1, hu.ke k1, by omega, by omega, k1.tabs _ tg, fun H2 k2 no => ?_, fun ns p H2 k2 m o up me hp => ?_⟩
          · refine ⟨by show 2 ≤ sizeLine; decide, fun t H3 nt s3 ht _ => ?_⟩
            obtain ⟨z1, z2, z3⟩ := fin .non none H2 k2 (opt_none (nocome_of i1 i2 no)) rfl t H3 s3 ht
            exact ⟨_, z1, small1000 (by omega), z2, z3⟩
          · refine ⟨by show 2 ≤ sizeLine; decide, fun t H3 nt s3 ht _ => ?_⟩
            obtain ⟨z1, z2, z3⟩ := fin (.ref p) (some ns) H2 k2 (opt_some (comes_of i1 i2 m o up me)) ⟨p, rfl, hp⟩ t H3 s3 ht
            exact ⟨_, z1, small1000 (by omega), z2, z3⟩
        · have e : ¬ decide (0 < y) = true := e
          refine ⟨k1, vs, hZ, ?_⟩
          rw [ft, if_neg e, List.append_nil]
          exact al
      · rintro H1 ⟨k1, vs, hZ, al⟩
        rw [List.length_map, List.take_length] at al
        exact ⟨Z, vs, rfl, k1, hZ, al⟩
    rintro σ' H1 ⟨D, vs, rfl, k1, hD, al⟩
    generalize hpo : (c1.filter fun k => decide (0 < k)).map (fun k => (k, opt c1 c2 k)) = po at al
    have lpo : po.length ≤ 8 := by
      rw [← hpo, List.length_map]
      exact Nat.le_trans (List.length_filter_le _ _) l1
    have ew : ways c1 c2 = po.filterMap fun ko => ko.2.map fun c => (ko.1, c) := by rw [← hpo]; rfl
    refine ⟨_, rfl, D, rfl, ⟨_, .of hD⟩, fun Z nZ => ?_⟩
    refine lc_list (xs := vs) (Pv := fun i H' => Same H1 H' ∧ PrL H' Z ((po.take i).filterMap fun ko => ko.2.map fun c => (ko.1, c))) ⟨same_new nZ, [], upd_same, .nil⟩ (fun i H' _ z => .of (z.1 _ _ hD)) ?_ ?_
    · rintro i x H2 hx ⟨s2, us, hZ, al2⟩
      obtain ⟨⟨k0, o⟩, ho, po1⟩ := al.at hx
      obtain ⟨a, y, rfl, ha, hy⟩ := po1.ke (Ke.same (F := Nof) s2)
      have ft := fm_take (f := fun ko : Int × Option (List Int) => ko.2.map fun c => (ko.1, c)) ho
      cases o with
      | none =>
        have hy : y = .non := hy
        subst hy
        refine ⟨rfl, _, rfl, a, _, 1, .non, rfl, rfl, .of ha, rfl, rfl, _, rfl, ite2 (fun e => absurd e (by simp)) (fun _ => ⟨s2, us, hZ, ?_⟩)⟩
        rw [ft]
        simpa using al2
      | some c =>
        obtain ⟨b, rfl, hb⟩ := hy
        refine ⟨rfl, _, rfl, a, _, 1, .ref b, rfl, rfl, .of ha, rfl, rfl, _, rfl, ite2 (fun _ => ?_) (fun e => absurd rfl e)⟩
        have lu := al2.1
        have lf : ((po.take i).filterMap fun ko => ko.2.map fun c => (ko.1, c)).length ≤ 8 := Nat.le_trans (List.length_filterMap_le _ _) (by rw [List.length_take]; omega)
        refine ⟨_, rfl, us, hZ, small1000 (by omega), fun b o e => ?_, _, upd_same, ?_⟩
        · rw [upd_ne (ne_of_none e nZ)]
          exact s2 _ _ e
        · rw [ft]
          have wr : ∀ {b : Addr} {xs : List V} {o : HO}, H2 b = some (.tup xs) → upd H2 Z o b = some (.tup xs) := fun {b xs o} h => by
            rw [upd_ne (fun z => by rw [z, hZ] at h; cases h)]
            exact h
          refine All2.snoc (al2.imp fun _ _ h => ?_) ⟨a, b, rfl, wr ha, wr hb⟩
          obtain ⟨a, b, e, h1, h2⟩ := h
          exact ⟨a, b, e, wr h1, wr h2⟩
    · rintro H2 ⟨s2, hZ⟩
      rw [al.1, List.take_length, ← ew] at hZ
      exact q Z H2 (k1.trans (.same s2)) (.ke0 k1 (.of nZ)) hZ
end
end Wtc
namespace PySem
/-! ### enumerate(a tuple) -/
set_option maxHeartbeats 2000000 in
theorem en_new (t : Addr) (its : Array Value) : Meets (Builtin.«enumerate.__new__» ⟨[.type "enumerate", .ref t], []⟩) (fun _ R s => s.heap.IsTuple t its ∧
    R (.ok (.ret (.ref (s.heap.push { cls := .type "tuple_iterator", data := .fields #[.ref t, .int 0 0] }).objs.size))) { s with heap := (s.heap.push { cls := .type "tuple_iterator", data := .fields #[.ref t, .int 0 0] }).push { cls := .type "enumerate", data := .fields #[.none, .bool false, .ref s.heap.objs.size, rawInt 0, .none, .none] } }) :=
  .of_wp fun prog w A R s z => by
    obtain ⟨hp, g, d, tk, os⟩ := s
    obtain ⟨ht, z⟩ := z
    have hsub := sub_enumerate
    have go : ∀ {A' : Around} {E : Value → Shared → Prop} {Q : Value → Shared → Prop}, Q (.ref hp.objs.size) ⟨hp.push { cls := .type "tuple_iterator", data := .fields #[.ref t, .int 0 0] }, g, d, tk, os⟩ → wpAny (model prog w) A' (pyIter (.ref t)) Q E ⟨hp, g, d, tk, os⟩ := fun q => wpAny_pyIter_tuple (s := ⟨hp, g, d, tk, os⟩) ht q
    wp_walk using go
    refine wpAny_stack_any fun st => wpAny_pure ?_
    split
    · rename_i c _ _ _ _ _
      cases (c == Value.type "enumerate") <;> (wp_walk using go; exact ⟨_, rfl, z⟩)
    · wp_walk using go; exact ⟨_, rfl, z⟩
theorem en_call {prog : Program} {w : World} {A : Around} {E : Value → Shared → Prop} {s : Shared} {t : Addr} {its : Array Value} {Q : Value → Shared → Prop} (ht : s.heap.IsTuple t its)
    (h : ∀ h', IsEnum h' (s.heap.objs.size + 1) s.heap.objs.size 0 .none → h'.IsTupleIter s.heap.objs.size t 0 → (∀ b o, s.heap.get? b = some o → h'.get? b = some o) → Q (.ref (s.heap.objs.size + 1)) { s with heap := h' }) :
    wpAny (model prog w) A (call (.type "enumerate") [.ref t]) Q E s := by
  refine callType_new F.called_enumerate (by decide) (F.typeCall_enumerate_1 _) (F.newCall_enumerate_1 _) (fun obj => F.args_object_init_2 obj _) F.entry_enumerate_new (en_new t its) ⟨ht, ?_⟩
  have hz : (s.heap.push { cls := .type "tuple_iterator", data := .fields #[.ref t, .int 0 0] }).objs.size = s.heap.objs.size + 1 := Heap.size_push ..
  show _ ∧ _
  rw [hz]
  have e1 := Heap.get?_push_size (s.heap.push { cls := .type "tuple_iterator", data := .fields #[.ref t, .int 0 0] }) (o := { cls := .type "enumerate", data := .fields #[.none, .bool false, .ref s.heap.objs.size, rawInt 0, .none, .none] }) rfl
  rw [hz] at e1
  exact ⟨⟨_, e1, rfl⟩, h _ e1 ⟨_, Heap.get?_push_of_some _ (Heap.get?_push_size _ rfl), rfl, rfl⟩ fun b o x => Heap.get?_push_of_some _ (Heap.get?_push_of_some _ x)⟩
end PySem
namespace En
open PySem PySem.Spec PyProof.Rows L2
theorem apart {h : Heap} {a e it : Addr} {vs : Array Value} {i : Nat} {old : Value} {c : Int} (p : h.IsTuple a vs) (hit : h.IsTupleIter it a i) (he : IsEnum h e it c old) : a ≠ it ∧ a ≠ e := by
  obtain ⟨o, e1, c1, _⟩ := p
  obtain ⟨o2, e2, c2, _⟩ := hit
  refine ⟨fun z => ?_, fun z => ?_⟩
  · rw [z, e2] at e1
    cases e1
    rw [c2] at c1
    simp at c1
  · have he : h.get? e = some _ := he
    rw [z, he] at e1
    cases e1
    simp at c1
/-- the tuple at a, each item in a new pair -/
def ItE (K : PySem.W.Frag) (a : Addr) : It :=
  ⟨fun i H => ∃ (xs : List V) (x : V), SqT K H a xs ∧ xs[i]? = some x, fun i H v H' => ∃ T x, v = .ref T ∧ H T = none ∧ H' = upd H T (.tup [.int (i : Nat), x]) ∧ ∀ xs, SqT K H a xs → xs[i]? = some x, fun i H => ∃ xs : List V, SqT K H a xs ∧ xs.length = i⟩
theorem turn {P : Program} {w : World} {K : PySem.W.Frag} {elts : List Expr} {kk : Nat} {tpos : Pos} (a e it : Addr) :
    Turn P w K (.Tuple elts kk tpos) (ItE K a) [e, it] e (fun i h => (∃ old, IsEnum h e it ((i : Nat) : Int) old) ∧ h.IsTupleIter it a i ∧ e ≠ it) where
  mem := by simp
  obj := fun i h st b hb => by
    obtain ⟨⟨old, he⟩, ⟨o, ho, _, hd⟩, _⟩ := st
    simp only [List.mem_cons, List.not_mem_nil, or_false] at hb
    rcases hb with rfl | rfl
    · exact ⟨_, he, fun v q => nomatch q⟩
    · exact ⟨o, ho, fun v q => by rw [hd] at q; cases q⟩
  keep := fun i h h' st k => let ⟨⟨old, he⟩, hi, ne⟩ := st; ⟨⟨old, k e (by simp) _ he⟩, hi.at fun o q => k it (by simp) o q, ne⟩
  item := by
    intro X hP hw hK hc i pins s σ H E I hf st hg
    subst hP hw hK
    obtain ⟨⟨old, he⟩, hit, ne⟩ := st
    obtain ⟨xs, x, hq, hx⟩ := hg
    obtain ⟨its, rv, p, hz⟩ := I.tuple hq
    have p : s.heap.IsTuple a its.toArray := p
    obtain ⟨u, hu, ru⟩ := rv.get hx
    obtain ⟨n1, n2⟩ := apart p hit he
    have le := Heap.lt_size he
    have li : it < s.heap.objs.size := by obtain ⟨_, q, _⟩ := hit; exact Heap.lt_size q
    have lt : i < its.toArray.size := by
      have := (List.getElem?_eq_some_iff.mp hu).1
      simpa using this
    refine wpAny_pyNext_enum_itemD (Draws.tuple (A := X.A.in1) (I.ok.hd hc) it a n1 its.toArray) he ⟨hit, p⟩ lt ne (by simp [ne, Ne.symm n2]) fun x' h1 tk q1 q2 q3 q4 q5 q6 => ?_
    obtain rfl : x' = u := by
      have q1 : its.toArray[i]? = some x' := q1
      rw [List.getElem?_toArray, hu] at q1
      exact (Option.some.inj q1).symm
    refine ⟨_, rfl, wpAny_letOwnedTupleGo_enum (s := { s with heap := h1, toks := tk + 1 }) q2 fun h2 he2 sb => ?_⟩
    have hT : h2.get? s.heap.objs.size = some { cls := .type "tuple", data := .seq #[.int i tk, x'] } := (sb.2 _ (Nat.ne_of_gt le)).trans q4
    have I1 : Inv X pins σ (upd H s.heap.objs.size (.tup [.int (i : Nat), x])) { s with heap := h2, toks := tk + 1 } :=
      I.turnedNew (ch := [e, it]) (fun b ob hb q => (sb.2 b (fun z => hb (by simp [z]))).trans (q6 b ob (fun z => hb (by simp [z])) (fun z => hb (by simp [z])) q)) hf (Nat.le_refl _)
        ⟨by show 2 ≤ sizeLine; decide, [.int i tk, x'], .cons ⟨_, rfl⟩ (.cons ru .nil), ⟨_, hT, rfl, _, rfl⟩⟩
    refine ⟨.ref s.heap.objs.size, _, I1, rfl, ⟨_, x, rfl, I.hok.fresh (Nat.le_refl _), rfl, fun ys hy => by rw [I.tuple_inj hy hq]; exact hx⟩, ⟨⟨x', ?_⟩, q3.1.at fun o q => (sb.2 it (Ne.symm ne)).trans q, ne⟩, fun b hb => ?_⟩
    · rw [show ((i + 1 : Nat) : Int) = (i : Int) + 1 by omega]
      exact he2
    · have lb : b < s.heap.objs.size := by
        have hb' : b = e ∨ b = it := by simpa using hb
        rcases hb' with z | z <;> rw [z] <;> assumption
      rw [upd_ne (Nat.ne_of_lt lb)]
      exact (hf b hb).1
  done := by
    intro X hP hw hK hc i pins s σ H E I hf st hg
    subst hP hw hK
    obtain ⟨⟨old, he⟩, hit, ne⟩ := st
    obtain ⟨xs, hq, hx⟩ := hg
    obtain ⟨its, rv, p, hz⟩ := I.tuple hq
    have p : s.heap.IsTuple a its.toArray := p
    obtain ⟨n1, n2⟩ := apart p hit he
    obtain ⟨f0, f1, f2, f3, f4, f5⟩ := hf it (by simp)
    have e1 : its.toArray.size = i := by
      have := rv.length
      rw [List.size_toArray]
      omega
    exact wpAny_pyNext_enum_endD (Draws.tuple (A := X.A.in1) (I.ok.hd hc) it a n1 its.toArray) he ⟨by rw [e1]; exact hit, p⟩ fun h1 eb => ⟨rfl, I.turned (t' := s.toks) (fun b o hb q => eb b o hb q) f0 f1 f3 f4 f5⟩
  self := fun A i s Q E st h => let ⟨⟨_, he⟩, _⟩ := st; wpAny_pyIter_enum he h
def iEn (K : PySem.W.Frag) (ta : TA) : TI := fun σ H R => ta σ H fun vs H1 => ∃ a xs, vs = [.ref a] ∧ SqT K H1 a xs ∧ R (ItE K a) H1
end En
theorem L2.pi_enumT {X : L2.Cx} {e : PySem.Expr} {ta : L2.TA} {p pos tpos : PySem.Pos} {elts : List PySem.Expr} {kk : Nat} (hg : L2.Gl X "enumerate") (hm : X.mg "enumerate" = none) (ha : L2.PA X [e] ta) (hs : PySem.starEach [e] X.env = [(false, PySem.eval e X.env)] := by rfl) :
    L2.PI X (.Tuple elts kk tpos) (.Call (.Name "enumerate" p) [e] [] pos) (En.iEn X.K ta) := by
  open PySem PySem.Spec PyProof.Rows L2 in
  refine ⟨fun pins s σ H R I h => Call_ (ld_blt I hg hm boot_enumerate (PyProof.Rows.callWith_type1 (thn (ha.run pos pins s σ H _ I h) fun us s1 ⟨vs, H1, I1, r1, a, xs, ex, hq, q⟩ => ?_) hs rfl))⟩
  subst ex
  cases r1 with
  | cons r rr =>
    cases rr
    cases r
    obtain ⟨its, rv, pt, hz⟩ := I1.tuple hq
    refine PySem.en_call (its := its.toArray) pt fun h1 he hit hk => PySem.wpAny_pyIter_enum he ?_
    refine ⟨s1.heap.objs.size + 1, [s1.heap.objs.size + 1, s1.heap.objs.size], _, _, H1, rfl, I1.kept (t' := s1.toks) hk, En.turn a (s1.heap.objs.size + 1) s1.heap.objs.size, ⟨⟨.none, he⟩, hit, Nat.succ_ne_self _⟩, fun b hb => ?_, q⟩
    have le : s1.heap.objs.size ≤ b := by
      have hb' : b = s1.heap.objs.size + 1 ∨ b = s1.heap.objs.size := by simpa using hb
      rcases hb' with z | z <;> rw [z]
      · exact Nat.le_succ _
      · exact Nat.le_refl _
    exact I1.fpOk le (I1.hok.fresh le)
namespace En
open PySem PySem.Spec PyProof.Rows L2
theorem for_en {K : PySem.W.Frag} {a : Addr} {xs : List V} {g : TG} {tb : TS} {D : Ends} {σ : L2.St} {H : Hp} (Pv : Nat → L2.St → Hp → Prop) (h0 : Pv 0 σ H) (hl : ∀ i σ H, i ≤ xs.length → Pv i σ H → SqT K H a xs)
    (hs : ∀ i x σ H T, xs[i]? = some x → Pv i σ H → H T = none → g (.ref T) σ (upd H T (.tup [.int (i : Nat), x])) fun σ2 H2 => tb { D with nx := Pv (i + 1), ct := Pv (i + 1), bk := D.nx } σ2 H2) (hd : ∀ σ H, Pv xs.length σ H → D.nx σ H) :
    ∃ W : Nat → Nat → L2.St → Hp → Prop, (∃ m, W 0 m σ H) ∧ ∀ i m σ H, W i m σ H →
      ((ItE K a).stop i H ∧ D.nx σ H) ∨ ((ItE K a).go i H ∧ ∃ N : L2.St → Hp → Prop, (∀ σ' H', N σ' H' → ∃ m', m' < m ∧ W (i + 1) m' σ' H') ∧ ∀ x H', (ItE K a).yld i H x H' → g x σ H' fun σ2 H2 => tb { D with nx := N, ct := N, bk := D.nx } σ2 H2) := by
  refine ⟨fun i m σ H => i + m = xs.length ∧ Pv i σ H, ⟨xs.length, Nat.zero_add _, h0⟩, fun i m σ H ⟨e, p⟩ => ?_⟩
  have sq := hl i σ H (by omega) p
  cases m with
  | zero =>
    obtain rfl : i = xs.length := by omega
    exact .inl ⟨⟨xs, sq, rfl⟩, hd σ H p⟩
  | succ m =>
    have hx := List.getElem?_eq_getElem (show i < xs.length by omega)
    refine .inr ⟨⟨xs, _, sq, hx⟩, Pv (i + 1), fun σ' H' q => ⟨m, Nat.lt_succ_self m, by omega, q⟩, ?_⟩
    rintro y H' ⟨T, x, rfl, nT, rfl, hy⟩
    exact hs i x σ H T (hy xs sq) p nT
theorem lc_en {K : PySem.W.Frag} {a : Addr} {xs : List V} {g : TG} {tt : TT} {te : TE} {vs : List Nat} {σ : L2.St} {H1 : Hp} {D : Addr} {Qd : Hp → Prop} (Pv : Nat → Hp → Prop) (h0 : Pv 0 (upd H1 D (.lst []))) (hl : ∀ i H, i ≤ xs.length → Pv i H → SqT K H a xs)
    (hs : ∀ i x H T, xs[i]? = some x → Pv i H → H T = none → g (.ref T) (wipe σ vs) (upd H T (.tup [.int (i : Nat), x])) fun σ2 H2 => wipe σ2 vs = wipe σ vs ∧ tt σ2 H2 fun b H3 => if b = true then te σ2 H3 fun y H4 => ∃ acc, H4 D = some (.lst acc) ∧ acc.length < sizeLine ∧ Pv (i + 1) (upd H4 D (.lst (acc ++ [y]))) else Pv (i + 1) H3) (hd : ∀ H, Pv xs.length H → Qd H) :
    ∃ W : Nat → Nat → Hp → Prop, (∃ m, W 0 m (upd H1 D (.lst []))) ∧ ∀ i m H, W i m H →
      ((ItE K a).stop i H ∧ Qd H) ∨ ((ItE K a).go i H ∧ ∃ Nx : Hp → Prop, (∀ H', Nx H' → ∃ m', m' < m ∧ W (i + 1) m' H') ∧ ∀ x H', (ItE K a).yld i H x H' → g x (wipe σ vs) H' fun σ2 H2 => wipe σ2 vs = wipe σ vs ∧ tt σ2 H2 fun b H3 =>
        if b = true then te σ2 H3 fun y H4 => ∃ acc, H4 D = some (.lst acc) ∧ acc.length < sizeLine ∧ Nx (upd H4 D (.lst (acc ++ [y]))) else Nx H3) := by
  refine ⟨fun i m H => i + m = xs.length ∧ Pv i H, ⟨xs.length, Nat.zero_add _, h0⟩, fun i m H ⟨e, p⟩ => ?_⟩
  have sq := hl i H (by omega) p
  cases m with
  | zero =>
    obtain rfl : i = xs.length := by omega
    exact .inl ⟨⟨xs, sq, rfl⟩, hd H p⟩
  | succ m =>
    have hx := List.getElem?_eq_getElem (show i < xs.length by omega)
    refine .inr ⟨⟨xs, _, sq, hx⟩, Pv (i + 1), fun H' q => ⟨m, Nat.lt_succ_self m, by omega, q⟩, ?_⟩
    rintro y H' ⟨T, x, rfl, nT, rfl, hy⟩
    exact hs i x H T (hy xs sq) p nT
end En
namespace L2
open PySem PySem.Spec PyProof.Rows
theorem pg_tupB {X : Cx} {K : PySem.W.Frag} {es : List Expr} {k : Nat} {t : TGs} {n : Nat} {pos : Pos} (hK : X.K = K) (hc : X.calm = true) (h : PGs X es t) (hn : (assignEach es X.env).length = n := by rfl) (hst : (assignEach es X.env).findIdx? (·.1) = none := by rfl) : PG X (.Tuple es k pos) (gTup K n t) := by
  subst hK
  exact pg_tup hc h hn hst
end L2
namespace Sl
end Sl
namespace En
end En
namespace Wd
open PySem PySem.Spec PyProof.Rows L2 GxR Nw Dr Kp Se Sl En
structure Zw (mg : Str → Option Value) : Prop where
  z_len : mg "len" = none
  z_all : mg "all" = none
  z_tuple : mg "tuple" = none
  z_range : mg "range" = none
  z_enumerate : mg "enumerate" = none
abbrev sWid : Stmt := topS 4
abbrev nWid : List Str := ["one", "other", "say"]
theorem scWid : FnScope nWid ["one", "other"] (defScope sWid) := ⟨rfl, rfl, rfl, by decide +kernel, rfl, by decide +kernel, by decide +kernel⟩
theorem ints_flat (cs : List Int) : (cs.map V.int).all flatV = true := by
  rw [List.all_map, List.all_eq_true]
  exact fun _ _ => rfl
theorem at_int {ks : List Int} {i : Nat} {x : V} (hx : (ks.map V.int)[i]? = some x) : ∃ z, ks[i]? = some z ∧ x = V.int z := by
  rw [List.getElem?_map] at hx
  cases e : ks[i]? with
  | none =>
    rw [e] at hx
    cases hx
  | some z =>
    rw [e] at hx
    exact ⟨z, rfl, (Option.some.inj hx).symm⟩
/-- each of cs is one of ds -/
def wideB (cs ds : List Int) : Bool := cs.all fun s => inV (.int s) (ds.map V.int)
theorem take_all {α : Type} {f : α → Bool} {l : List α} {i : Nat} {x : α} (h : l[i]? = some x) (p : (l.take i).all f = true) : (f x = false → l.all f = false) ∧ (f x = true → (l.take (i + 1)).all f = true) := by
  refine ⟨fun z => List.all_eq_false.mpr ⟨x, List.mem_of_getElem? h, by rw [z]; decide⟩, fun z => ?_⟩
  rw [List.take_add_one, h, List.all_append, p]
  show (f x && true) = true
  rw [z]
  rfl
section
variable {P : Program} {w : World} {K : PySem.W.Frag} {mg : Str → Option Value} {base : Heap}
def spWid (Pw : Addr) : Sp := fun vs H Q _ => ∃ (v u : V) (cs ds : List Int), vs = [v, u] ∧ TupI H v cs ∧ TupI H u ds ∧ TabG H Pw ∧ ∀ H', Ke Nof H H' → Q (.bl (wideB cs ds)) H'
theorem ok_wid {f c Pw : Addr} {fd : FuncData} {k : Nat} (F : FunC K "is_wide" "is_wide" sWid f c fd) (T : Zw mg) (TB : TabB base mg c Pw) : FnOk P w K mg base CX0 (k + 3) f fd ["one", "other"] (spWid Pw) := by
  refine F.ok scWid (fun vs H Q E h => ?_) (fun A outer s H vs Q E hr h => ?_)
  · obtain ⟨v, u, cs, ds, rfl, _⟩ := h
    rfl
  · obtain ⟨v, u, cs, ds, rfl, ⟨a, rfl, ha⟩, ⟨b, rfl, hb⟩, tg, q⟩ := h
    refine ⟨_, (pss_one (ps_ret (Gx.pe_all hr (by rfl) T.z_all rfl scWid.nd TB rfl (pi_tup (pv 0)) (own := [("say", 2)]) (g := gName 2) (tt := tYes) (blkOk_by (N := nWid) (sc := defScope sWid) (by decide +kernel)) ⟨rfl, by decide +kernel, rfl⟩ (fun _ _ _ _ _ _ _ => pg_name (i := 2) scWid.nd rfl (.inl rfl)) (fun _ _ _ _ _ _ _ => pts_nil) (fun _ _ _ _ _ _ _ => (pe_cmpR (op_in_seqB (K := K) rfl) (pv 2) (pv 1) (by rfl)))))), ?_⟩
    refine ⟨_, rfl, a, rfl, ⟨_, .of ha⟩, tg, fun H1 tb => ?_⟩
    have k1 : Ke Nof H H1 := .tabbed tg tb
    refine Gx.aa_tup (xs := cs.map V.int) (Pv := fun i H' => Ke Nof H H' ∧ (cs.take i).all (fun s => inV (.int s) (ds.map V.int)) = true) ⟨k1, rfl⟩ (fun i H' _ p => .of (p.1.tups _ _ ha)) ?_ ?_
    · rintro i x H' hx ⟨k2, p⟩
      obtain ⟨z, hz, rfl⟩ := at_int hx
      obtain ⟨t1, t2⟩ := take_all hz p
      refine ⟨rfl, _, rfl, _, rfl, b, _, rfl, .inr (.of (k2.tups _ _ hb)), rfl, ints_flat ds, ?_⟩
      cases e : inV (.int z) (ds.map V.int) with
      | false =>
        refine .inl ⟨rfl, ?_⟩
        have := q H' k2
        rw [show wideB cs ds = false from t1 e] at this
        exact this
      | true => exact .inr ⟨rfl, k2, t2 e⟩
    · rintro H' ⟨k2, p⟩
      rw [List.length_map, List.take_length] at p
      have := q H' k2
      rw [show wideB cs ds = true from p] at this
      exact this
end
end Wd
namespace Dct
open PySem PySem.Spec PyProof.Rows L2
/-! ### {k: v for .. in ..}: keys of any kind that a dict takes, tuples too -/
/-- a key put into a new dict -/
theorem put_runs {X : Cx} {pins : List (Addr × Obj)} {σ : L2.St} {H G : Hp} {s : Shared} {d : Addr} {y v : V} {ku vu : Value} {E : Value → Shared → Prop} {Q : Unit → Shared → Prop} (room : X.A.units + 1 < cLine) (I : Inv X pins σ H s) (p : DPut H d y v G) (ry : RelV y ku) (rv : RelV v vu) (done : ∀ t, Inv X pins σ G t → Q () t) :
    wpAny (model X.prog X.w) X.A (dictSet d ku vu) Q E s := by
  rcases p with ⟨ks, q, here, rfl, small, rfl⟩ | ⟨ks, q, b, here, rfl, tup, small, rfl⟩
  · exact d_dictSet I here small ry rv done
  · obtain rfl : ku = Value.ref b := ry
    obtain ⟨z, nm, xs, rel, dd⟩ := dt_of I.hok here
    have lx : xs.length ≤ sizeLine := Paired.length rel ▸ z
    have ln := length_putK ks q v
    refine wpAny_dictSet_heap (hsz := lx) (show X.A.units < cLine by omega) (key_of I.hok tup) dd fun h2 d2 but => done _ ?_
    obtain ⟨o, es, ep, ho, a1, a2, a3, _, a5⟩ := d2
    have kept : KT (upd H d (.dT (putK ks q v))) (putK ks q v) (storedH xs q b vu) := (rel.put q tup rv).keeps fun c ys ec => (upd_ne (ne_of ec here fun z => nomatch z)).trans ec
    exact d_write I (by rw [here]; exact True.intro) but ⟨o, ho⟩ ⟨by omega, nm, _, kept, o, es, ep, ho, a1, a2, a3, a5⟩
/-- the dict is ini ahead of the first turn -/
def tDcG (ini : HO) (wi : TI) (g : TG) (tt : TT) (tk tv : TE) (vs : List Nat) : TE := fun σ H Q => wi σ H fun J H1 => ∀ D, H1 D = none → ∃ W : Nat → Nat → Hp → Prop, (∃ m, W 0 m (upd H1 D ini)) ∧
  ∀ i m G, W i m G → (J.stop i G ∧ Q (.ref D) G) ∨ (J.go i G ∧ ∃ Nx : Hp → Prop, (∀ G', Nx G' → ∃ m', m' < m ∧ W (i + 1) m' G') ∧
    ∀ x G', J.yld i G x G' → g x (wipe σ vs) G' fun σ2 G2 => wipe σ2 vs = wipe σ vs ∧ tt σ2 G2 fun b G3 => if b = true then tk σ2 G3 fun y G4 => tv σ2 G4 fun z G5 => ∃ G6, DPut G5 D y z G6 ∧ Nx G6 else Nx G3)
section
variable {X : Cx} {kx vx tg iter : Expr} {ifs : List Expr} {scope : Scope} {own : List (Str × Nat)} {pos : Pos} {wi : TI} {g : TG} {tt : TT} {tk tv : TE} {ini : HO}
/-- a new dict, as ini tells -/
def Emp (X : Cx) (ini : HO) : Prop := ∀ (H : Hp) (h : Heap), sysModules < h.objs.size → ObjOk X.prog X.w H (h.push { cls := .type "dict", data := .dict #[] }) h.objs.size ini
theorem dcG_core {pins : List (Addr × Obj)} {s : Shared} {σ : L2.St} {H : Hp} {Q : VK} {pos' : Pos} {use : Option (Value → Sem Unit)} {Qf : Value → Shared → Prop} (room : X.A.units + 1 < cLine) (emp : Emp X ini) (calm : X.calm = true) (nd : X.N.Nodup) (I : L2.Inv X pins σ H s) (hi : PI X tg iter wi) (ok : BlkOk X.N X.env.scope scope own)
    (hg : ∀ (s : Shared) (H : Hp) (C : Addr) (cl : List (Str × Addr)) (fp : List Addr), PG (X.blk s H scope (compEnvC scope cl C X.env) fp) tg g)
    (ht : ∀ (s : Shared) (H : Hp) (C : Addr) (cl : List (Str × Addr)) (fp : List Addr), PTs (X.blk s H scope (compEnvC scope cl C X.env) fp) ifs tt)
    (hk : ∀ (s : Shared) (H : Hp) (C : Addr) (cl : List (Str × Addr)) (fp : List Addr), PE (X.blk s H scope (compEnvC scope cl C X.env) fp) kx tk)
    (he : ∀ (s : Shared) (H : Hp) (C : Addr) (cl : List (Str × Addr)) (fp : List Addr), PE (X.blk s H scope (compEnvC scope cl C X.env) fp) vx tv)
    (hs : ∀ x, foldedSetIterable iter X.env x = pure x) (ask : tDcG ini wi g tt tk tv (own.map (·.2)) σ H Q)
    (fin : ∀ (D C : Addr) (s' : Shared) (m : Str → Option Value) (H' : Hp), L2.Inv X pins σ H' s' → Q (.ref D) H' → s'.heap.Ns C m → FpOk X pins H' C → compPost (model X.prog X.w) X.A X.xe use Qf (.ref D) C (.ok .next) s') :
    wpAny (model X.prog X.w) X.A (comprehension (.DictComp kx vx [⟨tg, iter, ifs, 0⟩] scope pos) scope X.env pos' newDict false (eval iter X.env) use) Qf X.xe s := by
  have vis : ∀ y ∈ scope.names, y.2 = .free → ∃ c, X.env.cells.lookup y.1 = some c := fun y my fy => (ok.free y my fy).elim (fun z => I.ok.has _ (.inl z)) fun z => I.ok.has _ (.inr z)
  refine wpAny_comprehension_free rfl hs (closure_ok vis) ok.kind (fun y my ly => by rw [ok.uniq y my, ly]) (thn (hi.run pins s σ H _ I ask) fun first s1 got => thn got fun iv s2 r2 => ?_)
  obtain ⟨itA, fps, tn, J, H2, rfl, I2, T, at2, ok2, rest⟩ := r2
  refine wpAny_newObj_type (newEnv_comp ?_)
  generalize hD : s2.heap.objs.size = D
  obtain ⟨W, ⟨m0, w0⟩, turn⟩ := rest D (I2.hok.fresh (Nat.le_of_eq hD))
  generalize hs3 : ({ s2 with heap := s2.heap.push { cls := .type "dict", data := .dict #[] } } : Shared) = s3
  have grown : s3.heap = s2.heap.push { cls := .type "dict", data := .dict #[] } := by rw [← hs3]
  have old : ∀ b ∈ fps, b < s2.heap.objs.size := fun b mb => (T.obj _ _ at2 b mb).elim fun o z => Heap.lt_size z.1
  have I3 : Inv X pins σ (upd H2 D ini) s3 := by
    rw [← hs3]
    exact I2.laid (t' := s2.toks) (fun b o z => Heap.get?_push_of_some _ z) (Nat.le_of_eq hD) (hD ▸ emp _ s2.heap I2.big)
  have ok3 : ∀ b ∈ fps, FpOk X pins (upd H2 D ini) b ∧ b < s3.heap.objs.size := fun b mb => by
    have lt := old b mb
    refine ⟨⟨(upd_ne (hD ▸ Nat.ne_of_lt lt)).trans (ok2 b mb).1, (ok2 b mb).2⟩, ?_⟩
    rw [grown, Heap.size_push]
    exact Nat.lt_succ_of_lt lt
  have at3 : tn 0 s3.heap := T.keep _ _ _ at2 fun b _ o z => grown ▸ Heap.get?_push_of_some _ z
  have I4 := block_start I3 ok nd ok3
  have pg := hg s3 (upd H2 D ini) s3.heap.objs.size (cellsFrom (s3.heap.objs.size + 1) scope.names (cloFrom X.env.cells scope.names [])) fps
  have pt := ht s3 (upd H2 D ini) s3.heap.objs.size (cellsFrom (s3.heap.objs.size + 1) scope.names (cloFrom X.env.cells scope.names [])) fps
  have pk := hk s3 (upd H2 D ini) s3.heap.objs.size (cellsFrom (s3.heap.objs.size + 1) scope.names (cloFrom X.env.cells scope.names [])) fps
  have pv := he s3 (upd H2 D ini) s3.heap.objs.size (cellsFrom (s3.heap.objs.size + 1) scope.names (cloFrom X.env.cells scope.names [])) fps
  have gone : ∀ b ∈ fps, (upd H2 D ini) b = none := fun b mb => (ok3 b mb).1.1
  show codeAny _ _ (.compStart (.DictComp kx vx [⟨tg, iter, ifs, 0⟩] scope pos) 0 (.ref itA) (.ref D) (compEnvC scope (cellsFrom (s3.heap.objs.size + 1) scope.names (cloFrom X.env.cells scope.names [])) s3.heap.objs.size X.env)) (compPost (model X.prog X.w) X.A X.xe _ _ (.ref D) s3.heap.objs.size)
    { s3 with heap := pushCells (s3.heap.push { cls := .type "dict", data := .dict #[] }) scope.names }
  generalize hce : compEnvC scope (cellsFrom (s3.heap.objs.size + 1) scope.names (cloFrom X.env.cells scope.names [])) s3.heap.objs.size X.env = ce at I4 pg pt pk pv ⊢
  have loc : ce.locals = s3.heap.objs.size := hce ▸ rfl
  generalize hG : upd H2 D ini = G at I3 I4 pg pt pk pv w0 gone ok3
  generalize hs4 : ({ s3 with heap := pushCells (s3.heap.push { cls := .type "dict", data := .dict #[] }) scope.names } : Shared) = s4 at I4 ⊢
  have at4 : tn 0 s4.heap := T.keep _ _ _ at3 fun b _ o z => hs4 ▸ pushCells_keeps _ _ _ _ (Heap.get?_push_of_some _ z)
  have pinned : ∀ {σ' : L2.St} {F : Hp} {t : Shared}, Inv (X.blk s3 G scope ce fps) [] σ' F t → (∀ b ∈ fps, F b = none) → ∀ b ∈ fps, FpOk (X.blk s3 G scope ce fps) [] F b := fun {σ' F t} J' no b mb =>
    ⟨no b mb, (J'.ok.exf b mb).1, J'.ok.exfs b mb, .inl mb, fun x c z => (J'.ok.exf b mb).2 x c z, fun p mp => absurd (show p ∈ ([] : List (Addr × Obj)) ++ [] from mp) (by simp)⟩
  suffices all : codeAny (model X.prog X.w) X.A (.compLoop (.DictComp kx vx [⟨tg, iter, ifs, 0⟩] scope pos) 0 (.ref itA) (.ref D) ce) _ s4 from codeAny_compStart_dict all (T.self X.A 0 _ _ _ at4 all)
  refine compLoop_anyD (fun n t => ∃ i F, Inv (X.blk s3 G scope ce fps) [] (wipe σ (own.map (·.2))) F t ∧ tn i t.heap ∧ (∀ b ∈ fps, F b = none) ∧ W i n F) ?_ m0 ⟨0, G, I4, at4, gone, w0⟩
  rintro n s5 ⟨i, F5, I5, at5, no5, w5⟩
  rcases turn i n F5 w5 with ⟨ends, told⟩ | ⟨goes, Nx, next, step⟩
  · -- the end: back to the def
    refine thnF (T.done (X.blk s3 G scope ce fps) rfl rfl rfl calm i [] s5 _ F5 (fun _ _ => False) I5 (pinned I5 no5) at5 ends) fun r s6 ⟨er, I6⟩ => ?_
    subst er
    have back : Inv X pins σ F5 s6 := I3.call' (ch := fps) I6.os I6.base I6.hok I6.bare fun b mb => ⟨(ok3 b mb).1.2.2.2.1, (ok3 b mb).1.2.1, (ok3 b mb).1.2.2.2.2.1, (ok3 b mb).1.2.2.2.2.2⟩
    have noC : F5 s3.heap.objs.size = none := loc ▸ (show F5 ce.locals = none from I6.free)
    obtain ⟨mm, ns, _⟩ := I6.loc
    have ns : s6.heap.Ns s3.heap.objs.size mm := loc ▸ (show s6.heap.Ns ce.locals mm from ns)
    exact fin D _ s6 mm F5 back told ns (I3.fpOk (Nat.le_refl _) noC)
  · -- one turn
    refine thnF (T.item (X.blk s3 G scope ce fps) rfl rfl rfl calm i [] s5 _ F5 (fun _ _ => False) I5 (pinned I5 no5) at5 goes) fun r s6 ⟨u, er, h6⟩ => ?_
    subst er
    refine thnF h6 fun _ s7 ⟨x, F7, I7, rx, yx, at7, no7⟩ => ?_
    have held := I7.pinned (pinned I7 no7) (T.obj _ _ at7)
    refine thnF (pg.run _ s7 _ F7 x u _ held rx (step x F7 yx)) fun _ s8 ⟨σ8, F8, I8, wp8, a8⟩ => ?_
    refine thnF (pt.run _ s8 σ8 F8 _ I8 a8) fun b s9 ⟨F9, I9, a9⟩ => ?_
    have over : ∀ {t : Shared} {F' : Hp}, Inv (X.blk s3 G scope ce fps) ([] ++ pinsAt fps s7.heap) σ8 F' t → Nx F' → ∃ m, m < n ∧ ∃ i F', Inv (X.blk s3 G scope ce fps) [] (wipe σ (own.map (·.2))) F' t ∧ tn i t.heap ∧ (∀ b ∈ fps, F' b = none) ∧ W i m F' := fun {t F'} Jt nx => by
      obtain ⟨m', less, w'⟩ := next F' nx
      have stay : ∀ b ∈ fps, ∀ o, s7.heap.get? b = some o → t.heap.get? b = some o ∧ F' b = none := fun b mb o z => by
        have y := Jt.pin (b, o) (List.mem_append_right _ (List.mem_append_right _ (mem_pinsAt mb z)))
        exact ⟨y.1, y.2.1⟩
      have len : (wipe σ (own.map (·.2))).length = σ8.length := by rw [← wp8, wipe_length]
      exact ⟨m', less, i + 1, F', (Jt.unpinned (pins := [])).weak len (fun j v z => (wipe_some (wp8.symm ▸ z)).1), T.keep _ _ _ at7 fun b mb o z => (stay b mb o z).1, fun b mb => (T.obj _ _ at7 b mb).elim fun o z => (stay b mb o z.1).2, w'⟩
    cases b with
    | false => exact over I9 a9
    | true =>
      refine thnF (pk.run _ s9 σ8 F9 _ I9 a9) fun kv s10 ⟨yk, F10, I10, r10, a10⟩ => ?_
      refine thnF (pv.run _ s10 σ8 F10 _ I10 a10) fun vv s11 ⟨yv, F11, I11, r11, F12, pd, nx⟩ => ?_
      exact put_runs (X := X.blk s3 G scope ce fps) room I11 pd r10 r11 fun t It => over It nx
theorem pe_dcG (room : X.A.units + 1 < cLine) (emp : Emp X ini) (calm : X.calm = true) (nd : X.N.Nodup) (hi : PI X tg iter wi) (ok : BlkOk X.N X.env.scope scope own)
    (hg : ∀ (s : Shared) (H : Hp) (C : Addr) (cl : List (Str × Addr)) (fp : List Addr), PG (X.blk s H scope (compEnvC scope cl C X.env) fp) tg g)
    (ht : ∀ (s : Shared) (H : Hp) (C : Addr) (cl : List (Str × Addr)) (fp : List Addr), PTs (X.blk s H scope (compEnvC scope cl C X.env) fp) ifs tt)
    (hk : ∀ (s : Shared) (H : Hp) (C : Addr) (cl : List (Str × Addr)) (fp : List Addr), PE (X.blk s H scope (compEnvC scope cl C X.env) fp) kx tk)
    (he : ∀ (s : Shared) (H : Hp) (C : Addr) (cl : List (Str × Addr)) (fp : List Addr), PE (X.blk s H scope (compEnvC scope cl C X.env) fp) vx tv)
    (hs : ∀ x, foldedSetIterable iter X.env x = pure x := by intro _; rfl) :
    PE X (.DictComp kx vx [⟨tg, iter, ifs, 0⟩] scope pos) (tDcG ini wi g tt tk tv (own.map (·.2))) := by
  refine ⟨fun pins s σ H Q I ask => ?_⟩
  rw [arm_eval_DictComp]
  refine dcG_core room emp calm nd I hi ok hg ht hk he hs ask fun D C s' m H' I' q ns f => ?_
  obtain ⟨q0, q1, q2, q3, q4, q5⟩ := f
  exact ⟨m, ns, fun h' but => ⟨.ref D, H', I'.turned (t' := s'.toks) (fun b o nb z => (but.2 b nb).trans z) q0 q1 q3 q4 q5, rfl, q⟩⟩
/-- a local is set to such a dict -/
theorem ps_setDcG {i : Nat} {y : Str} {py spos : Pos} (room : X.A.units + 1 < cLine) (emp : Emp X ini) (calm : X.calm = true) (nd : X.N.Nodup) (hy : X.N[i]? = some y) (hyl : X.env.scope.names.lookup y = some .local)
    (hsw : swapsWith (.DictComp kx vx [⟨tg, iter, ifs, 0⟩] scope pos) (some (.Name y py)) spos.line X.env = pure true) (hi : PI X tg iter wi) (ok : BlkOk X.N X.env.scope scope own)
    (hg : ∀ (s : Shared) (H : Hp) (C : Addr) (cl : List (Str × Addr)) (fp : List Addr), PG (X.blk s H scope (compEnvC scope cl C X.env) fp) tg g)
    (ht : ∀ (s : Shared) (H : Hp) (C : Addr) (cl : List (Str × Addr)) (fp : List Addr), PTs (X.blk s H scope (compEnvC scope cl C X.env) fp) ifs tt)
    (hk : ∀ (s : Shared) (H : Hp) (C : Addr) (cl : List (Str × Addr)) (fp : List Addr), PE (X.blk s H scope (compEnvC scope cl C X.env) fp) kx tk)
    (he : ∀ (s : Shared) (H : Hp) (C : Addr) (cl : List (Str × Addr)) (fp : List Addr), PE (X.blk s H scope (compEnvC scope cl C X.env) fp) vx tv)
    (hs : ∀ x, foldedSetIterable iter X.env x = pure x := by intro _; rfl) :
    PS X (.Assign [.Name y py] (.DictComp kx vx [⟨tg, iter, ifs, 0⟩] scope pos) spos) (tAsg (tDcG ini wi g tt tk tv (own.map (·.2))) (gName i)) := by
  refine ⟨fun pins s σ H D I h => ?_⟩
  rw [exec_Assign_Name_used y py _ spos hsw]
  refine wpAny_bind (wpAny_standAt (wpAny_bind (wpAny_bind (thn (dcG_core room emp calm nd I hi ok hg ht hk he hs h fun L C s' m H' I' q hn f => ?_) fun x s' hq => wpAny_pure (wpAny_pure hq)))))
  refine wpAny_assign_Name (store_ok2 I' nd hy (.inl hyl) (show L2.RelV (V.ref L) (Value.ref L) from rfl) (fun s2 I2 ⟨a, sb, ha⟩ => ?_) (.inr hyl))
  obtain ⟨f0, f1, f2, f3, f4, f5⟩ := f
  have haC : C ≠ a := ha.elim (fun z => by rw [z]; exact f1) fun z e => f4 y a z e.symm
  exact ⟨m, Heap.Ns.sameBut hn sb haC, fun h3 sb3 => ⟨σ.set i (some (.ref L)), H', Inv.turned I2 (fun b o hb e => (sb3.2 b hb).trans e) f0 f1 f3 f4 f5, q⟩⟩
theorem sw_trueD {kx vx : Expr} {gs : List Comprehension} {scope : Scope} {pos py : Pos} {y : Str} {l : Nat} {env : Env} (hk : env.scope.kind = .function) (hy : env.scope.names.lookup y = some .local) (hl : (py.line == pos.line) = true)
    (ha : (scope.names.any fun x => match x with | (n, k) => n == y && (k == NameKind.local || k == NameKind.cell)) = false) : swapsWith (.DictComp kx vx gs scope pos) (some (.Name y py)) l env = pure true :=
  sw_true (elt := kx) (gs := gs) (l := l) hk hy hl ha
theorem emp_t : Emp X (.dT []) := fun _ h big => dt_empty h big
end
end Dct
namespace Ptc
open PySem PySem.Spec PyProof.Rows L2 GxR Nw Dr Kp Se Ct Lr Dj Wtc To
open Un (lt1)
theorem op_orR {X : Cx} {o : Value → Value → Sem Value} {r1 r2 : R2} (h1 : OpR X o r1) (h2 : OpR X o r2) : OpR X o fun x y H Q => r1 x y H Q ∨ r2 x y H Q := by
  intro pins s σ H x y v u Q I rx ry h
  rcases h with h | h
  · exact h1 pins s σ H x y v u Q I rx ry h
  · exact h2 pins s σ H x y v u Q I rx ry h
/-- a kind of worths, and how they stand in the heap -/
structure Wk (W : Type) where
  A : Ab W
  R : Hp → V → W → Prop
  lt : W → W → Bool
structure Wk.Ok {W : Type} (M : Wk W) : Prop where
  ok : M.A.Ok
  tp : ∀ {H H' : Hp} {v : V} {w : W}, M.R H v w → (∀ a xs, H a = some (.tup xs) → H' a = some (.tup xs)) → M.R H' v w
  le : ∀ u v, M.lt u v = true ↔ ¬ M.A.le v u
  cmp : ∀ {K : PySem.W.Frag} {H : Hp} {u v : W} {x y : V} {Q : VK}, M.R H x u → M.R H y v → Q (.bl (M.lt u v)) H → rI0 (fun i j => .bl (decide (i < j))) x y H Q ∨ rLtT K x y H Q
/-- cuts and height -/
def mC : Wk (Nat × Nat) := ⟨aC, fun H v w => ∃ a, v = .ref a ∧ H a = some (.tup [.int (w.1 : Nat), .int (w.2 : Nat)]), fun u v => decide (u.1 < v.1 ∨ (u.1 = v.1 ∧ u.2 < v.2))⟩
/-- the height alone -/
def mH : Wk Nat := ⟨aH, fun _ v w => v = .int (w : Nat), fun u v => decide (u < v)⟩
theorem mC_ok : mC.Ok := by
  refine ⟨aC_ok, fun {H H' v w} h t => ?_, fun u v => ?_, fun {K H u v x y Q} hx hy q => ?_⟩
  · obtain ⟨a, e, h⟩ := h
    exact ⟨a, e, t _ _ h⟩
  · show decide (u.1 < v.1 ∨ (u.1 = v.1 ∧ u.2 < v.2)) = true ↔ ¬ (v.1 < u.1 ∨ (v.1 = u.1 ∧ v.2 ≤ u.2))
    rw [decide_eq_true_iff]
    omega
  · obtain ⟨a, rfl, ha⟩ := hx
    obtain ⟨b, rfl, hb⟩ := hy
    refine .inr ⟨a, b, [(u.1 : Int), (u.2 : Int)], [(v.1 : Int), (v.2 : Int)], rfl, rfl, .of ha, .of hb, ?_⟩
    have e : HT.lexLt [(u.1 : Int), (u.2 : Int)] [(v.1 : Int), (v.2 : Int)] = mC.lt u v := by
      show (if (u.1 : Int) = v.1 then (if (u.2 : Int) = v.2 then false else decide ((u.2 : Int) < v.2)) else decide ((u.1 : Int) < v.1)) = decide (u.1 < v.1 ∨ (u.1 = v.1 ∧ u.2 < v.2))
      by_cases h1 : (u.1 : Int) = v.1
      · rw [if_pos h1]
        by_cases h2 : (u.2 : Int) = v.2
        · rw [if_pos h2]
          exact (decide_eq_false (by omega)).symm
        · rw [if_neg h2]
          exact decide_eq_decide.mpr (by omega)
      · rw [if_neg h1]
        exact decide_eq_decide.mpr (by omega)
    rw [e]
    exact q
theorem mH_ok : mH.Ok := by
  refine ⟨aH_ok, fun {H H' v w} h t => h, fun u v => ?_, fun {K H u v x y Q} hx hy q => ?_⟩
  · show decide (u < v) = true ↔ ¬ v ≤ u
    rw [decide_eq_true_iff]
    omega
  · have hx : x = .int (u : Nat) := hx
    have hy : y = .int (v : Nat) := hy
    subst hx
    subst hy
    refine .inl ⟨_, _, rfl, rfl, ?_⟩
    have e : decide (((u : Nat) : Int) < ((v : Nat) : Int)) = mH.lt u v := decide_eq_decide.mpr (by omega)
    show Q (.bl (decide (((u : Nat) : Int) < ((v : Nat) : Int)))) H
    rw [e]
    exact q
/-- a table of worths -/
structure WtT {W : Type} (M : Wk W) (H : Hp) (D : Addr) (ks : List C) (ws : C → Option W) : Prop where
  ex : ∃ kvs, H D = some (.dT kvs) ∧ kvs.map (·.1) = ks.map kT ∧ (∀ c, ws c = none → valV kvs (kT c) = none) ∧ ∀ c w, ws c = some w → ∃ x, valV kvs (kT c) = some x ∧ M.R H x w
  nd : ks.Nodup
  me : ∀ c, c ∈ ks ↔ ∃ w, ws c = some w
/-- a record as it stands in the heap -/
def RcA (H : Hp) (a : Addr) : Rc → Prop
  | .book n => H a = some (.tup [.str "book", .int (n : Nat)])
  | .cut c d k => ∃ p q, H a = some (.tup [.str "cut", .ref p, .ref q, .int k]) ∧ H p = some (.tup (c.map V.int)) ∧ H q = some (.tup (d.map V.int))
theorem RcA.tp {H H' : Hp} {a : Addr} {r : Rc} (h : RcA H a r) (t : ∀ a xs, H a = some (.tup xs) → H' a = some (.tup xs)) : RcA H' a r := by
  cases r with
  | book n => exact t _ _ h
  | cut c d k =>
    obtain ⟨p, q, h1, h2, h3⟩ := h
    exact ⟨p, q, t _ _ h1, t _ _ h2, t _ _ h3⟩
/-- a table of records -/
def RcT (H : Hp) (E : Addr) (ks : List C) (rs : C → Option Rc) : Prop := ∃ kvs, H E = some (.dT kvs) ∧ kvs.map (·.1) = ks.map kT ∧ ∀ c r, rs c = some r → ∃ a, valV kvs (kT c) = some (.ref a) ∧ RcA H a r
theorem put_keys {kvs : List (List Key × V)} {ks : List C} (h : kvs.map (·.1) = ks.map kT) (c : C) (x : V) : (putK kvs (kT c) x).map (·.1) = (if c ∈ ks then ks else ks ++ [c]).map kT := by
  have mem : (kvs.any fun kv => decide (kv.1 = kT c)) = true ↔ c ∈ ks := by
    rw [List.any_eq_true]
    constructor
    · rintro ⟨kv, hm, e⟩
      have : kv.1 ∈ ks.map kT := by rw [← h]; exact List.mem_map.mpr ⟨kv, hm, rfl⟩
      obtain ⟨d, hd, e2⟩ := List.mem_map.mp this
      have := kT_inj (e2.trans (of_decide_eq_true e))
      exact this ▸ hd
    · intro hc
      have : kT c ∈ kvs.map (·.1) := by rw [h]; exact List.mem_map.mpr ⟨c, hc, rfl⟩
      obtain ⟨kv, hm, e⟩ := List.mem_map.mp this
      exact ⟨kv, hm, decide_eq_true e⟩
  unfold putK
  by_cases z : (kvs.any fun kv => decide (kv.1 = kT c)) = true
  · rw [if_pos z, if_pos (mem.mp z), List.map_map, ← h]
    refine List.map_congr_left fun kv _ => ?_
    show (if kv.1 = kT c then (kv.1, x) else kv).1 = kv.1
    split <;> rfl
  · rw [if_neg z, if_neg fun y => z (mem.mpr y), List.map_append, List.map_append, h]
    rfl
section
variable {P : Program} {w : World} {K : PySem.W.Frag} {mg : Str → Option Value} {base : Heap}
def spAb {W : Type} (M : Wk W) : Sp := fun vs H Q _ => ∃ (x y : V) (u v : W), vs = [x, y] ∧ M.R H x u ∧ M.R H y v ∧ ∀ z H', Same H H' → M.R H' z (M.A.ab u v) → Q z H'
structure Zab (mg : Str → Option Value) : Prop where
  z_max : mg "max" = none
abbrev sCah : Stmt := topS 28
theorem scCah : FnScope ["one", "other"] ["one", "other"] (defScope sCah) := ⟨rfl, rfl, rfl, by decide +kernel, rfl, by decide +kernel, by decide +kernel⟩
theorem max_nat (a b : Nat) : max ((a : Nat) : Int) ((b : Nat) : Int) = ((max a b : Nat) : Int) := by omega
theorem ok_cah {f : Addr} {fd : FuncData} {k : Nat} (F : Fun K "cuts_and_height" "cuts_and_height" sCah f fd) (T : Zab mg) : FnOk P w K mg base CX0 (k + 1) f fd ["one", "other"] (spAb mC) := by
  refine F.ok scCah (fun vs H Q E h => ?_) (fun cdv A outer s H vs Q E hr h => ?_)
  · obtain ⟨x, y, u, v, rfl, _⟩ := h
    rfl
  · obtain ⟨x, y, u, v, rfl, ⟨a, rfl, ha⟩, ⟨b, rfl, hb⟩, q⟩ := h
    refine ⟨_, (pss_one (ps_ret (pe_tupN (pa_cons (pe_op op_add (pe_op op_add (pe_ix ix_tup (pv 0) pe_int (fun _ _ => rfl)) (pe_ix ix_tup (pv 1) pe_int (fun _ _ => rfl))) pe_int) (pa_cons (pe_op op_add pe_int (pe_callB (call_max2 rfl) (by rfl) T.z_max (by decide +kernel) (pa_cons (pe_ix ix_tup (pv 0) pe_int (fun _ _ => rfl)) (pa_cons (pe_ix ix_tup (pv 1) pe_int (fun _ _ => rfl)) pa_nil)))) pa_nil))))), ?_⟩
    refine ⟨_, rfl, a, _, 0, .int (u.1 : Nat), rfl, rfl, .of ha, rfl, ?_⟩
    refine ⟨_, rfl, b, _, 0, .int (v.1 : Nat), rfl, rfl, .of hb, rfl, _, _, rfl, rfl, _, _, rfl, rfl, ?_⟩
    refine ⟨_, rfl, a, _, 1, .int (u.2 : Nat), rfl, rfl, .of ha, rfl, _, rfl, b, _, 1, .int (v.2 : Nat), rfl, rfl, .of hb, rfl, _, _, rfl, _, _, rfl, rfl, ?_⟩
    refine ⟨by show 2 ≤ sizeLine; decide, fun t H1 nt s1 ht _ => q (.ref t) H1 s1 ⟨t, rfl, ?_⟩⟩
    rw [ht]
    have e1 : ((u.1 : Nat) : Int) + (v.1 : Nat) + 1 = ((u.1 + v.1 + 1 : Nat) : Int) := by omega
    have e2 : (1 : Int) + (if ((v.2 : Nat) : Int) > (u.2 : Nat) then ((v.2 : Nat) : Int) else (u.2 : Nat)) = ((1 + max u.2 v.2 : Nat) : Int) := by split <;> omega
    show some (HO.tup [.int (((u.1 : Nat) : Int) + (v.1 : Nat) + 1), .int ((1 : Int) + (if ((v.2 : Nat) : Int) > (u.2 : Nat) then ((v.2 : Nat) : Int) else (u.2 : Nat)))]) = _
    rw [e1, e2]
    rfl
abbrev sHab : Stmt := topS 29
theorem scHab : FnScope ["one", "other"] ["one", "other"] (defScope sHab) := ⟨rfl, rfl, rfl, by decide +kernel, rfl, by decide +kernel, by decide +kernel⟩
theorem ok_hab {f : Addr} {fd : FuncData} {k : Nat} (F : Fun K "height_above" "height_above" sHab f fd) (T : Zab mg) : FnOk P w K mg base CX0 (k + 1) f fd ["one", "other"] (spAb mH) := by
  refine F.ok scHab (fun vs H Q E h => ?_) (fun cdv A outer s H vs Q E hr h => ?_)
  · obtain ⟨x, y, u, v, rfl, _⟩ := h
    rfl
  · obtain ⟨x, y, u, v, rfl, hx, hy, q⟩ := h
    have hx : x = .int (u : Nat) := hx
    have hy : y = .int (v : Nat) := hy
    subst hx
    subst hy
    refine ⟨_, (pss_one (ps_ret (pe_op op_add pe_int (pe_callB (call_max2 rfl) (by rfl) T.z_max (by decide +kernel) (pa_cons (pv 0) (pa_cons (pv 1) pa_nil)))))), ?_⟩
    refine ⟨_, rfl, _, rfl, _, _, rfl, _, _, rfl, rfl, q _ H (Same.refl _) ?_⟩
    have e2 : (1 : Int) + (if ((v : Nat) : Int) > (u : Nat) then ((v : Nat) : Int) else (u : Nat)) = ((1 + max u v : Nat) : Int) := by split <;> omega
    show V.int ((1 : Int) + (if ((v : Nat) : Int) > (u : Nat) then ((v : Nat) : Int) else (u : Nat))) = V.int ((1 + max u v : Nat) : Int)
    rw [e2]
abbrev sPtc : Stmt := topS 31
theorem scPtc : FnScope ["worths", "trees", "above", "one", "other", "k", "claim", "worth"] ["worths", "trees", "above", "one", "other"] (defScope sPtc) := ⟨rfl, rfl, rfl, by decide +kernel, rfl, by decide +kernel, by decide +kernel⟩
/-- all ways between two claims are gone through; x is what is done with last -/
def spPtc {W : Type} (M : Wk W) (fa Po : Addr) : Sp := fun vs H Q _ => ∃ (D E p1 p2 : Addr) (css : List C) (ks : List C) (ws : C → Option W) (rs : C → Option Rc) (dn : List C) (Pd : C → C → Int → C → Prop) (a b x : C) (wx : W),
  vs = [.ref D, .ref E, .ref fa, .ref p1, .ref p2] ∧ D ≠ E ∧ WtT M H D ks ws ∧ RcT H E ks rs ∧ Inv M.A css ws rs dn Pd ∧ x ∈ dn ∧ ws x = some wx ∧ (∀ d ∈ dn, ∀ w, ws d = some w → M.A.le w wx) ∧
  H p1 = some (.tup (a.map V.int)) ∧ H p2 = some (.tup (b.map V.int)) ∧ a ∈ dn ∧ b ∈ dn ∧ (a = x ∨ b = x) ∧ IsCl a ∧ IsCl b ∧ ks.length + 8 ≤ 500 ∧ TabG H Po ∧
  ∀ (ks' : List C) (ws' : C → Option W) (rs' : C → Option Rc) (H' : Hp), Ke (fun z => z = D ∨ z = E) H H' → WtT M H' D ks' ws' → RcT H' E ks' rs' → Inv M.A css ws' rs' dn (fun a' b' k' c' => Pd a' b' k' c' ∨ (a' = a ∧ b' = b ∧ Comes a b k' c')) →
    (∀ c ∈ ks', c ∈ ks ∨ ∃ k, Comes a b k c) → (∀ c ∈ ks, c ∈ ks') → (∀ d ∈ dn, ws' d = ws d) → ks'.length ≤ ks.length + 8 → Q .non H'
theorem inv_mono {W : Type} {A : Ab W} {css : List C} {ws : C → Option W} {rs : C → Option Rc} {dn : List C} {Pd Pd' : C → C → Int → C → Prop} (I : Inv A css ws rs dn Pd) (h : ∀ a b k c, Pd' a b k c → Pd a b k c) : Inv A css ws rs dn Pd' :=
  ⟨I.bk, I.nd, I.dk, I.lo, I.so, fun a b k c z => I.ps a b k c (h a b k c z)⟩
/-- a write to a dict of ours -/
theorem ke_wrT {F : Addr → Prop} {H H1 : Hp} {p : Addr} {kvs : List (List Key × V)} {o : HO} (k : Ke F H H1) (fp : F p) (h1 : H1 p = some (.dT kvs)) : Ke F H (upd H1 p o) := by
  refine ⟨fun b x e t m => ?_, fun Q hQ => ?_, fun b ys e => ?_⟩
  · rw [upd_ne (fun z => m (by rw [z]; exact fp))]
    exact k.keep b x e t m
  · obtain ⟨qs, e2, t2⟩ := k.tabs Q hQ
    have n : Q ≠ p := fun z => by
      rw [z, h1] at e2
      cases e2
    exact ⟨qs, by rw [upd_ne n]; exact e2, t2⟩
  · have e2 := k.tups b ys e
    rw [upd_ne (fun z => by rw [z, h1] at e2; cases e2)]
    exact e2
theorem WtT.tp {W : Type} {M : Wk W} (o : M.Ok) {H H' : Hp} {D : Addr} {ks : List C} {ws : C → Option W} (x : WtT M H D ks ws) (t : ∀ a xs, H a = some (.tup xs) → H' a = some (.tup xs)) (d : H' D = H D) : WtT M H' D ks ws := by
  obtain ⟨⟨kvs, h1, h2, h3, h4⟩, nd, me⟩ := x
  refine ⟨⟨kvs, d.trans h1, h2, h3, fun c w h => ?_⟩, nd, me⟩
  obtain ⟨x, e, r⟩ := h4 c w h
  exact ⟨x, e, o.tp r t⟩
theorem RcT.tp {H H' : Hp} {E : Addr} {ks : List C} {rs : C → Option Rc} (x : RcT H E ks rs) (t : ∀ a xs, H a = some (.tup xs) → H' a = some (.tup xs)) (d : H' E = H E) : RcT H' E ks rs := by
  obtain ⟨kvs, h1, h2, h3⟩ := x
  refine ⟨kvs, d.trans h1, h2, fun c r h => ?_⟩
  obtain ⟨a, e, r⟩ := h3 c r h
  exact ⟨a, e, r.tp t⟩
theorem ok_ptc {W : Type} {M : Wk W} (o : M.Ok) {f fW fa Po : Addr} {fd fdW fda : FuncData} {k : Nat} (F : Fun K "put_cuts" "put_cuts" sPtc f fd)
    (FW : Fun K "ways_to_cut" "ways_to_cut" sWay fW fdW) (bW : Binds K fdW ["one", "other"] []) (gW : mg "ways_to_cut" = some (.ref fW)) (GW : FnOk P w K mg base CX0 5 fW fdW ["one", "other"] (spWay Po))
    (kA : PySem.W.keepIn K (.ref fa) = true) (bA : Binds K fda ["one", "other"] []) (GA : FnOk P w K mg base CX0 1 fa fda ["one", "other"] (spAb M)) :
    FnOk P w K mg base CX0 (k + 6) f fd ["worths", "trees", "above", "one", "other"] (spPtc M fa Po) := by
  refine F.ok scPtc (fun vs H Q E h => ?_) (fun cdv A outer s H vs Q E hr h => ?_)
  · obtain ⟨D, E', p1, p2, css, ks, ws, rs, dn, Pd, a, b, x, wx, rfl, _⟩ := h
    rfl
  · obtain ⟨D, E', p1, p2, css, ks, ws, rs, dn, Pd, a, b, x, wx, rfl, nDE, wt0, rt0, I0, hx, ux, tx, h1, h2, ha, hb, ax, ia, ib, l500, tg, q⟩ := h
    have hr1 : Room 1 _ := hr.mono (by omega)
    have hr5 : Room 5 _ := hr.mono (by omega)
    have hul : (A.deeper (envOfC "put_cuts" (defScope sPtc) s.heap.objs.size f cdv)).units < cLine := by
      have := hr.un
      omega
    refine ⟨_, (pss_one (ps_for PassesOwn.never rfl (pi_list (pe_call GW hr5 (by rfl) gW FW.kp bW .nil pass0 (pa_cons (pv 3) (pa_cons (pv 4) pa_nil)))) (pg_tup rfl (pgs_cons (pg_name (i := 5) scPtc.nd rfl (.inl rfl)) (pgs_cons (pg_name (i := 6) scPtc.nd rfl (.inl rfl)) pgs_nil))) (Evl.pss_cut (ps_set (i := 7) scPtc.nd rfl (.inl rfl) (pe_callL (i := 2) GA hr1 rfl (.inl rfl) kA bA .nil pass0 (pa_cons (pe_dget (Un.lt1 hr.units) (pv 0) (pv 3) (fun _ _ => rfl)) (pa_cons (pe_dget (Un.lt1 hr.units) (pv 0) (pv 4) (fun _ _ => rfl)) pa_nil))))
      (pss_one (ps_if (PW.pt (pw_or (pt_cmp (pc_dnotin (Un.lt1 hr.units) (pv 6) (pv 0))) (pw_or1 (pt_cmpR (op_orR op_lt (op_ltT hul)) (pv 7) (pe_dget (Un.lt1 hr.units) (pv 0) (pv 6) (fun _ _ => rfl)) (nomark _))))) (pss_cons (ps_dput (lt1 hr.units) (pv 0) (pv 6) (pv 7) rfl)
      (pss_one (ps_dput (lt1 hr.units) (pv 1) (pv 6) (pe_tupN (pa_cons pe_str (pa_cons (pv 3) (pa_cons (pv 4) (pa_cons (pv 5) pa_nil))))) rfl))) pss_nil))))), ?_⟩
    obtain ⟨u, ua⟩ := I0.dk a ha
    obtain ⟨v, ub⟩ := I0.dk b hb
    have lw := ways_len a b
    have l8 := ia.len
    refine ⟨_, rfl, _, rfl, .ref p1, .ref p2, a, b, rfl, ⟨p1, rfl, h1⟩, ⟨p2, rfl, h2⟩, ia, ib, tg, fun Wl H1 k1 fr ⟨wvs, hW, al⟩ => ?_⟩
    have nWD : Wl ≠ D := fun e => by
      obtain ⟨kvs, hD, _⟩ := wt0.ex
      exact fr D _ hD (fun ps z => by cases z) e.symm
    have nWE : Wl ≠ E' := fun e => by
      obtain ⟨kvs, hE, _⟩ := rt0
      exact fr E' _ hE (fun ps z => by cases z) e.symm
    have wt1 : WtT M H1 D ks ws := wt0.tp o k1.tups (by obtain ⟨kvs, hD, _⟩ := wt0.ex; rw [hD]; exact k1.keep _ _ hD (fun ps z => by cases z) fun z => z)
    have rt1 : RcT H1 E' ks rs := rt0.tp k1.tups (by obtain ⟨kvs, hE, _⟩ := rt0; rw [hE]; exact k1.keep _ _ hE (fun ps z => by cases z) fun z => z)
    refine ⟨Wl, rfl, ⟨_, .of hW⟩, for_list (K := K) (a := Wl) (xs := wvs) (Pv := fun i σ H' => ∃ (y5 y6 y7 : Option V) (ks' : List C) (ws' : C → Option W) (rs' : C → Option Rc), σ = [some (.ref D), some (.ref E'), some (.ref fa), some (.ref p1), some (.ref p2), y5, y6, y7] ∧ Ke (fun z => z = D ∨ z = E') H H' ∧ Ke (fun z => z = D ∨ z = E') H1 H' ∧ H' Wl = some (.lst wvs) ∧ WtT M H' D ks' ws' ∧ RcT H' E' ks' rs' ∧ Inv M.A css ws' rs' dn (fun a' b' k' c' => Pd a' b' k' c' ∨ (a' = a ∧ b' = b ∧ (k', c') ∈ (ways a b).take i)) ∧ (∀ c ∈ ks', c ∈ ks ∨ ∃ k, Comes a b k c) ∧ (∀ c ∈ ks, c ∈ ks') ∧ (∀ d ∈ dn, ws' d = ws d) ∧ ks'.length ≤ ks.length + i) ?_ (fun i σ H' _ z => ?_) ?_ ?_⟩
    · exact ⟨none, none, none, ks, ws, rs, rfl, k1.all, .refl _ _, hW, wt1, rt1, inv_mono I0 fun a' b' k' c' z => z.elim id fun y => absurd y.2.2 (by simp), fun c h => .inl h, fun c h => h, fun d _ => rfl, Nat.le_refl _⟩
    · obtain ⟨_, _, _, _, _, _, _, _, _, z, _⟩ := z
      exact .of z
    · rintro i xv σ H2 hxv ⟨y5, y6, y7, ks', ws', rs', rfl, k2, k12, hW2, wt2, rt2, I2, sub, sup, old, len⟩
      obtain ⟨⟨k0, c⟩, hkc, prt⟩ := al.at hxv
      have li := (List.getElem?_eq_some_iff.mp hkc).1
      have cm : Comes a b k0 c := mem_ways.mp (List.mem_of_getElem? hkc)
      have tk := Lp.take_snoc hkc
      obtain ⟨t, q', rfl, ht, hq⟩ := prt
      have ht2 : H2 t = some (.tup [.int k0, .ref q']) := k12.tups _ _ ht
      have hq2 : H2 q' = some (.tup (c.map V.int)) := k12.tups _ _ hq
      have h12 := k2.tups _ _ h1
      have h22 := k2.tups _ _ h2
      have ua2 : ws' a = some u := (old a ha).trans ua
      have ub2 : ws' b = some v := (old b hb).trans ub
      obtain ⟨⟨kvs, hD, hk, hno, hat⟩, nd, me⟩ := id wt2
      obtain ⟨rvs, hE, hk', hrt⟩ := id rt2
      obtain ⟨xa, ga, ra⟩ := hat a u ua2
      obtain ⟨xb, gb, rb⟩ := hat b v ub2
      have d1 := DGet.t (k := kT a) hD (by rw [kT_v]; exact h12)
      have d2 := DGet.t (k := kT b) hD (by rw [kT_v]; exact h22)
      rw [ga] at d1
      rw [gb] at d2
      refine ⟨t, _, rfl, .of ht2, rfl, _, _, rfl, _, _, rfl, rfl, ?_⟩
      -- worth
      refine Evl.q_cut (M := fun σ' H' => ∃ z, σ' = [some (.ref D), some (.ref E'), some (.ref fa), some (.ref p1), some (.ref p2), some (.int k0), some (.ref q'), some z] ∧ Same H2 H' ∧ M.R H' z (M.A.ab u v)) ?_ ?_
      · exact ⟨rfl, _, rfl, _, rfl, D, _, rfl, d1, _, rfl, _, rfl, D, _, rfl, d2, xa, xb, u, v, rfl, ra, rb, fun z H3 s3 hz => ⟨z, rfl, s3, hz⟩⟩
      rintro σ' H3 ⟨z, rfl, s3, hz⟩
      have hD3 := s3 _ _ hD
      have hq3 := s3 _ _ hq2
      have g3 := DGet.t (k := kT c) hD3 (by rw [kT_v]; exact hq3)
      have hE3 := s3 _ _ hE
      have hW3 := s3 _ _ hW2
      have h13 := s3 _ _ h12
      have h23 := s3 _ _ h22
      have lk : kvs.length = ks'.length := by
        have := congrArg List.length hk
        rwa [List.length_map, List.length_map] at this
      have lr : rvs.length = ks'.length := by
        have := congrArg List.length hk'
        rwa [List.length_map, List.length_map] at this
      have fin : (∀ w, ws' c = some w → ¬ M.A.le w (M.A.ab u v)) → ∀ (t' : Addr) (H5 : Hp), Same (upd H3 D (.dT (putK kvs (kT c) z))) H5 → H5 t' = some (.tup [.str "cut", .ref p1, .ref p2, .int k0]) →
          H5 E' = some (.dT rvs) ∧ H5 q' = some (.tup (c.map V.int)) ∧ ∃ (y5 y6 y7 : Option V) (ks' : List C) (ws' : C → Option W) (rs' : C → Option Rc), [some (.ref D), some (.ref E'), some (.ref fa), some (.ref p1), some (.ref p2), some (.int k0), some (.ref q'), some z] = [some (.ref D), some (.ref E'), some (.ref fa), some (.ref p1), some (.ref p2), y5, y6, y7] ∧ Ke (fun z => z = D ∨ z = E') H (upd H5 E' (.dT (putK rvs (kT c) (.ref t')))) ∧ Ke (fun z => z = D ∨ z = E') H1 (upd H5 E' (.dT (putK rvs (kT c) (.ref t')))) ∧ (upd H5 E' (.dT (putK rvs (kT c) (.ref t')))) Wl = some (.lst wvs) ∧ WtT M (upd H5 E' (.dT (putK rvs (kT c) (.ref t')))) D ks' ws' ∧ RcT (upd H5 E' (.dT (putK rvs (kT c) (.ref t')))) E' ks' rs' ∧ Inv M.A css ws' rs' dn (fun a' b' k' c' => Pd a' b' k' c' ∨ (a' = a ∧ b' = b ∧ (k', c') ∈ (ways a b).take (i + 1))) ∧ (∀ c ∈ ks', c ∈ ks ∨ ∃ k, Comes a b k c) ∧ (∀ c ∈ ks, c ∈ ks') ∧ (∀ d ∈ dn, ws' d = ws d) ∧ ks'.length ≤ ks.length + (i + 1) := fun no t' H5 s5 ht' => by
        obtain ⟨nin, I3⟩ := I2.put o.ok hx ((old x hx).trans ux) (fun d hd w hw => tx d hd w ((old d hd).symm.trans hw)) ha hb ax ua2 ub2 cm no
        have hE4 : (upd H3 D (.dT (putK kvs (kT c) z))) E' = some (.dT rvs) := by rw [upd_ne (Ne.symm nDE)]; exact hE3
        have hE5 := s5 _ _ hE4
        have hD5 : H5 D = some (.dT (putK kvs (kT c) z)) := s5 _ _ upd_same
        have t45 : ∀ a xs, H3 a = some (.tup xs) → H5 a = some (.tup xs) := fun a xs h => s5 _ _ (by rw [upd_ne (fun y => by rw [y, hD3] at h; cases h)]; exact h)
        have t5f : ∀ a xs, H5 a = some (.tup xs) → (upd H5 E' (.dT (putK rvs (kT c) (.ref t')))) a = some (.tup xs) := fun a xs h => by
          rw [upd_ne (fun y => by rw [y, hE5] at h; cases h)]
          exact h
        have tf : ∀ a xs, H3 a = some (.tup xs) → (upd H5 E' (.dT (putK rvs (kT c) (.ref t')))) a = some (.tup xs) := fun a xs h => t5f _ _ (t45 _ _ h)
        have k25 : Ke (fun z => z = D ∨ z = E') H2 (upd H5 E' (.dT (putK rvs (kT c) (.ref t')))) := ke_wrT ((ke_wrT (.same s3) (.inl rfl) hD3).trans (.same s5)) (.inr rfl) hE5
        have inn : ∀ {d : C}, d ∈ (if c ∈ ks' then ks' else ks' ++ [c]) ↔ d ∈ ks' ∨ d = c := fun {d} => by
          split
          · rename_i h
            exact ⟨.inl, fun y => y.elim id fun e => e ▸ h⟩
          · rw [List.mem_append, List.mem_singleton]
        refine ⟨hE5, t45 _ _ hq3, _, _, _, (if c ∈ ks' then ks' else ks' ++ [c]), Dj.set ws' c (M.A.ab u v), Dj.set rs' c (.cut a b k0), rfl, k2.trans k25, k12.trans k25, by rw [upd_ne nWE]; exact s5 _ _ (by rw [upd_ne nWD]; exact hW3), ⟨⟨_, by rw [upd_ne nDE]; exact hD5, put_keys hk c z, fun d hd => ?_, fun d w hd => ?_⟩, ?_, fun d => ?_⟩, ⟨_, upd_same, put_keys hk' c (.ref t'), fun d r hd => ?_⟩, inv_mono I3 fun a' b' k' c' y => ?_, fun d hd => ?_, fun d hd => inn.mpr (.inl (sup d hd)), fun d hd => ?_, ?_⟩
        · by_cases e : d = c
          · rw [e, set_same] at hd
            cases hd
          · rw [set_ne e] at hd
            rw [valV_put, if_neg fun y => e (kT_inj y)]
            exact hno d hd
        · by_cases e : d = c
          · rw [e, set_same] at hd
            cases hd
            rw [valV_put, if_pos (by rw [e])]
            exact ⟨z, rfl, o.tp hz tf⟩
          · rw [set_ne e] at hd
            rw [valV_put, if_neg fun y => e (kT_inj y)]
            obtain ⟨y, e1, e2⟩ := hat d w hd
            exact ⟨y, e1, o.tp e2 fun a xs h => tf _ _ (s3 _ _ h)⟩
        · split
          · exact nd
          · rename_i h
            rw [List.nodup_append]
            refine ⟨nd, by simp, fun a ha b hb e => ?_⟩
            rw [List.mem_singleton.mp hb] at e
            exact h (e ▸ ha)
        · rw [inn, me d]
          by_cases e : d = c
          · rw [e, set_same]
            exact ⟨fun _ => ⟨_, rfl⟩, fun _ => .inr rfl⟩
          · rw [set_ne e]
            exact ⟨fun y => y.resolve_right e, .inl⟩
        · by_cases e : d = c
          · rw [e, set_same] at hd
            cases hd
            rw [valV_put, if_pos (by rw [e])]
            exact ⟨t', rfl, p1, p2, t5f _ _ ht', tf _ _ h13, tf _ _ h23⟩
          · rw [set_ne e] at hd
            rw [valV_put, if_neg fun y => e (kT_inj y)]
            obtain ⟨y, e1, e2⟩ := hrt d r hd
            exact ⟨y, e1, e2.tp fun a xs h => tf _ _ (s3 _ _ h)⟩
        · rw [tk] at y
          rcases y with y | ⟨y1, y2, y3⟩
          · exact .inl (.inl y)
          · rcases List.mem_append.mp y3 with y | y
            · exact .inl (.inr ⟨y1, y2, y⟩)
            · have y := List.mem_singleton.mp y
              cases y
              exact .inr ⟨y1, y2, rfl, rfl⟩
        · rcases inn.mp hd with y | y
          · exact sub d y
          · rw [y]
            exact .inr ⟨k0, cm⟩
        · rw [set_ne (show d ≠ c from fun e => nin (e ▸ hd))]
          exact old d hd
        · split
          · omega
          · rw [List.length_append, List.length_singleton]
            omega
      refine ⟨_, rfl, _, rfl, D, _, rfl, g3, _, rfl, ?_⟩
      cases hc : ws' c with
      | none =>
        rw [hno c hc]
        refine ite2 (fun _ => ?_) (fun e => absurd rfl e)
        refine ⟨_, rfl, _, rfl, _, rfl, D, _, rfl, DPut.t (k := kT c) hD3 (by rw [kT_v]; exact hq3) (small1000 (by omega)), ?_⟩
        refine ⟨_, rfl, _, rfl, _, rfl, by show 4 ≤ sizeLine; decide, fun t' H5 nt s5 ht' _ => ?_⟩
        obtain ⟨f1, f2, f3⟩ := fin (fun w e => by rw [hc] at e; cases e) t' H5 s5 ht'
        exact ⟨_, rfl, _, rfl, E', _, rfl, DPut.t (k := kT c) f1 (by rw [kT_v]; exact f2) (small1000 (by omega)), f3⟩
      | some w0 =>
        obtain ⟨xw, gw, rw0⟩ := hat c w0 hc
        rw [gw] at g3 ⊢
        refine ite2 (fun e => absurd e (by simp)) (fun _ => ?_)
        refine ⟨_, rfl, _, rfl, _, rfl, D, _, rfl, g3, o.cmp hz (o.tp rw0 fun a xs h => s3 _ _ h) ⟨_, rfl, ite2 (fun e => ?_) (fun e => ?_)⟩⟩
        · have le := (o.le _ _).mp e
          refine ⟨_, rfl, _, rfl, _, rfl, D, _, rfl, DPut.t (k := kT c) hD3 (by rw [kT_v]; exact hq3) (small1000 (by omega)), ?_⟩
          refine ⟨_, rfl, _, rfl, _, rfl, by show 4 ≤ sizeLine; decide, fun t' H5 nt s5 ht' _ => ?_⟩
          obtain ⟨f1, f2, f3⟩ := fin (fun w e => by rw [hc] at e; cases e; exact le) t' H5 s5 ht'
          exact ⟨_, rfl, _, rfl, E', _, rfl, DPut.t (k := kT c) f1 (by rw [kT_v]; exact f2) (small1000 (by omega)), f3⟩
        · have le : M.A.le w0 (M.A.ab u v) := Classical.byContradiction fun y => e ((o.le _ _).mpr y)
          refine ⟨_, _, _, ks', ws', rs', rfl, k2.trans (.same s3), k12.trans (.same s3), hW3, wt2.tp o (fun a xs h => s3 _ _ h) (by rw [hD3, hD]), rt2.tp (fun a xs h => s3 _ _ h) (by rw [hE3, hE]), inv_mono (I2.keep (k := k0) ha hb ua2 ub2 hc le) fun a' b' k' c' y => ?_, sub, sup, old, by omega⟩
          rw [tk] at y
          rcases y with y | ⟨y1, y2, y3⟩
          · exact .inl (.inl y)
          · rcases List.mem_append.mp y3 with y | y
            · exact .inl (.inr ⟨y1, y2, y⟩)
            · have y := List.mem_singleton.mp y
              cases y
              exact .inr ⟨y1, y2, rfl, rfl⟩
    · rintro σ H2 ⟨y5, y6, y7, ks', ws', rs', rfl, k2, k12, hW2, wt2, rt2, I2, sub, sup, old, len⟩
      have lal := al.1
      refine q ks' ws' rs' H2 k2 wt2 rt2 (inv_mono I2 fun a' b' k' c' z => z.imp id fun ⟨e1, e2, e3⟩ => ⟨e1, e2, by rw [lal, List.take_length]; exact mem_ways.mpr e3⟩) sub sup old (by omega)
end
end Ptc
namespace Lam
open PySem PySem.Spec PyProof.Rows L2
/-! ### lambda c: d[c] -/
section
variable {P : Program} {w : World} {A : Around} {E : Value → Shared → Prop} {s : Shared}
theorem lam_turn {f c' cw d b : Addr} {wn cn qual : Str} {p1 p2 p3 : Pos} {params : Arguments} {scope : Scope} {cl : List (Str × Addr)} {pm ctv : Value} {H : Hp} {kvs : List (List Key × V)} {k : List Key} {x : V} {Q : Value → Shared → Prop}
    (hf : s.heap.get? f = some (PySem.W.kla_obj "<lambda>" qual params (.Subscript (.Name wn p1) (.Name cn p2) p3) scope cl pm c' ctv)) (hcode : s.heap.CodeRec (.ref c') qual)
    (hbind : bindArgs (PySem.W.kla_fn "<lambda>" qual params (.Subscript (.Name wn p1) (.Name cn p2) p3) scope cl pm (.ref c') ctv) ⟨[.ref b], []⟩ = pure [(cn, .ref b)])
    (hk : scope.kind = .function) (hco : scope.isCoroutine = false) (hgen : scope.isGenerator = false) (hcell : ∀ y ∈ scope.names, y.2 ≠ .cell) (hc : scope.names.lookup cn = some .local) (hw : scope.names.lookup wn = some .free)
    (hcw : cl.lookup wn = some cw) (hcc : s.heap.IsCell cw (some (.ref d))) (hok : HOk P w H s.heap) (hd : Rd H d (.dT kvs)) (hb : H b = some (.tup (k.map kV))) (hv : valV kvs k = some x) (lim : s.heap.NoLimit) (room : Room 1 A)
    (d1 : (wn == ("__debug__" : Str)) = false) (d2 : (cn == ("__debug__" : Str)) = false) (d3 : (wn == ("__classdict__" : Str)) = false) (d4 : NoSl (.Name cn p2))
    (h : ∀ u h' t', RelV x u → (∀ b o, s.heap.get? b = some o → h'.get? b = some o) → s.toks ≤ t' → Q u { s with heap := h', toks := t' }) :
    wpAny (model P w) A (call (.ref f) [.ref b]) Q E s := by
  refine wpAny_call ?_
  refine PySem.W.kla_callFunE (by have := room.dp; omega) hf rfl hco hgen rfl hcode ?_
  rw [hbind]
  refine wpAny_pure (wpAny_newFunctionEnv hcell (fun y hy => ?_) (fun h₁ hns hsb => ⟨lim.fresh _ hsb, ?_⟩) hk)
  · rw [List.mem_singleton.mp hy]
    exact hc
  have kp : ∀ b o, s.heap.get? b = some o → h₁.get? b = some o := fun b o e => hsb.extBut b o (Nat.ne_of_lt (Heap.lt_size e)) (Heap.get?_push_of_some _ e)
  refine PySem.W.kla_codeExpr ?_
  refine subD_of PySem.F.slot_dict_getitem.lookup d4 ?_
  have hcc1 : h₁.IsCell cw (some (.ref d)) := by
    obtain ⟨o, ho, hd⟩ := hcc
    exact ⟨o, kp _ _ ho, hd⟩
  have hok1 : HOk P w H h₁ := hok.kept kp
  refine wpAny_Name (wpAny_loadName_free (v := .ref d) hk hw hcw hcc1 ?_ d3) d1
  refine wpAny_Name (wpAny_loadName_local (v := .ref b) hk hc hns (by show List.lookup cn [(cn, Value.ref b)] = _; simp [List.lookup]) ?_) d2
  obtain ⟨z, hd', xs, rel, dd⟩ := dt_rd hok1 hd
  obtain ⟨w', hw', rw'⟩ := RelO.some_of (v := x) (o := (atKey xs k).map (·.2)) (by rw [← hv]; exact rel.val k)
  obtain ⟨p, hp, hp2⟩ := Option.map_eq_some_iff.mp hw'
  refine ⟨dd.typeIs, ?_⟩
  refine wpAny_getItem_heap (tupleKind_room_in1 ?_) (key_of hok1 hb) dd hp ?_
  · have := (room.deeper (newEnv scope s.heap.objs.size mainGlobals cl (qual ++ ".<locals>.") (some f) (.ref c') none builtinsNs)).un
    exact Nat.lt_of_le_of_lt (Nat.le_add_right _ 199) (by show _ + 1 + 199 < cLine; exact Nat.lt_of_le_of_lt (Nat.le_refl _) this)
  · rw [hp2]
    exact h w' h₁ _ rw' kp (by show s.toks ≤ s.toks + 1 + _; omega)
/-- min(l, key=f) of such an f: the first whose value is least -/
theorem min_lam {l f c' cw d : Addr} {wn cn qual : Str} {p1 p2 p3 : Pos} {params : Arguments} {scope : Scope} {cl : List (Str × Addr)} {pm ctv : Value} {H : Hp} {kvs : List (List Key × V)} {items : Array Value} {b : Nat → Addr} {kk : Nat → List Key} {x : Nat → V} {bt : Nat → Nat → Bool} {Q : Value → Shared → Prop}
    (hl : s.heap.IsList l items) (n0 : 0 < items.size) (hit : ∀ i v, items[i]? = some v → v = Value.ref (b i))
    (hf : s.heap.get? f = some (PySem.W.kla_obj "<lambda>" qual params (.Subscript (.Name wn p1) (.Name cn p2) p3) scope cl pm c' ctv)) (hcode : s.heap.CodeRec (.ref c') qual)
    (hbind : ∀ a, bindArgs (PySem.W.kla_fn "<lambda>" qual params (.Subscript (.Name wn p1) (.Name cn p2) p3) scope cl pm (.ref c') ctv) ⟨[.ref a], []⟩ = pure [(cn, .ref a)])
    (hk : scope.kind = .function) (hco : scope.isCoroutine = false) (hgen : scope.isGenerator = false) (hcell : ∀ y ∈ scope.names, y.2 ≠ .cell) (hc : scope.names.lookup cn = some .local) (hw : scope.names.lookup wn = some .free)
    (hcw : cl.lookup wn = some cw) (hcc : s.heap.IsCell cw (some (.ref d))) (hok : HOk P w H s.heap) (hd : Rd H d (.dT kvs)) (hb : ∀ i, i < items.size → H (b i) = some (.tup ((kk i).map kV))) (hv : ∀ i, i < items.size → valV kvs (kk i) = some (x i)) (lim : s.heap.NoLimit) (room : Room 2 A)
    (hcmp : ∀ (s' : Shared) (i j : Nat) (ki kj : Value) (Q : Value → Shared → Prop) (E : Value → Shared → Prop), HOk P w H s'.heap → i < items.size → j < items.size → RelV (x i) ki → RelV (x j) kj → Q (.bool (bt i j)) s' → wpAny (model P w) A.in1 (richCompare .Lt ki kj) Q E s')
    (d1 : (wn == ("__debug__" : Str)) = false) (d2 : (cn == ("__debug__" : Str)) = false) (d3 : (wn == ("__classdict__" : Str)) = false) (d4 : NoSl (.Name cn p2))
    (h : ∀ h' t', (∀ b o, s.heap.get? b = some o → h'.get? b = some o) → Q (.ref (b (argBest bt (items.size - 1)))) { s with heap := h', toks := t' }) :
    wpAny (model P w) A (call (.builtin "min") [.ref l] [(Str.ofString "key", .ref f)]) Q E s := by
  have hlt : l < s.heap.objs.size := by
    obtain ⟨_, e, _⟩ := hl
    exact Heap.lt_size e
  have hlI : l ≠ s.heap.objs.size := Nat.ne_of_lt hlt
  have lo : ∀ {a : Addr} {o : Obj}, s.heap.get? a = some o → a < s.heap.objs.size := fun e => Heap.lt_size e
  have hfp : ∀ a ∈ [s.heap.objs.size, l], a < (s.heap.push { cls := .type "list_iterator", data := .fields #[.ref l, .int 0 0] }).objs.size := fun a ha => by
    rw [Heap.size_push]
    rcases List.mem_cons.mp ha with e | ha
    · rw [e]
      exact Nat.lt_succ_self _
    · rw [List.mem_singleton.mp ha]
      exact Nat.lt_succ_of_lt hlt
  refine call_min_walkK (wpAny_pyIter_list hl ?_)
  have st : (s.heap.push { cls := .type "list_iterator", data := .fields #[.ref l, .int 0 0] }).IsListIter s.heap.objs.size l 0 ∧ (s.heap.push { cls := .type "list_iterator", data := .fields #[.ref l, .int 0 0] }).IsList l items := ⟨⟨_, Heap.get?_push_size _ rfl, rfl, rfl⟩, hl.push _⟩
  refine ⟨_, _, _, _, _, _, _, fun s' => (∀ a o, s.heap.get? a = some o → s'.heap.get? a = some o) ∧ s'.gens = s.gens ∧ s'.drawn = s.drawn ∧ s'.os = s.os, fun i k _ => i < items.size ∧ RelV (x i) k, bt, rfl, (Walks.list (A := A.in1) room.hd _ l hlI items).toS, st, hfp, n0, ⟨?_, ?_, ?_, ?_⟩, ?_, ?_⟩
  · rintro s1 s2 ⟨k1, g1, g2, g3⟩ hm
    refine ⟨fun a o e => hm.heap a o (fun y => ?_) (k1 a o e), hm.gens.trans g1, hm.drawn.trans g2, hm.os.trans g3⟩
    have la := lo e
    have hs : (s.heap.push { cls := .type "list_iterator", data := .fields #[.ref l, .int 0 0] }).objs.size = s.heap.objs.size + 1 := Heap.size_push _ _
    rcases List.mem_cons.mp y with z | z
    · have z : a = (s.heap.push { cls := .type "list_iterator", data := .fields #[.ref l, .int 0 0] }).objs.size := z
      rw [hs] at z
      rw [z] at la
      exact absurd la (Nat.not_lt.mpr (Nat.le_succ _))
    · rw [List.mem_singleton.mp z] at la
      exact Nat.lt_irrefl _ la
  · exact fun i k s1 s2 h _ => h
  · rintro i v s1 o Q1 E1 hi hv1 ⟨k1, g1, g2, g3⟩ st1 hS cont
    rw [hit i v hv1]
    have hcc1 : s1.heap.IsCell cw (some (.ref d)) := by
      obtain ⟨o, ho, hd⟩ := hcc
      exact ⟨o, k1 _ _ ho, hd⟩
    refine lam_turn (k1 _ _ hf) (hcode.keeps k1) (hbind _) hk hco hgen hcell hc hw hcw hcc1 (hok.kept k1) hd (hb i hi) (hv i hi) (lim.keeps k1) room.in1 d1 d2 d3 d4 fun u h' t' ru kp tl => ?_
    exact cont u _ ⟨fun a o e => kp _ _ (k1 a o e), g1, g2, g3⟩ ⟨st1.1.at fun o e => kp _ _ e, st1.2.at fun o e => kp _ _ e⟩ (kp _ _ hS) ⟨hi, ru⟩ fun j k' h => h
  · rintro i j ki kj s1 Q1 E1 ⟨k1, _⟩ ⟨hi, ri⟩ ⟨hj, rj⟩ q1
    exact hcmp s1 i j ki kj Q1 E1 (hok.kept k1) hi hj ri rj q1
  · exact ⟨fun a o e => Heap.get?_push_of_some _ e, rfl, rfl, rfl⟩
  · rintro v s1 hv1 ⟨k1, g1, g2, g3⟩
    have e : s1 = { s with heap := s1.heap, toks := s1.toks } := by
      cases s1
      simp_all
    rw [hit _ v hv1, e]
    exact h _ _ k1
end
end Lam
namespace Lam
open PySem PySem.Spec PyProof.Rows L2 LamX
/-! ### the lambda's table, known exactly between the calls -/
section
variable {X : Cx} {pins : List (Addr × Obj)} {σ : L2.St} {H : Hp} {s : Shared}
/-- what is known at an address is told otherwise -/
theorem retag {a : Addr} {o o' : HO} (I : Inv X pins σ H s) (ha : H a = some o) (nt : ∀ xs, o ≠ .tup xs) (nf : ∀ q u, o ≠ .frz q u) (nw : ∀ c, o ≠ .own c) (nt0 : ∀ ps, X.H_0 a ≠ some (.tbl ps)) (new : ObjOk X.prog X.w (upd H a o') s.heap a o') :
    Inv X pins σ (upd H a o') s := by
  have nb : ∀ {b : Addr}, H b = none → b ≠ a := fun {b} h e => by
    rw [e, ha] at h
    cases h
  have b := I.base
  refine ⟨I.ok, I.os, I.bare, ⟨b.keep, b.slot, fun x q e n m => ?_, b.there, fun x xs e => ?_, fun x q u e => ?_, fun x ps e => ?_⟩, I.loc, I.cell, ?_, fun x c e => ?_, fun p hp => ?_, fun x q e => ?_, I.len⟩
  · have z := b.free x q e n m
    rw [upd_ne (nb z)]
    exact z
  · have z := b.tups x xs e
    rw [upd_ne (fun y => by rw [y, ha] at z; exact nt xs (Option.some.inj z))]
    exact z
  · have z := b.frzs x q u e
    rw [upd_ne (fun y => by rw [y, ha] at z; exact nf q u (Option.some.inj z))]
    exact z
  · obtain ⟨more, z⟩ := b.tbls x ps e
    exact ⟨more, by rw [upd_ne (fun y => nt0 ps (by rw [← y]; exact e))]; exact z⟩
  · rw [upd_ne (nb I.free)]
    exact I.free
  · rw [upd_ne (nb (I.freeC x c e))]
    exact I.freeC x c e
  · obtain ⟨e, n, r⟩ := I.pin p hp
    exact ⟨e, by rw [upd_ne (nb n)]; exact n, r⟩
  · by_cases z : x = a
    · subst z
      rw [upd_same] at e
      cases e
      exact new
    · rw [upd_ne z] at e
      refine (I.hok x q e).stay (fun d v hd q => q) (fun d q => ?_) fun d xs q => ?_
      · rw [upd_ne (fun y => by rw [y, ha] at q; exact nw _ (Option.some.inj q))]
        exact q
      · rw [upd_ne (fun y => by rw [y, ha] at q; exact nt _ (Option.some.inj q))]
        exact q
end
/-- the table's object is just this -/
def TbX (a : Addr) (ps : Array Value) : HO := .ext fun h => h.get? a = some { cls := .none, data := .fields ps }
theorem tbX_ok {P : Program} {w : World} {H : Hp} {h : Heap} {a : Addr} {ps : Array Value} (e : h.get? a = some { cls := .none, data := .fields ps }) : ObjOk P w H h a (TbX a ps) :=
  ⟨e, ⟨_, e⟩, fun _ _ h1 i => i _ h1⟩
/-- the table of a code object whose lambdas all bear the name q, known exactly -/
def TabX (H : Hp) (a : Addr) (q : Str) : Prop := ∃ ps : Array Value, H a = some (TbX a ps) ∧ TriplesOk ps.toList ∧ ∀ (pos : Pos) (cv : Value), codeAmong pos ps.toList = some cv → ∃ c, cv = .ref c ∧ c ≠ a ∧ H c = some (CodeO c q)
theorem TabX.keep {H H' : Hp} {a : Addr} {q : Str} (x : TabX H a q) (k : ∀ b o, H b = some o → (∀ ps, o ≠ .tbl ps) → b = a ∨ (∃ c, o = CodeO c q) → H' b = some o) : TabX H' a q := by
  obtain ⟨ps, h1, h2, h3⟩ := x
  refine ⟨ps, k _ _ h1 (fun qs z => by unfold TbX at z; cases z) (.inl rfl), h2, fun pos cv hc => ?_⟩
  obtain ⟨c, e, n, h⟩ := h3 pos cv hc
  exact ⟨c, e, n, k _ _ h (fun qs z => codeO_ne _ z) (.inr ⟨c, rfl⟩)⟩
theorem TabX.ke {F : Addr → Prop} {H H' : Hp} {a : Addr} {q : Str} (x : TabX H a q) (k : Kp.Ke F H H') (n : ¬ F a) (nc : ∀ c, H c = some (CodeO c q) → ¬ F c) : TabX H' a q := by
  obtain ⟨ps, h1, h2, h3⟩ := x
  refine ⟨ps, k.keep _ _ h1 (fun qs z => by unfold TbX at z; cases z) n, h2, fun pos cv hc => ?_⟩
  obtain ⟨c, e, m, h⟩ := h3 pos cv hc
  exact ⟨c, e, m, k.keep _ _ h (fun qs z => codeO_ne _ z) (nc c h)⟩
end Lam
namespace Lam
open PySem PySem.Spec PyProof.Rows L2 LamX
section
variable {X : Cx} {pins : List (Addr × Obj)} {σ : L2.St} {H : Hp} {s : Shared}
/-- all codes in the table bear the name q -/
def Named (H : Hp) (q : Str) (ps : Array Value) : Prop := ∀ (pos : Pos) (cv : Value), codeAmong pos ps.toList = some cv → ∃ c, cv = .ref c ∧ H c = some (CodeO c q)
/-- a lambda is made: all known but its table stays -/
theorem lam_make3 {c Pt : Addr} {ps : Array Value} {params : Arguments} {body : Expr} {scope : Scope} {pos : Pos} {E : Value → Shared → Prop} {Q : Value → Shared → Prop} (I : Inv X pins σ H s) (TB : TabB X.base X.mg c Pt) (hcode : X.env.code = .ref c)
    (hP : H Pt = some (.tbl ps)) (ht : TriplesOk ps.toList) (ha : Named H (X.env.qual ++ "<lambda>") ps) (hdef : defaultsOf params X.env = ([], [])) (hfree : ∀ y ∈ scope.names, y.2 = .free → ∃ c, X.env.cells.lookup y.1 = some c)
    (h : ∀ (f c' : Addr) (pm ctv : Value) (ps' : Array Value) (H1 : Hp) (s' : Shared), Inv X pins σ H1 s' → (∀ b o, b ≠ Pt → H b = some o → H1 b = some o) → H1 Pt = some (.tbl ps') → TriplesOk ps'.toList → Named H1 (X.env.qual ++ "<lambda>") ps' →
      s'.heap.get? f = some (PySem.W.kla_obj "<lambda>" (X.env.qual ++ "<lambda>") params body scope (cloFrom X.env.cells scope.names []) pm c' ctv) → H1 f = none → f ∉ frs X.stack → H1 c' = some (CodeO c' (X.env.qual ++ "<lambda>")) → Q (.ref f) s') :
    wpAny (model X.prog X.w) X.A (eval (.Lambda params body scope pos) X.env) Q E s := by
  refine PySem.W.kla_eval hdef ?_
  have bP : s.heap.BuiltinsAt X.mg Pt := TB.bm.keeps I.bk
  have hP' : s.heap.get? Pt = some { cls := .none, data := .fields ps } := I.hok Pt _ hP
  have nofr : ∀ f, s.heap.objs.size ≤ f → f ∉ frs X.stack := fun f hf z => by
    rcases List.mem_cons.mp (I.stkSub _ z) with e | e
    · have h1 := I.lt
      rw [← e] at h1
      exact Nat.lt_irrefl _ (Nat.lt_of_lt_of_le h1 hf)
    · exact I.nofs hf e
  cases hc : codeAmong pos ps.toList with
  | none =>
    refine PySem.W.kla_makeFunction (mg := X.mg) (c := c) (P := Pt) (ps := ps) (closure_ok hfree) I.ok.glob (I.mod.glob.keeps I.bk) hcode (TB.code.keeps I.bk) hP' ht hc TB.gP bP fun c' ctv h' tk hx hge hlt hrec htb => ?_
    obtain ⟨c2, oc, vs, t, e2, hoc, hd, hv⟩ := hrec
    cases e2
    have hsz : s.heap.objs.size ≤ h'.objs.size := Nat.le_trans hge (Nat.le_of_lt hlt)
    have nC : H c' = none := I.hok.fresh hge
    have I1 := inv_table (t' := tk) (more := #[rawInt pos.line, rawInt pos.col, .ref c']) (h' := h'.push (PySem.W.kla_obj "<lambda>" (X.env.qual ++ "<lambda>") params body scope (cloFrom X.env.cells scope.names []) ((X.mg "__name__").getD .none) c' ctv)) I hP
      (fun b o hb e => Heap.get?_push_of_some _ (hx b o hb e)) (Heap.get?_push_of_some _ htb) hge ⟨oc, vs, t, Heap.get?_push_of_some _ hoc, hd, hv⟩
    have nPc : Pt ≠ c' := ne_of_none hP nC
    have hE : ∀ b o, b ≠ Pt → H b = some o → (upd (upd H Pt (.tbl (ps ++ #[rawInt pos.line, rawInt pos.col, .ref c']))) c' (CodeO c' (X.env.qual ++ "<lambda>"))) b = some o := fun b o n e => by
      rw [upd_ne (ne_of_none e nC), upd_ne n]
      exact e
    have eL : (ps ++ #[rawInt pos.line, rawInt pos.col, .ref c']).toList = ps.toList ++ [rawInt pos.line, rawInt pos.col, .ref c'] := by simp
    refine h h'.objs.size c' ((X.mg "__name__").getD .none) ctv _ _ _ I1 hE (by rw [upd_ne nPc, upd_same]) (by rw [eL]; exact PySem.TriplesOk_snoc _ _ _ _ ht) (fun p' cv hcv => ?_) (Heap.get?_push_size _ rfl) ?_ (nofr _ hsz) upd_same
    · rw [eL] at hcv
      rcases among_app _ ht hcv with z | z
      · obtain ⟨c0, e1, e2⟩ := ha p' cv z
        refine ⟨c0, e1, hE _ _ (fun y => ?_) e2⟩
        rw [y, hP] at e2
        exact codeO_ne _ (Option.some.inj e2).symm
      · exact ⟨c', z, upd_same⟩
    · have n1 : h'.objs.size ≠ c' := Nat.ne_of_gt hlt
      have n2 : h'.objs.size ≠ Pt := Nat.ne_of_gt (Nat.lt_of_lt_of_le (Heap.lt_size hP') hsz)
      rw [upd_ne n1, upd_ne n2]
      exact I.hok.fresh hsz
  | some cv =>
    obtain ⟨c', e, hco⟩ := ha pos cv hc
    subst e
    refine PySem.W.kla_makeFunctionHit (mg := X.mg) (c := c) (P := Pt) (ps := ps) (closure_ok hfree) I.ok.glob (I.mod.glob.keeps I.bk) hcode (TB.code.keeps I.bk) hP' ht hc bP fun ctv h' tk hx hsz => ?_
    have I1 : Inv X pins σ H { s with heap := h'.push (PySem.W.kla_obj "<lambda>" (X.env.qual ++ "<lambda>") params body scope (cloFrom X.env.cells scope.names []) ((X.mg "__name__").getD .none) c' ctv), toks := tk } := I.kept fun b o e => Heap.get?_push_of_some _ (hx b o e)
    exact h h'.objs.size c' ((X.mg "__name__").getD .none) ctv ps H _ I1 (fun b o _ e => e) hP ht ha (Heap.get?_push_size _ rfl) (I.hok.fresh hsz) (nofr _ hsz) hco
theorem tbX_ne {a : Addr} {ps : Array Value} : (∀ xs, TbX a ps ≠ .tup xs) ∧ (∀ q u, TbX a ps ≠ .frz q u) ∧ (∀ c, TbX a ps ≠ .own c) ∧ ∀ qs, TbX a ps ≠ .tbl qs := by
  unfold TbX
  exact ⟨(fun _ z => by cases z), (fun _ _ z => by cases z), (fun _ z => by cases z), (fun _ z => by cases z)⟩
/-- a lambda is made where its table is known exactly: it is again so behind it, and all else stays -/
theorem lam_makeX {c Pt : Addr} {params : Arguments} {body : Expr} {scope : Scope} {pos : Pos} {E : Value → Shared → Prop} {Q : Value → Shared → Prop} (I : Inv X pins σ H s) (TB : TabB X.base X.mg c Pt) (hcode : X.env.code = .ref c)
    (tx : TabX H Pt (X.env.qual ++ "<lambda>")) (hdef : defaultsOf params X.env = ([], [])) (hfree : ∀ y ∈ scope.names, y.2 = .free → ∃ c, X.env.cells.lookup y.1 = some c)
    (h : ∀ (f c' : Addr) (pm ctv : Value) (H1 : Hp) (s' : Shared), Inv X pins σ H1 s' → (∀ b o, b ≠ Pt → H b = some o → H1 b = some o) → TabX H1 Pt (X.env.qual ++ "<lambda>") →
      s'.heap.get? f = some (PySem.W.kla_obj "<lambda>" (X.env.qual ++ "<lambda>") params body scope (cloFrom X.env.cells scope.names []) pm c' ctv) → H1 f = none → f ∉ frs X.stack → H1 c' = some (CodeO c' (X.env.qual ++ "<lambda>")) → Q (.ref f) s') :
    wpAny (model X.prog X.w) X.A (eval (.Lambda params body scope pos) X.env) Q E s := by
  obtain ⟨ps, hP, ht, ha⟩ := tx
  obtain ⟨n1, n2, n3, n4⟩ := tbX_ne (a := Pt) (ps := ps)
  have nt0 : ∀ qs, X.H_0 Pt ≠ some (.tbl qs) := fun qs e => by
    obtain ⟨more, z⟩ := I.base.tbls Pt qs e
    rw [hP] at z
    exact n4 _ (Option.some.inj z)
  have at_ : s.heap.get? Pt = some { cls := .none, data := .fields ps } := (I.hok Pt _ hP).1
  have I0 := retag (o' := .tbl ps) I hP n1 n2 n3 nt0 at_
  refine lam_make3 I0 TB hcode upd_same ht (fun p cv hc => ?_) hdef hfree fun f c' pm ctv ps' H2 s2 I2 k2 hP2 ht2 ha2 hf hfn hfr hco => ?_
  · obtain ⟨c0, e, n, z⟩ := ha p cv hc
    exact ⟨c0, e, by rw [upd_ne n]; exact z⟩
  have cne : ∀ {c0 : Addr}, H2 c0 = some (CodeO c0 (X.env.qual ++ "<lambda>")) → c0 ≠ Pt := fun {c0} z e => by
    rw [e, hP2] at z
    exact codeO_ne _ (Option.some.inj z).symm
  have I3 := retag (o' := TbX Pt ps') I2 hP2 (fun xs z => by cases z) (fun q u z => by cases z) (fun c z => by cases z) nt0 (tbX_ok (I2.hok Pt _ hP2))
  refine h f c' pm ctv _ s2 I3 (fun b o n e => ?_) ⟨ps', upd_same, ht2, fun p cv hc => ?_⟩ hf ?_ hfr ?_
  · rw [upd_ne n]
    exact k2 b o n (by rw [upd_ne n]; exact e)
  · obtain ⟨c0, e, z⟩ := ha2 p cv hc
    exact ⟨c0, e, cne z, by rw [upd_ne (cne z)]; exact z⟩
  · rw [upd_ne (fun y => by rw [y, hP2] at hfn; cases hfn)]
    exact hfn
  · rw [upd_ne (cne hco)]
    exact hco
end
end Lam
namespace Lam
open PySem PySem.Spec PyProof.Rows L2 LamX Ob
/-! ### min(xs, key=lambda c: d[c]) as an expression -/
/-- how the values compare, wherever the heap is held -/
def CmpR (P : Program) (w : World) (H : Hp) (A : Around) (x : Nat → V) (bt : Nat → Nat → Bool) (n : Nat) : Prop :=
  ∀ (s' : Shared) (i j : Nat) (ki kj : Value), HOk P w H s'.heap → i < n → j < n → RelV (x i) ki → RelV (x j) kj → RcOp .Lt A s' ki kj (bt i j)
theorem cmp_ints {P : Program} {w : World} {H : Hp} {A : Around} {v : Nat → Int} {n : Nat} : CmpR P w H A (fun i => .int (v i)) (fun i j => decide (v i < v j)) n := by
  rintro s' i j ki kj hok hi hj ⟨t, rfl⟩ ⟨u, rfl⟩
  exact RcOp.lt_int _ _ _ _
def MinK (P : Program) (w : World) (A : Around) (Pt : Addr) (q : Str) (i : Nat) (σ : L2.St) (Q : VK) (x : V) (H1 : Hp) : Prop := TabX H1 Pt q ∧ ∀ H2, (∀ b o, b ≠ Pt → H1 b = some o → H2 b = some o) → TabX H2 Pt q → ∃ (l d : Addr) (as : List Addr) (kvs : List (List Key × V)) (kk : Nat → List Key) (xv : Nat → V) (bt : Nat → Nat → Bool),
  x = .ref l ∧ H2 l = some (.lst (as.map V.ref)) ∧ 0 < as.length ∧ σ[i]? = some (some (.ref d)) ∧ Rd H2 d (.dT kvs) ∧ (∀ n a, as[n]? = some a → H2 a = some (.tup ((kk n).map kV)) ∧ valV kvs (kk n) = some (xv n)) ∧ CmpR P w H2 A.in1 xv bt as.length ∧ Q (.ref (as.getD (argBest bt (as.length - 1)) 0)) H2
def tMinLam (P : Program) (w : World) (A : Around) (Pt : Addr) (q : Str) (i : Nat) (te : TE) : TE := fun σ H Q => te σ H (MinK P w A Pt q i σ Q)
theorem argBest_lt' (bt : Nat → Nat → Bool) : ∀ n, argBest bt n ≤ n
  | 0 => Nat.le_refl _
  | n + 1 => by
    unfold argBest
    have := argBest_lt' bt n
    split <;> omega
theorem pe_minLam {X : Cx} {c Pt : Addr} {e : Expr} {te : TE} {wn cn : Str} {i : Nat} {p1 p2 p3 lpos kpos p pos : Pos} {params : Arguments} {scope : Scope}
    (hg : Gl X "min") (hm : X.mg "min" = none) (ha : PA X [e] (tCons te tNil)) (TB : TabB X.base X.mg c Pt) (hcd : X.env.code = .ref c) (room : Room 2 X.A)
    (hdef : defaultsOf params X.env = ([], []))
    (hbind : ∀ (q : Str) (cl : List (Str × Addr)) (pm cv ctv : Value) (a : Addr), bindArgs (PySem.W.kla_fn "<lambda>" q params (.Subscript (.Name wn p1) (.Name cn p2) p3) scope cl pm cv ctv) ⟨[.ref a], []⟩ = pure [(cn, .ref a)])
    (hk : scope.kind = .function) (hco : scope.isCoroutine = false) (hgen : scope.isGenerator = false) (hcell : ∀ y ∈ scope.names, y.2 ≠ .cell) (hc : scope.names.lookup cn = some .local) (hw : scope.names.lookup wn = some .free)
    (hfr : ∀ y ∈ scope.names, y.2 = .free → X.env.scope.names.lookup y.1 = some .cell) (hN : X.N[i]? = some wn)
    (d1 : (wn == ("__debug__" : Str)) = false) (d2 : (cn == ("__debug__" : Str)) = false) (d3 : (wn == ("__classdict__" : Str)) = false) (d4 : NoSl (.Name cn p2))
    (hs1 : backTo pos (starEach [e] X.env) = (false, eval e X.env) :: backTo pos (starEach [] X.env) := by rfl) (hs2 : (backTo pos (starEach [e] X.env)).any (·.1) = false := by rfl)
    (hk1 : (backToKw pos (keywordEach [⟨some "key", .Lambda params (.Subscript (.Name wn p1) (.Name cn p2) p3) scope lpos, kpos⟩] X.env)).all (·.1.isSome) = true := by rfl)
    (hk2 : (backToKw pos (keywordEach [⟨some "key", .Lambda params (.Subscript (.Name wn p1) (.Name cn p2) p3) scope lpos, kpos⟩] X.env)).any (·.1.isNone) = false := by rfl)
    (hk3 : (backToKw pos (keywordEach [⟨some "key", .Lambda params (.Subscript (.Name wn p1) (.Name cn p2) p3) scope lpos, kpos⟩] X.env)).filterMap (·.1) = [Str.ofString "key"] := by rfl) :
    PE X (.Call (.Name "min" p) [e] [⟨some "key", .Lambda params (.Subscript (.Name wn p1) (.Name cn p2) p3) scope lpos, kpos⟩] pos) (tMinLam X.prog X.w X.A Pt (X.env.qual ++ "<lambda>") i te) := by
  refine ⟨fun pins s σ H Q I h => ?_⟩
  have hfree : ∀ y ∈ scope.names, y.2 = .free → ∃ c, X.env.cells.lookup y.1 = some c := fun y hy e => I.ok.has _ (.inl (hfr y hy e))
  refine wpAny_Call_Name_kw (ld_blt I hg hm (u := .builtin "min") (by decide +kernel) ?_ (by decide) (by decide))
  let QQ : List V → Hp → Prop := fun vs H1 => match vs with
    | [x] => MinK X.prog X.w X.A Pt (X.env.qual ++ "<lambda>") i σ Q x H1
    | _ => False
  have h' : tCons te tNil σ H QQ := h
  refine PyProof.Rows.callWith_kw (thn (ha.run pos pins s σ H QQ I h') fun us s1 ⟨vs, H1, I1, r0, q0⟩ => ?_) hs1 hs2 hk1 hk2
  obtain ⟨x, rfl, hT, q1⟩ : ∃ x, vs = [x] ∧ MinK X.prog X.w X.A Pt (X.env.qual ++ "<lambda>") i σ Q x H1 := by
    match vs, q0 with
    | [x], q0 => exact ⟨x, rfl, q0⟩
  obtain ⟨u, rfl, r1⟩ : ∃ u, us = [u] ∧ RelV x u := by
    cases r0 with
    | cons r t => cases t with
      | nil => exact ⟨_, rfl, r⟩
  rw [hk3]
  show wpAny _ _ (evalAll ((do let v ← eval (.Lambda params (.Subscript (.Name wn p1) (.Name cn p2) p3) scope lpos) X.env; standAt pos; pure v) :: [])) _ _ s1
  refine wpAny_evalAll_cons (wpAny_bind (lam_makeX I1 TB hcd hT hdef hfree fun f c' pm ctv H2 s2 I2 eN T2 hf hfn hfr' hco' => wpAny_bind (wpAny_standAt (wpAny_pure (wpAny_evalAll_nil ?_)))))
  obtain ⟨l, d, as, kvs, kk, xv, bt, rfl, hl, n0, hσ, hd, hat, hC, q⟩ := q1 H2 eN T2
  obtain rfl : u = Value.ref l := r1
  obtain ⟨its, rv, pl, _⟩ := I2.list (.of hl)
  have esz : its.toArray.size = as.length := by
    rw [List.size_toArray, ← rv.length, List.length_map]
  have cm : ∀ {y c}, (cloFrom X.env.cells scope.names []).lookup y = some c → X.env.cells.lookup y = some c := fun {y c} e => by
    rcases cloFrom_mem (PySem.mem_of_lookup e) with hm | ⟨h1, h2⟩
    · cases hm
    · obtain ⟨c1, hc⟩ := hfree _ h1 rfl
      have hc : X.env.cells.lookup y = some c1 := hc
      have e2 : c = c1 := by
        rw [h2, hc] <;> rfl
      rw [e2]
      exact hc
  have hy : (wn, NameKind.free) ∈ scope.names := PySem.mem_of_lookup hw
  obtain ⟨cw, hcw⟩ := mem_lookup (cloFrom_has (cells := X.env.cells) (acc := []) hy)
  have hcx := cm hcw
  have hvis : X.env.scope.names.lookup wn = some .cell := hfr _ hy rfl
  have hcc : s2.heap.IsCell cw (some (.ref d)) := by
    obtain ⟨m, hn, hlc⟩ := I2.loc
    obtain ⟨u, r, q⟩ := hlc i wn (.ref d) hN hσ (.inr (.inl hvis))
    obtain rfl : u = Value.ref d := r
    rcases q with ⟨k', _⟩ | ⟨_, c3, e', z⟩
    · have k' : X.env.scope.names.lookup wn = some .local := k'
      rw [hvis] at k'
      cases k'
    · rw [hcx] at e'
      cases e'
      exact z
  have hcode2 : s2.heap.CodeRec (.ref c') (X.env.qual ++ "<lambda>") := by
    obtain ⟨⟨oc, vs, t, hoc, hdc, hvc⟩, _, _⟩ := I2.hok c' _ hco'
    exact ⟨c', oc, vs, t, rfl, hoc, hdc, hvc⟩
  show wpAny _ _ (call (.builtin "min") [.ref l] [(Str.ofString "key", .ref f)]) _ _ s2
  have asat : ∀ n, n < its.toArray.size → as[n]? = some (as.getD n 0) := fun n hn => by
    rw [List.getD_eq_getElem?_getD, List.getElem?_eq_getElem (by omega)]
    rfl
  refine min_lam (H := H2) (b := fun n => as.getD n 0) (kk := kk) (x := xv) (bt := bt) pl.isList (by omega) (fun n v hv => ?_) hf hcode2 (hbind _ _ _ _ _) hk hco hgen hcell hc hw hcw hcc I2.hok hd (fun n hn => (hat n _ (asat n hn)).1) (fun n hn => (hat n _ (asat n hn)).2) I2.nolimit room
    (fun s' a b ka kb Q' E' ok ha hb ra rb q' => hC s' a b ka kb ok (by omega) (by omega) ra rb _ _ _ _ q') d1 d2 d3 d4 fun h' t' kp => ?_
  · have hv' : its[n]? = some v := by simpa using hv
    have ln : n < its.toArray.size := by
      rw [List.size_toArray]
      exact (List.getElem?_eq_some_iff.mp hv').1
    obtain ⟨u, h1, h2⟩ := Vals.get (i := n) (x := .ref (as.getD n 0)) rv (by rw [List.getElem?_map, asat n ln]; rfl)
    rw [hv'] at h1
    cases h1
    exact h2
  · refine ⟨.ref _, H2, I2.kept (t' := t') kp, rfl, ?_⟩
    rw [esz]
    exact q
end Lam
namespace Lam
open PySem PySem.Spec PyProof.Rows L2 LamX Ob Ptc
/-! ### which is the least -/
theorem cmp_pairs {P : Program} {w : World} {H : Hp} {A : Around} {x : Nat → V} {ws : Nat → Nat × Nat} {n : Nat} (hu : A.units < cLine) (hx : ∀ i, i < n → mC.R H (x i) (ws i)) : CmpR P w H A x (fun i j => mC.lt (ws i) (ws j)) n := by
  intro s' i j ki kj hok hi hj ri rj prog w' E Q q
  obtain ⟨a, ea, ha⟩ := hx i hi
  obtain ⟨b, eb, hb⟩ := hx j hj
  rw [ea] at ri
  rw [eb] at rj
  obtain rfl : ki = Value.ref a := ri
  obtain rfl : kj = Value.ref b := rj
  obtain ⟨_, its, r1, p1⟩ := hok a _ ha
  obtain ⟨_, its2, r2, p2⟩ := hok b _ hb
  have i1 : IntsAre its.toArray.toList [((ws i).1 : Int), ((ws i).2 : Int)] := intsAre_of r1
  have i2 : IntsAre its2.toArray.toList [((ws j).1 : Int), ((ws j).2 : Int)] := intsAre_of r2
  have e : HT.lexLt [((ws i).1 : Int), ((ws i).2 : Int)] [((ws j).1 : Int), ((ws j).2 : Int)] = mC.lt (ws i) (ws j) := by
    generalize ws i = u
    generalize ws j = v
    show (if (u.1 : Int) = v.1 then (if (u.2 : Int) = v.2 then false else decide ((u.2 : Int) < v.2)) else decide ((u.1 : Int) < v.1)) = decide (u.1 < v.1 ∨ (u.1 = v.1 ∧ u.2 < v.2))
    by_cases h1 : (u.1 : Int) = v.1
    · rw [if_pos h1]
      by_cases h2 : (u.2 : Int) = v.2
      · rw [if_pos h2]
        exact (decide_eq_false (by omega)).symm
      · rw [if_neg h2]
        exact decide_eq_decide.mpr (by omega)
    · rw [if_neg h1]
      exact decide_eq_decide.mpr (by omega)
  refine HT.lt_tupInts p1 p2 i1 i2 hu ?_
  rw [e]
  exact q
theorem cmp_heights {P : Program} {w : World} {H : Hp} {A : Around} {x : Nat → V} {ws : Nat → Nat} {n : Nat} (hx : ∀ i, i < n → mH.R H (x i) (ws i)) : CmpR P w H A x (fun i j => mH.lt (ws i) (ws j)) n := by
  intro s' i j ki kj hok hi hj ri rj
  have ea : x i = .int (ws i : Nat) := hx i hi
  have eb : x j = .int (ws j : Nat) := hx j hj
  rw [ea] at ri
  rw [eb] at rj
  obtain ⟨t, rfl⟩ := ri
  obtain ⟨u, rfl⟩ := rj
  have e : mH.lt (ws i) (ws j) = decide (((ws i : Nat) : Int) < ((ws j : Nat) : Int)) := decide_eq_decide.mpr (by omega)
  show RcOp .Lt A s' _ _ (mH.lt (ws i) (ws j))
  rw [e]
  exact RcOp.lt_int _ _ _ _
theorem best_least {W : Type} {M : Wk W} (o : M.Ok) (ws : Nat → W) : ∀ (n j : Nat), j ≤ n → M.A.le (ws (argBest (fun i j => M.lt (ws i) (ws j)) n)) (ws j)
  | 0, j, h => by
    obtain rfl : j = 0 := by omega
    exact o.ok.re _
  | n + 1, j, h => by
    have ih := best_least o ws n
    unfold argBest
    split
    · rename_i l
      have l := (o.le _ _).mp l
      have l := (o.ok.to _ _).resolve_left l
      by_cases e : j = n + 1
      · rw [e]
        exact o.ok.re _
      · exact o.ok.tr l (ih j (by omega))
    · rename_i l
      have l : M.A.le (ws (argBest (fun i j => M.lt (ws i) (ws j)) n)) (ws (n + 1)) := Classical.byContradiction fun y => l ((o.le _ _).mpr y)
      by_cases e : j = n + 1
      · rw [e]
        exact l
      · exact ih j (by omega)
end Lam
namespace Lwa
open PySem PySem.Spec PyProof.Rows L2 GxR Nw Dr Kp Se Ct Lr Dj Wtc To Ptc Lam
structure Zl (mg : Str → Option Value) : Prop where
  z_min : mg "min" = none
section
variable {P : Program} {w : World} {K : PySem.W.Frag} {mg : Str → Option Value} {base : Heap}
abbrev sLwa : Stmt := topS 30
abbrev nLwa : List Str := ["worths", "done", "claim"]
theorem scLwa : FnScope nLwa ["worths", "done"] (defScope sLwa) := ⟨rfl, rfl, rfl, by decide +kernel, rfl, by decide +kernel, by decide +kernel⟩
def spLwa {W : Type} (M : Wk W) (Pt : Addr) (qn : Str) : Sp := fun vs H Q _ => ∃ (D N : Addr) (ks dn : List C) (ws : C → Option W) (dvs : List (List Key × V)), vs = [.ref D, .ref N] ∧ D ≠ N ∧ WtT M H D ks ws ∧ H N = some (.dT dvs) ∧ dvs.map (·.1) = dn.map kT ∧ TabX H Pt qn ∧ ks.length ≤ 500 ∧ (∃ c ∈ ks, c ∉ dn) ∧
  ∀ (p : Addr) (x : C) (wx : W) (H' : Hp), (∀ b o, b ≠ Pt → H b = some o → H' b = some o) → TabX H' Pt qn → H' p = some (.tup (x.map V.int)) → x ∈ ks → x ∉ dn → ws x = some wx → (∀ c, c ∉ dn → ∀ w, ws c = some w → M.A.le wx w) → Q (.ref p) H'
theorem keysT {kvs : List (List Key × V)} {ks : List C} (h : kvs.map (·.1) = ks.map kT) (c : C) : (valV kvs (kT c)).isSome = true ↔ c ∈ ks := by
  rw [← valV_any, List.any_eq_true]
  constructor
  · rintro ⟨kv, hm, e⟩
    have : kv.1 ∈ ks.map kT := by rw [← h]; exact List.mem_map.mpr ⟨kv, hm, rfl⟩
    obtain ⟨d, hd, e2⟩ := List.mem_map.mp this
    exact kT_inj (e2.trans (of_decide_eq_true e)) ▸ hd
  · intro hc
    have : kT c ∈ kvs.map (·.1) := by rw [h]; exact List.mem_map.mpr ⟨c, hc, rfl⟩
    obtain ⟨kv, hm, e⟩ := List.mem_map.mp this
    exact ⟨kv, hm, decide_eq_true e⟩
theorem ok_lwa {W : Type} {M : Wk W} (o : M.Ok) (hM : ∀ {P : Program} {w : World} {H : Hp} {A : Around} {x : Nat → V} {wf : Nat → W} {n : Nat}, A.units < cLine → (∀ i, i < n → M.R H (x i) (wf i)) → CmpR P w H A x (fun i j => M.lt (wf i) (wf j)) n)
    {f c Pt : Addr} {fd : FuncData} {k : Nat} (F : FunC K "least_waiting" "least_waiting" sLwa f c fd) (T : Zl mg) (TB : LamX.TabB base mg c Pt) : FnOk P w K mg base CX0 (k + 3) f fd ["worths", "done"] (spLwa M Pt "least_waiting.<locals>.<lambda>") := by
  refine F.ok scLwa (fun vs H Q E h => ?_) (fun A outer s H vs Q E hr h => ?_)
  · obtain ⟨D, N, ks, dn, ws, dvs, rfl, _⟩ := h
    rfl
  · obtain ⟨D, N, ks, dn, ws, dvs, rfl, nDN, ⟨⟨kvs, hD, hkk, hno, hat⟩, nd, me⟩, hN, hk, tx, l500, ⟨c0, hc0, nc0⟩, q⟩ := h
    have hr2 : Room 2 _ := hr.mono (by omega)
    refine ⟨_, (pss_one (ps_lock (ps_ret (Lam.pe_minLam (wn := "worths") (cn := "claim") (i := 0) (by rfl) T.z_min (pa_cons (pe_lc (own := [("claim", 2)]) (g := (gName 2))  rfl scLwa.nd (pi_keys (pv 0)) (blkOk_by (N := nLwa) (sc := defScope sLwa) (by decide +kernel)) (fun _ _ _ _ _ => (pg_name (i := 2) scLwa.nd rfl (.inl rfl))) (fun _ _ _ _ _ => (pts_one (pt_cmp (pc_dnotin (Un.lt1 hr.units) (pv 2) (pv 1))))) (fun _ _ _ _ _ => (pv 2))) pa_nil) TB rfl hr2 (by rfl) (fun _ _ _ _ _ _ => rfl) rfl rfl rfl (by decide +kernel) (by decide +kernel) (by decide +kernel) (fun y hy e => (List.mem_cons.mp hy).elim (fun z => by rw [z] at e; cases e) (fun z => by rw [List.mem_singleton.mp z]; rfl)) rfl rfl rfl rfl (fun _ _ => rfl))))), ?_⟩
    have lk : kvs.length = ks.length := by
      have := congrArg List.length hkk
      rwa [List.length_map, List.length_map] at this
    refine ⟨D, _, hD, trivial, fun od => ?_⟩
    have hDf : (upd H D (.frz od (.dT kvs))) D = some (.frz od (.dT kvs)) := upd_same
    have up0 : ∀ b u, b ≠ D → H b = some u → (upd H D (.frz od (.dT kvs))) b = some u := fun b u n e => by rw [upd_ne n]; exact e
    have dn0 : ∀ b u, b ≠ D → (upd H D (.frz od (.dT kvs))) b = some u → H b = some u := fun b u n e => by rw [upd_ne n] at e; exact e
    generalize upd H D (.frz od (.dT kvs)) = Hf at hDf up0 dn0
    refine ⟨_, rfl, D, od, rfl, .inr ⟨kvs, hDf, fun Z nZ => ?_⟩⟩
    refine lc_it walk_keysT (Pv := fun i H' => Same Hf H' ∧ ∃ as : List Addr, H' Z = some (.lst (as.map V.ref)) ∧ All2 (fun a c => H' a = some (.tup (c.map V.int))) as ((ks.take i).filter fun c => decide (c ∉ dn))) ⟨same_new nZ, [], upd_same, .nil⟩ (fun i H' _ z => z.1 _ _ hDf) ?_ ?_
    · rintro i x H1 H2 hi ⟨s1, as, hZ, al⟩ ⟨rfl, kx, v, q0, hkv, rfl, hq⟩
      obtain ⟨ci, hci, rfl⟩ : ∃ ci, ks[i]? = some ci ∧ kx = kT ci := by
        have e : (kvs.map (·.1))[i]? = some kx := by rw [List.getElem?_map, hkv]; rfl
        rw [hkk, List.getElem?_map] at e
        obtain ⟨ci, h1, h2⟩ := Option.map_eq_some_iff.mp e
        exact ⟨ci, h1, h2.symm⟩
      rw [kT_v] at hq
      have hN1 := s1 _ _ (up0 N _ (Ne.symm nDN) hN)
      have ft : (ks.take (i + 1)).filter (fun c => decide (c ∉ dn)) = (ks.take i).filter (fun c => decide (c ∉ dn)) ++ (if decide (ci ∉ dn) = true then [ci] else []) := by
        rw [Lp.take_snoc hci, List.filter_append]
        congr 1
        by_cases z : decide (ci ∉ dn) = true
        · rw [if_pos z]
          exact List.filter_cons_of_pos (p := fun c => decide (c ∉ dn)) z
        · rw [if_neg z]
          exact List.filter_cons_of_neg (p := fun c => decide (c ∉ dn)) z
      have g := DGet.t (k := kT ci) hN1 (by rw [kT_v]; exact hq)
      have la := al.1
      have lf := List.length_filter_le (fun c => decide (c ∉ dn)) (ks.take i)
      rw [List.length_take] at lf
      refine ⟨rfl, _, rfl, _, rfl, N, _, rfl, g, _, rfl, ite2 (fun e => ?_) (fun e => ?_)⟩
      · have e : (!(valV dvs (kT ci)).isSome) = true := e
        have ni : ci ∉ dn := fun z => by
          rw [(keysT hk ci).mpr z] at e
          cases e
        have wr : ∀ {b : Addr} {xs : List V} {u : HO}, H2 b = some (.tup xs) → upd H2 Z u b = some (.tup xs) := fun {b xs u} h => by
          rw [upd_ne (fun z => by rw [z, hZ] at h; cases h)]
          exact h
        refine ⟨_, rfl, as.map V.ref, hZ, small1000 (by rw [List.length_map]; omega), fun b u e => ?_, as ++ [q0], by rw [upd_same, List.map_append]; rfl, ?_⟩
        · rw [upd_ne (ne_of_none e nZ)]
          exact s1 _ _ e
        · rw [ft, if_pos (decide_eq_true ni)]
          exact All2.snoc (al.imp fun _ _ h => wr h) (wr hq)
      · have e : ¬ (!(valV dvs (kT ci)).isSome) = true := e
        have ii : ci ∈ dn := Classical.byContradiction fun z => e (by
          have : (valV dvs (kT ci)).isSome = false := Bool.eq_false_iff.mpr fun y => z ((keysT hk ci).mp y)
          rw [this]
          rfl)
        refine ⟨s1, as, hZ, ?_⟩
        rw [ft, if_neg (by rw [decide_eq_true_iff]; exact fun z => z ii), List.append_nil]
        exact al
    · rintro H1 ⟨s1, as, hZ, al⟩
      rw [lk, List.take_length] at al
      generalize hcd : ks.filter (fun c => decide (c ∉ dn)) = cand at al
      have mem : ∀ c, c ∈ cand ↔ c ∈ ks ∧ c ∉ dn := fun c => by rw [← hcd, List.mem_filter, decide_eq_true_iff]
      have la := al.1
      have nPD : Pt ≠ D := fun e => by
        obtain ⟨ps, h1, _⟩ := tx
        rw [e, hD] at h1
        cases h1
      have k01 : ∀ b u, b ≠ D → H b = some u → H1 b = some u := fun b u n e => s1 _ _ (up0 b u n e)
      have ncD : ∀ {c0 : Addr} {H' : Hp} {qn : Str}, H' D = some (.frz od (.dT kvs)) → H' c0 = some (LamX.CodeO c0 qn) → c0 ≠ D := fun {c0 H' qn} h1 h2 e => by
        rw [e, h1] at h2
        cases h2
      have tx1 : TabX H1 Pt "least_waiting.<locals>.<lambda>" := by
        obtain ⟨ps, a1, a2, a3⟩ := tx
        refine ⟨ps, k01 _ _ nPD a1, a2, fun pos cv hc => ?_⟩
        obtain ⟨c1, e, n, z⟩ := a3 pos cv hc
        exact ⟨c1, e, n, k01 _ _ (fun y => by rw [y, hD] at z; cases z) z⟩
      refine ⟨tx1, fun H2 k2 tx2 => ?_⟩
      have hD2 := k2 D _ (Ne.symm nPD) (s1 _ _ hDf)
      have n0 : 0 < as.length := by
        rw [la]
        exact List.length_pos_of_mem ((mem c0).mpr ⟨hc0, nc0⟩)
      have val : ∀ n, n < as.length → ∃ c w x, cand[n]? = some c ∧ c ∈ ks ∧ c ∉ dn ∧ ws c = some w ∧ valV kvs (kT c) = some x ∧ M.R H x w := fun n hn => by
        have e := List.getElem?_eq_getElem (show n < cand.length by omega)
        obtain ⟨h1, h2⟩ := (mem _).mp (List.mem_of_getElem? e)
        obtain ⟨w, hw⟩ := (me _).mp h1
        obtain ⟨x, hx, r⟩ := hat _ w hw
        exact ⟨_, w, x, e, h1, h2, hw, hx, r⟩
      have gd : ∀ {n : Nat} {c : C}, cand[n]? = some c → cand.getD n [] = c := fun h => by
        rw [List.getD_eq_getElem?_getD, h]
        rfl
      have nPt : ∀ {a : Addr} {xs : List V}, H1 a = some (.tup xs) → a ≠ Pt := fun {a xs} h e => by
        obtain ⟨ps, a1, _⟩ := tx1
        rw [e, a1] at h
        exact tbX_ne.1 _ (Option.some.inj h)
      have nZP : Z ≠ Pt := fun e => by
        obtain ⟨ps, a1, _⟩ := tx1
        rw [e, a1] at hZ
        unfold TbX at hZ
        cases hZ
      have tp : ∀ a xs, H a = some (.tup xs) → H2 a = some (.tup xs) := fun a xs h => by
        have h1 := k01 a _ (fun e => by rw [e, hD] at h; cases h) h
        exact k2 a _ (nPt h1) h1
      refine ⟨Z, D, as, kvs, fun n => kT (cand.getD n []), fun n => (valV kvs (kT (cand.getD n []))).getD .non, fun i j => M.lt ((ws (cand.getD i [])).getD M.A.st) ((ws (cand.getD j [])).getD M.A.st), rfl, k2 Z _ nZP hZ, n0, rfl, .inr ⟨od, hD2⟩, fun n a ha => ?_, hM (wf := fun n => (ws (cand.getD n [])).getD M.A.st) hr2.in1.units0 fun i hi => ?_, hD2, ?_⟩
      · obtain ⟨c1, w1, x1, e, _, _, _, hx, _⟩ := val n (List.getElem?_eq_some_iff.mp ha).1
        have h1 := al.2 n a c1 ha e
        refine ⟨?_, ?_⟩
        · show H2 a = some (.tup ((kT (cand.getD n [])).map kV))
          rw [gd e, kT_v]
          exact k2 a _ (nPt h1) h1
        · show valV kvs (kT (cand.getD n [])) = some ((valV kvs (kT (cand.getD n []))).getD .non)
          rw [gd e, hx]
          rfl
      · obtain ⟨c1, w1, x1, e, _, _, hw, hx, r⟩ := val i hi
        show M.R H2 ((valV kvs (kT (cand.getD i []))).getD .non) ((ws (cand.getD i [])).getD M.A.st)
        rw [gd e, hx, hw]
        exact o.tp r tp
      · have lb := argBest_lt' (fun i j => M.lt ((ws (cand.getD i [])).getD M.A.st) ((ws (cand.getD j [])).getD M.A.st)) (as.length - 1)
        have bl := best_least o (fun n => (ws (cand.getD n [])).getD M.A.st) (as.length - 1)
        generalize argBest (fun i j => M.lt ((ws (cand.getD i [])).getD M.A.st) ((ws (cand.getD j [])).getD M.A.st)) (as.length - 1) = bi at lb bl
        obtain ⟨c1, w1, x1, e, m1, m2, hw, hx, r⟩ := val bi (by omega)
        have ha := List.getElem?_eq_getElem (show bi < as.length by omega)
        have h1 := al.2 bi _ c1 ha e
        have ea : as.getD bi 0 = as[bi]'(by omega) := by
          rw [List.getD_eq_getElem?_getD, ha]
          rfl
        rw [ea]
        have h2 := k2 _ _ (nPt h1) h1
        refine q _ c1 w1 _ (fun b u n e => ?_) ?_ ?_ m1 m2 hw fun c nc w hcw => ?_
        · by_cases z : b = D
          · rw [z, hD] at e
            rw [z, upd_same]
            exact e
          · rw [upd_ne z]
            exact k2 b u n (k01 b u z e)
        · obtain ⟨ps, a1, a2, a3⟩ := tx2
          refine ⟨ps, by rw [upd_ne nPD]; exact a1, a2, fun pos cv hc => ?_⟩
          obtain ⟨c2, e2, n2, z2⟩ := a3 pos cv hc
          exact ⟨c2, e2, n2, by rw [upd_ne (ncD hD2 z2)]; exact z2⟩
        · rw [upd_ne (fun y => by rw [y, hD2] at h2; cases h2)]
          exact h2
        · have mc := (mem c).mpr ⟨(me c).mpr ⟨w, hcw⟩, nc⟩
          obtain ⟨j, hj⟩ := List.getElem?_of_mem mc
          have lj := (List.getElem?_eq_some_iff.mp hj).1
          have b := bl j (by omega)
          rw [gd e, hw, gd hj, hcw] at b
          exact b
end
end Lwa
namespace F81
open PySem PySem.Spec PyProof.Rows L2 Kp
/-! ### of four things there are 81 claims at most -/
def subs : List Int → List (List Int)
  | [] => [[]]
  | a :: l => subs l ++ (subs l).map (a :: ·)
theorem nil_subs : ∀ l : List Int, [] ∈ subs l
  | [] => List.mem_singleton_self _
  | _ :: l => List.mem_append.mpr (.inl (nil_subs l))
theorem mem_subs : ∀ {l c : List Int}, l.Pairwise (· < ·) → c.Pairwise (· < ·) → (∀ x ∈ c, x ∈ l) → c ∈ subs l
  | [], [], _, _, _ => List.mem_singleton_self _
  | [], x :: c, _, _, h => absurd (h x List.mem_cons_self) (by simp)
  | a :: l, [], _, _, _ => nil_subs _
  | a :: l, x :: c, hl, hc, h => by
    rw [List.pairwise_cons] at hl hc
    by_cases e : x = a
    · subst e
      refine List.mem_append.mpr (.inr (List.mem_map.mpr ⟨c, mem_subs hl.2 hc.2 fun y hy => ?_, rfl⟩))
      rcases List.mem_cons.mp (h y (List.mem_cons_of_mem _ hy)) with z | z
      · have := hc.1 y hy
        omega
      · exact z
    · have hx : x ∈ l := (List.mem_cons.mp (h x List.mem_cons_self)).resolve_left e
      refine List.mem_append.mpr (.inl (mem_subs hl.2 (List.pairwise_cons.mpr hc) fun y hy => ?_))
      rcases List.mem_cons.mp hy with z | z
      · rw [z]
        exact hx
      · rcases List.mem_cons.mp (h y (List.mem_cons_of_mem _ z)) with w | w
        · have h1 := hc.1 y z
          have h2 := hl.1 x hx
          omega
        · exact w
def eight : List Int := [-4, -3, -2, -1, 1, 2, 3, 4]
def all81 : List (List Int) := (subs eight).filter fun c => c.all fun k => !c.contains (-k)
theorem len81 : all81.length = 81 := by decide +kernel
theorem len_le {α : Type} [DecidableEq α] : ∀ (l m : List α), l.Nodup → (∀ x ∈ l, x ∈ m) → l.length ≤ m.length
  | [], _, _, _ => Nat.zero_le _
  | x :: l, m, n, h => by
    rw [List.nodup_cons] at n
    have hx := h x List.mem_cons_self
    have ih := len_le l (m.erase x) n.2 fun y hy => (List.mem_erase_of_ne (show y ≠ x from fun e => n.1 (e ▸ hy))).mpr (h y (List.mem_cons_of_mem _ hy))
    rw [List.length_erase_of_mem hx] at ih
    have := List.length_pos_of_mem hx
    rw [List.length_cons]
    omega
theorem few81 {cs : List (List Int)} (nd : cs.Nodup) (h : ∀ c ∈ cs, IsCl c ∧ ∀ k ∈ c, -4 ≤ k ∧ k ≤ 4) : cs.length ≤ 81 := by
  rw [← len81]
  refine len_le cs all81 nd fun c hc => ?_
  obtain ⟨ic, b⟩ := h c hc
  refine List.mem_filter.mpr ⟨mem_subs (by decide) ic.up fun x hx => ?_, ?_⟩
  · have h0 := (ic.says x hx).1
    have h1 := b x hx
    have : x = -4 ∨ x = -3 ∨ x = -2 ∨ x = -1 ∨ x = 1 ∨ x = 2 ∨ x = 3 ∨ x = 4 := by omega
    rcases this with e | e | e | e | e | e | e | e <;> rw [e] <;> decide
  · rw [List.all_eq_true]
    intro k hk
    have := ic.opp k hk
    simpa using this
end F81
namespace Gx
open PySem PySem.Spec PyProof.Rows L2 GxR
/-! ### any, all of a generator expression with two fors -/
theorem compTurnG2_out (elt t0 i0 t1 i1 : Expr) (ifs0 ifs1 : List Expr) (scope : Scope) (pos : Pos) (it acc : Value) (env : Env) :
    compTurn (.GeneratorExp elt [⟨t0, i0, ifs0, 0⟩, ⟨t1, i1, ifs1, 0⟩] scope pos) 0 it acc env = (do
      standAt i0.pos
      match ← pyNext it with
      | none => pure (.done .next)
      | some v =>
        letOwnedTupleGo t0 it v
        assign t0 env v
        let mut ok := true
        for c in ifs0 do
          if ok then ok ← isTrue c env (eval c env)
        if ok then
          let x ← eval i1 env
          standAt i1.pos
          let x ← foldedSetIterable i1 env x
          let _ ← runOwn (.compStart (.GeneratorExp elt [⟨t0, i0, ifs0, 0⟩, ⟨t1, i1, ifs1, 0⟩] scope pos) 1 (← holding [x] (pyIter x)) acc env) env
        again (.compLoop (.GeneratorExp elt [⟨t0, i0, ifs0, 0⟩, ⟨t1, i1, ifs1, 0⟩] scope pos) 0 it acc env)) := by rfl
theorem compTurnG2_in (elt t0 i0 t1 i1 : Expr) (ifs0 ifs1 : List Expr) (scope : Scope) (pos : Pos) (it acc : Value) (env : Env) :
    compTurn (.GeneratorExp elt [⟨t0, i0, ifs0, 0⟩, ⟨t1, i1, ifs1, 0⟩] scope pos) 1 it acc env = (do
      standAt i1.pos
      match ← pyNext it with
      | none => pure (.done .next)
      | some v =>
        letOwnedTupleGo t1 it v
        assign t1 env v
        let mut ok := true
        for c in ifs1 do
          if ok then ok ← isTrue c env (eval c env)
        if ok then
          (do let v ← eval elt env; standAt elt.pos; let _ ← yieldOut env v)
        again (.compLoop (.GeneratorExp elt [⟨t0, i0, ifs0, 0⟩, ⟨t1, i1, ifs1, 0⟩] scope pos) 1 it acc env)) := by rfl
/-- a step of the segment whose around is told otherwise -/
theorem seg_bw {M : Model} {A B : Around} {R : GenEnd} {Y : Protocol} {n : Nat} {s₀ : Shared} {c : Code} {fs : List Frame} {s : Shared} {α β : Type} {m : Sem α} {K : α → Sem β} {K' : β → Sem PySem.Fin} {H' : Value → Sem PySem.Fin} {gd : Bool → Bool} {lv : List Value → List Value} (ov : A.over c fs = B)
    (h : wpAny M B m (fun a s' => Seg M A R Y n s₀ c ((K a).wrap K' H' gd lv) fs s') (fun x s' => Seg M A R Y n s₀ c (H' x) fs s') s) : Seg M A R Y n s₀ c ((m >>= K).wrap K' H' gd lv) fs s := seg_bind_wrap (by rw [ov]; exact h)
theorem wipe_idem (σ : L2.St) (vs : List Nat) : wipe (wipe σ vs) vs = wipe σ vs := by
  refine List.ext_getElem? fun j => ?_
  by_cases h : j ∈ vs
  · rcases Nat.lt_or_ge j σ.length with l | l
    · have e1 : ∀ τ : L2.St, τ.length = σ.length → (wipe τ vs)[j]? = some none := fun τ e => by
        have lt : j < (wipe τ vs).length := by rw [wipe_length]; omega
        rw [List.getElem?_eq_getElem lt]
        cases z : (wipe τ vs)[j] with
        | none => rfl
        | some v => exact absurd h (wipe_some (by rw [List.getElem?_eq_getElem lt, z])).2
      rw [e1 _ (wipe_length σ vs), e1 _ rfl]
    · rw [List.getElem?_eq_none (by rw [wipe_length, wipe_length]; omega), List.getElem?_eq_none (by rw [wipe_length]; omega)]
  · rw [wipe_out h]
/-- a turn of the first source, with the turns of the second within -/
def Turn2 (stopb : Bool) (Q : VK) (vs vs1 : List Nat) (σ : L2.St) (J : It) (g : TG) (tt : TT) (wi1 : TI) (g1 : TG) (tt1 : TT) (te : TE) (W : Nat → Nat → Hp → Prop) (i m : Nat) (H : Hp) : Prop :=
  (J.stop i H ∧ Q (.bl (!stopb)) H) ∨ (J.go i H ∧ ∀ x H', J.yld i H x H' → g x (wipe σ vs) H' fun σ2 H2 => wipe σ2 vs = wipe σ vs ∧ tt σ2 H2 fun b H3 =>
    if b = true then wi1 σ2 H3 fun J1 H4 => ∃ W1 : Nat → Nat → Hp → Prop, (∃ k, k < m ∧ W1 0 k H4) ∧ ∀ j k H, W1 j k H →
      (J1.stop j H ∧ ∃ m', m' ≤ k ∧ W (i + 1) m' H) ∨ (J1.go j H ∧ ∃ Nx1 : Hp → Prop, (∀ H', Nx1 H' → ∃ k', k' < k ∧ W1 (j + 1) k' H') ∧ ∀ x H', J1.yld j H x H' → g1 x (wipe σ2 vs1) H' fun σ3 H5 => wipe σ3 vs1 = wipe σ2 vs1 ∧ tt1 σ3 H5 fun b H6 =>
        if b = true then te σ3 H6 fun y H7 => (y = .bl stopb ∧ Q (.bl stopb) H7) ∨ (y = .bl (!stopb) ∧ Nx1 H7) else Nx1 H6)
    else ∃ m', m' < m ∧ W (i + 1) m' H3)
def tAA2 (P : Addr) (stopb : Bool) (wi : TI) (g : TG) (tt : TT) (wi1 : TI) (g1 : TG) (tt1 : TT) (te : TE) (vs vs1 : List Nat) : TE := fun σ H Q => wi σ H fun J H1 => TabG H1 P ∧ ∀ H2, Tabbed P H1 H2 → ∃ W : Nat → Nat → Hp → Prop, (∃ m, W 0 m H2) ∧
  ∀ i m H, W i m H → Turn2 stopb Q vs vs1 σ J g tt wi1 g1 tt1 te W i m H
section
variable {X : Cx} {elt tg iter tg1 iter1 : Expr} {ifs ifs1 : List Expr} {scope : Scope} {gpos : Pos} {s4 : Shared} {H4 : Hp} {cenv : Env} {it : Addr} {fp : List Addr} {pn : List (Addr × Obj)} {J : It} {tn : Nat → Heap → Prop} {g g1 : TG} {tt tt1 : TT} {te : TE} {wi1 : TI} {own vs1 : List Nat} {σ : L2.St} {stopb : Bool} {Q : VK} {W : Nat → Nat → Hp → Prop}
abbrev ge2 (elt tg iter tg1 iter1 : Expr) (ifs ifs1 : List Expr) (scope : Scope) (gpos : Pos) : Expr := .GeneratorExp elt [⟨tg, iter, ifs, 0⟩, ⟨tg1, iter1, ifs1, 0⟩] scope gpos
abbrev Wt : Nat → Nat → Hp → Prop := fun _ _ _ => True
/-- the turns of the second source -/
theorem gen_inner {σ2 : L2.St} {p1 : List (Addr × Obj)} {it1 : Addr} {fp1 : List Addr} {tn1 : Nat → Heap → Prop} {J1 : It} {W1 : Nat → Nat → Hp → Prop} {kf : Result → Sem PySem.Fin} {p : Pos} {i : Nat} (hc : X.calm = true) (hco : cenv.scope.isCoroutine = false) (T1 : Turn X.prog X.w X.K tg1 J1 fp1 it1 tn1)
    (back : ∀ {σ' : L2.St} {H' : Hp} {s' : Shared}, Inv (gCx X (ge2 elt tg iter tg1 iter1 ifs ifs1 scope gpos) s4 H4 cenv it fp pn) p1 σ' H' s' → wipe σ' vs1 = wipe σ2 vs1 → Inv (gCx X (ge2 elt tg iter tg1 iter1 ifs ifs1 scope gpos) s4 H4 cenv it fp pn) [] (wipe σ own) H' s')
    (stat1 : ∀ {H' : Hp}, (∀ b ∈ fp1, H' b = none) → ∀ b ∈ fp1, FpOk (gCx X (ge2 elt tg iter tg1 iter1 ifs ifs1 scope gpos) s4 H4 cenv it fp pn) p1 H' b)
    (pg1 : PG (gCx X (ge2 elt tg iter tg1 iter1 ifs ifs1 scope gpos) s4 H4 cenv it fp pn) tg1 g1) (pt1 : PTs (gCx X (ge2 elt tg iter tg1 iter1 ifs ifs1 scope gpos) s4 H4 cenv it fp pn) ifs1 tt1) (pe : PE (gCx X (ge2 elt tg iter tg1 iter1 ifs ifs1 scope gpos) s4 H4 cenv it fp pn) elt te)
    {k0 m0 : Nat} (fin : ∀ (n m' : Nat) (s0 s : Shared) (H' : Hp), m' < n → m' ≤ k0 → W (i + 1) m' H' → Inv (gCx X (ge2 elt tg iter tg1 iter1 ifs ifs1 scope gpos) s4 H4 cenv it fp pn) p1 (wipe σ2 vs1) H' s →
      Seg (model X.prog X.w) X.A.in1.in1 (fun n s0 r s1 => r = .ok .next ∧ GEndP (gCx X (ge2 elt tg iter tg1 iter1 ifs ifs1 scope gpos) s4 H4 cenv it fp pn) (wipe σ own) stopb Q n s0 s1)
        (GProto (gCx X (ge2 elt tg iter tg1 iter1 ifs ifs1 scope gpos) s4 H4 cenv it fp pn) (wipe σ own) fp tn Wt stopb Q) n s0 (.compLoop (ge2 elt tg iter tg1 iter1 ifs ifs1 scope gpos) 0 (.ref it) .none cenv) (kf (.ok .next)) [] s)
    (lim : k0 < m0) (turn1 : ∀ j k H, k ≤ k0 → W1 j k H → (J1.stop j H ∧ ∃ m', m' ≤ k ∧ W (i + 1) m' H) ∨ (J1.go j H ∧ ∃ Nx1 : Hp → Prop, (∀ H', Nx1 H' → ∃ k', k' < k ∧ W1 (j + 1) k' H') ∧ ∀ x H', J1.yld j H x H' → g1 x (wipe σ2 vs1) H' fun σ3 H5 => wipe σ3 vs1 = wipe σ2 vs1 ∧ tt1 σ3 H5 fun b H6 =>
        if b = true then te σ3 H6 fun y H7 => (y = .bl stopb ∧ Q (.bl stopb) H7) ∨ (y = .bl (!stopb) ∧ Nx1 H7) else Nx1 H6)) :
    ∀ (k n j : Nat) (s0 s : Shared) (H' : Hp), k < n → k ≤ k0 → W1 j k H' → Inv (gCx X (ge2 elt tg iter tg1 iter1 ifs ifs1 scope gpos) s4 H4 cenv it fp pn) p1 (wipe σ2 vs1) H' s → tn1 j s.heap → (∀ b ∈ fp1, H' b = none) →
      Seg (model X.prog X.w) X.A.in1.in1 (fun n s0 r s1 => r = .ok .next ∧ GEndP (gCx X (ge2 elt tg iter tg1 iter1 ifs ifs1 scope gpos) s4 H4 cenv it fp pn) (wipe σ own) stopb Q n s0 s1)
        (GProto (gCx X (ge2 elt tg iter tg1 iter1 ifs ifs1 scope gpos) s4 H4 cenv it fp pn) (wipe σ own) fp tn Wt stopb Q) n s0
        (.compLoop (ge2 elt tg iter tg1 iter1 ifs ifs1 scope gpos) 1 (.ref it1) .none cenv) ((model X.prog X.w).den (.compLoop (ge2 elt tg iter tg1 iter1 ifs ifs1 scope gpos) 1 (.ref it1) .none cenv))
        [.ret kf none false [] (.compLoop (ge2 elt tg iter tg1 iter1 ifs ifs1 scope gpos) 0 (.ref it) .none cenv) p []] s := by
  intro k
  induction k using Nat.strongRecOn with
  | ind k ih =>
    intro n j s0 s H' hkn hk0 w I st nf
    have ov : X.A.in1.in1.over (.compLoop (ge2 elt tg iter tg1 iter1 ifs ifs1 scope gpos) 1 (.ref it1) .none cenv) [.ret kf none false [] (.compLoop (ge2 elt tg iter tg1 iter1 ifs ifs1 scope gpos) 0 (.ref it) .none cenv) p []] = X.A.in1.in1.over (.compLoop (ge2 elt tg iter tg1 iter1 ifs ifs1 scope gpos) 0 (.ref it) .none cenv) [] := GenW.over_loop rfl rfl
    show Seg _ _ _ _ n s0 _ ((compTurn (ge2 elt tg iter tg1 iter1 ifs ifs1 scope gpos) 1 (.ref it1) .none cenv).onRaise (fun x => do noteFrame x cenv; theTreesLotGoes x)) _ s
    rw [compTurnG2_in, Sem.onRaise_eq_wrap]
    refine seg_bw ov (wpAny_standAt ?_)
    rcases turn1 j k H' hk0 w with ⟨stop, m', lm, w'⟩ | ⟨go, Nx1, hNx, step⟩
    · refine seg_bw ov (thnF (T1.done (gCx X (ge2 elt tg iter tg1 iter1 ifs ifs1 scope gpos) s4 H4 cenv it fp pn) rfl rfl rfl hc j p1 s _ H' (fun _ _ => False) I (stat1 nf) st stop) fun r s1 z => ?_)
      obtain ⟨rfl, I1⟩ := z
      exact seg_leaf (.ok .next) (fin n m' s0 s1 H' (by omega) (by omega) w' I1)
    · refine seg_bw ov (thnF (T1.item (gCx X (ge2 elt tg iter tg1 iter1 ifs ifs1 scope gpos) s4 H4 cenv it fp pn) rfl rfl rfl hc j p1 s _ H' (fun _ _ => False) I (stat1 nf) st go) fun r s1 z => ?_)
      obtain ⟨u, rfl, z⟩ := z
      refine seg_bw ov (thnF z fun _ s2 z2 => ?_)
      obtain ⟨x, H2, I2, r2, y2, st2, n2⟩ := z2
      have P2 := I2.pinned (stat1 n2) (T1.obj _ _ st2)
      refine seg_bw ov (thnF (pg1.run _ s2 _ H2 x u _ P2 r2 (step x H2 y2)) fun _ s3 z3 => ?_)
      obtain ⟨σ3, H3, I3, hw, q3⟩ := z3
      refine seg_bw ov (thnF (pt1.run _ s3 σ3 H3 _ I3 q3) fun b sb zb => ?_)
      obtain ⟨Hb, Ib, qb⟩ := zb
      have nxt : ∀ {s' : Shared} {H' : Hp}, Inv (gCx X (ge2 elt tg iter tg1 iter1 ifs ifs1 scope gpos) s4 H4 cenv it fp pn) (p1 ++ pinsAt fp1 s2.heap) σ3 H' s' →
          Inv (gCx X (ge2 elt tg iter tg1 iter1 ifs ifs1 scope gpos) s4 H4 cenv it fp pn) p1 (wipe σ2 vs1) H' s' ∧ tn1 (j + 1) s'.heap ∧ ∀ b ∈ fp1, H' b = none := fun {s' H'} I' => by
        have pin' : ∀ b ∈ fp1, ∀ o, s2.heap.get? b = some o → s'.heap.get? b = some o ∧ H' b = none := fun b hb o e =>
          have y := I'.pin (b, o) (List.mem_append_right _ (List.mem_append_right _ (mem_pinsAt hb e)))
          ⟨y.1, y.2.1⟩
        refine ⟨I'.unpinned.weak (by rw [← hw, wipe_length]) (fun j v e => ?_), T1.keep _ _ _ st2 (fun b hb o e => (pin' b hb o e).1), fun b hb => ?_⟩
        · rw [← hw] at e
          exact (wipe_some e).1
        · obtain ⟨o, e, _⟩ := T1.obj _ _ st2 b hb
          exact (pin' b hb o e).2
      cases b with
      | false =>
        simp only [Bool.false_eq_true, if_false] at qb ⊢
        obtain ⟨k', hk, w'⟩ := hNx _ qb
        obtain ⟨I', st', n'⟩ := nxt Ib
        exact seg_again rfl (ih k' hk n (j + 1) s0 sb Hb (by omega) (by omega) w' I' st' n')
      | true =>
        simp only [if_true] at qb ⊢
        have hy : ∀ v, yieldOut cenv v = yieldValue v := fun v => by simp only [yieldOut, hco, Bool.false_eq_true, if_false]
        simp only [hy]
        rw [Sem.bind_eq_wrap', Sem.bind_eq_wrap', Sem.wrap_wrap, Sem.wrap_wrap]
        refine seg_wrap ?_
        rw [ov]
        refine thnF (pe.run _ sb σ3 Hb _ Ib qb) fun z sy zy => ?_
        obtain ⟨v, Hy, Iy, ry, qy⟩ := zy
        obtain ⟨I', st', n'⟩ := nxt Iy
        obtain ⟨n1, rfl⟩ : ∃ n1, n = n1 + 1 := ⟨n - 1, by omega⟩
        refine seg_at (seg_yield rfl rfl rfl ?_)
        have I0 := back Iy.unpinned hw
        rcases qy with ⟨rfl, q⟩ | ⟨rfl, q⟩
        · cases ry
          exact ⟨stopb, Hy, rfl, I0, .inl ⟨rfl, q⟩⟩
        · cases ry
          obtain ⟨k', hk, w'⟩ := hNx _ q
          refine ⟨!stopb, Hy, rfl, I0, .inr ⟨rfl, 0, 0, by omega, trivial, fun s'' hh ho hb => ?_⟩⟩
          exact seg_again rfl (ih k' hk n1 (j + 1) s'' s'' Hy (by omega) (by omega) w' (inv_gens I' hh ho hb) (by rw [hh]; exact st') n')
/-- the turns of the generator's own loop -/
theorem gen_loop2 (hc : X.calm = true) (hco : cenv.scope.isCoroutine = false) (T : Turn X.prog X.w X.K tg J fp it tn) (hpn : ∀ p ∈ pn, ∀ b ∈ fp, p.1 ≠ b) (hv : ∀ i ∈ vs1, i ∈ own)
    (pg : PG (gCx X (ge2 elt tg iter tg1 iter1 ifs ifs1 scope gpos) s4 H4 cenv it fp pn) tg g) (pt : PTs (gCx X (ge2 elt tg iter tg1 iter1 ifs ifs1 scope gpos) s4 H4 cenv it fp pn) ifs tt) (pi1 : PI (gCx X (ge2 elt tg iter tg1 iter1 ifs ifs1 scope gpos) s4 H4 cenv it fp pn) tg1 iter1 wi1)
    (pg1 : PG (gCx X (ge2 elt tg iter tg1 iter1 ifs ifs1 scope gpos) s4 H4 cenv it fp pn) tg1 g1) (pt1 : PTs (gCx X (ge2 elt tg iter tg1 iter1 ifs ifs1 scope gpos) s4 H4 cenv it fp pn) ifs1 tt1) (pe : PE (gCx X (ge2 elt tg iter tg1 iter1 ifs ifs1 scope gpos) s4 H4 cenv it fp pn) elt te)
    (hs1 : ∀ x, foldedSetIterable iter1 cenv x = pure x)
    (turn : ∀ i m H, W i m H → Turn2 stopb Q own vs1 σ J g tt wi1 g1 tt1 te W i m H) :
    ∀ (m n i : Nat) (s0 s : Shared) (H' : Hp), m < n → W i m H' → Inv (gCx X (ge2 elt tg iter tg1 iter1 ifs ifs1 scope gpos) s4 H4 cenv it fp pn) [] (wipe σ own) H' s → tn i s.heap → (∀ b ∈ fp, H' b = none) →
      Seg (model X.prog X.w) X.A.in1.in1 (fun n s0 r s1 => r = .ok .next ∧ GEndP (gCx X (ge2 elt tg iter tg1 iter1 ifs ifs1 scope gpos) s4 H4 cenv it fp pn) (wipe σ own) stopb Q n s0 s1)
        (GProto (gCx X (ge2 elt tg iter tg1 iter1 ifs ifs1 scope gpos) s4 H4 cenv it fp pn) (wipe σ own) fp tn Wt stopb Q) n s0
        (.compLoop (ge2 elt tg iter tg1 iter1 ifs ifs1 scope gpos) 0 (.ref it) .none cenv) ((model X.prog X.w).den (.compLoop (ge2 elt tg iter tg1 iter1 ifs ifs1 scope gpos) 0 (.ref it) .none cenv)) [] s := by
  intro m
  induction m using Nat.strongRecOn with
  | ind m ih =>
    intro n i s0 s H' hmn w I st nf
    have fpk : ∀ {σ' : L2.St} {H' : Hp} {s' : Shared}, Inv (gCx X (ge2 elt tg iter tg1 iter1 ifs ifs1 scope gpos) s4 H4 cenv it fp pn) [] σ' H' s' → (∀ b ∈ fp, H' b = none) → ∀ b ∈ fp, FpOk (gCx X (ge2 elt tg iter tg1 iter1 ifs ifs1 scope gpos) s4 H4 cenv it fp pn) [] H' b := fun {σ' H' s'} I' hn b hb =>
      ⟨hn b hb, (I'.ok.exf b hb).1, I'.ok.exfs b hb, .inl hb, (I'.ok.exf b hb).2, fun p hp => hpn p (by simpa using hp) b hb⟩
    show Seg _ _ _ _ n s0 _ ((compTurn (ge2 elt tg iter tg1 iter1 ifs ifs1 scope gpos) 0 (.ref it) .none cenv).onRaise (leaving cenv)) [] s
    rw [compTurnG2_out, Sem.onRaise_eq_wrap]
    refine seg_bind_wrap (wpAny_standAt ?_)
    rcases turn i m H' w with ⟨stop, q⟩ | ⟨go, step⟩
    · refine seg_bind_wrap (thnF (T.done (gCx X (ge2 elt tg iter tg1 iter1 ifs ifs1 scope gpos) s4 H4 cenv it fp pn) rfl rfl rfl hc i [] s _ H' (fun _ _ => False) I (fpk I nf) st stop) fun r s1 z => ?_)
      obtain ⟨rfl, I1⟩ := z
      exact seg_end (.ok .next) ⟨rfl, H', I1, q⟩
    · refine seg_bind_wrap (thnF (T.item (gCx X (ge2 elt tg iter tg1 iter1 ifs ifs1 scope gpos) s4 H4 cenv it fp pn) rfl rfl rfl hc i [] s _ H' (fun _ _ => False) I (fpk I nf) st go) fun r s1 z => ?_)
      obtain ⟨u, rfl, z⟩ := z
      refine seg_bind_wrap (thnF z fun _ s2 z2 => ?_)
      obtain ⟨x, H2, I2, r2, y2, st2, n2⟩ := z2
      have P2 := I2.pinned (fpk I2 n2) (T.obj _ _ st2)
      refine seg_bind_wrap (thnF (pg.run _ s2 _ H2 x u _ P2 r2 (step x H2 y2)) fun _ s3 z3 => ?_)
      obtain ⟨σ3, H3, I3, hw, q3⟩ := z3
      refine seg_bind_wrap (thnF (pt.run _ s3 σ3 H3 _ I3 q3) fun b sb zb => ?_)
      obtain ⟨Hb, Ib, qb⟩ := zb
      have back : ∀ {σ' : L2.St} {s' : Shared} {H' : Hp}, Inv (gCx X (ge2 elt tg iter tg1 iter1 ifs ifs1 scope gpos) s4 H4 cenv it fp pn) ([] ++ pinsAt fp s2.heap) σ' H' s' → (wipe σ own).length = σ'.length → (∀ (j : Nat) v, (wipe σ own)[j]? = some (some v) → σ'[j]? = some (some v)) →
          Inv (gCx X (ge2 elt tg iter tg1 iter1 ifs ifs1 scope gpos) s4 H4 cenv it fp pn) [] (wipe σ own) H' s' ∧ tn (i + 1) s'.heap ∧ ∀ b ∈ fp, H' b = none := fun {σ' s' H'} I' hl hk => by
        have pin' : ∀ b ∈ fp, ∀ o, s2.heap.get? b = some o → s'.heap.get? b = some o ∧ H' b = none := fun b hb o e =>
          have y := I'.pin (b, o) (List.mem_append_right _ (List.mem_append_right _ (mem_pinsAt hb e)))
          ⟨y.1, y.2.1⟩
        refine ⟨(I'.unpinned (pins := [])).weak hl hk, T.keep _ _ _ st2 (fun b hb o e => (pin' b hb o e).1), fun b hb => ?_⟩
        obtain ⟨o, e, _⟩ := T.obj _ _ st2 b hb
        exact (pin' b hb o e).2
      have hl3 : (wipe σ own).length = σ3.length := by rw [← hw, wipe_length]
      have hk3 : ∀ (j : Nat) v, (wipe σ own)[j]? = some (some v) → σ3[j]? = some (some v) := fun j v e => by
        rw [← hw] at e
        exact (wipe_some e).1
      cases b with
      | false =>
        simp only [Bool.false_eq_true, if_false] at qb ⊢
        obtain ⟨m', hm, w'⟩ := qb
        obtain ⟨I', st', n'⟩ := back Ib hl3 hk3
        exact seg_again rfl (ih m' hm n (i + 1) s0 sb Hb (Nat.lt_trans hm hmn) w' I' st' n')
      | true =>
        simp only [if_true] at qb ⊢
        refine seg_bind_wrap (thnF (pi1.run _ sb σ3 Hb _ Ib qb) fun xv s5 hx => ?_)
        refine seg_bind_wrap (wpAny_standAt ?_)
        refine seg_bind_wrap (wpAny_of_eq (hs1 xv) ?_)
        refine seg_bind_wrap (wpAny_holding (thnF hx fun itv s6 h6 => ?_))
        obtain ⟨it1, fp1, tn1, J1, H6, rfl, I6, T1, st6, f6, W1, ⟨k0, lk, w1⟩, turn1⟩ := h6
        rw [Sem.bind_eq_wrap', Sem.wrap_wrap]
        refine seg_call fun p => ?_
        show Seg _ _ _ _ n s0 _ ((compStart (ge2 elt tg iter tg1 iter1 ifs ifs1 scope gpos) 1 (.ref it1) .none cenv).onRaise (fun x => do noteFrame x cenv; standAt theWindowsPlace)) _ s6
        have back2 : ∀ {σ' : L2.St} {H' : Hp} {s' : Shared}, Inv (gCx X (ge2 elt tg iter tg1 iter1 ifs ifs1 scope gpos) s4 H4 cenv it fp pn) ([] ++ pinsAt fp s2.heap) σ' H' s' → wipe σ' vs1 = wipe σ3 vs1 →
            Inv (gCx X (ge2 elt tg iter tg1 iter1 ifs ifs1 scope gpos) s4 H4 cenv it fp pn) [] (wipe σ own) H' s' ∧ tn (i + 1) s'.heap ∧ ∀ b ∈ fp, H' b = none := fun {σ' H' s'} I' e => by
          refine back I' (by have := congrArg List.length e; rw [wipe_length, wipe_length] at this; omega) fun j v h => ?_
          rw [← hw] at h
          obtain ⟨e1, e2⟩ := wipe_some h
          have e3 : (wipe σ3 vs1)[j]? = some (some v) := by
            rw [wipe_out fun z => e2 (hv j z)]
            exact e1
          rw [← e] at e3
          exact (wipe_some e3).1
        suffices key : ∀ kf : Result → Sem PySem.Fin, (∀ (n m' : Nat) (s0 s : Shared) (H' : Hp), m' < n → m' < m → W (i + 1) m' H' → Inv (gCx X (ge2 elt tg iter tg1 iter1 ifs ifs1 scope gpos) s4 H4 cenv it fp pn) [] (wipe σ own) H' s → tn (i + 1) s.heap → (∀ b ∈ fp, H' b = none) →
            Seg (model X.prog X.w) X.A.in1.in1 (fun n s0 r s1 => r = .ok .next ∧ GEndP (gCx X (ge2 elt tg iter tg1 iter1 ifs ifs1 scope gpos) s4 H4 cenv it fp pn) (wipe σ own) stopb Q n s0 s1) (GProto (gCx X (ge2 elt tg iter tg1 iter1 ifs ifs1 scope gpos) s4 H4 cenv it fp pn) (wipe σ own) fp tn Wt stopb Q) n s0 (.compLoop (ge2 elt tg iter tg1 iter1 ifs ifs1 scope gpos) 0 (.ref it) .none cenv) (kf (.ok .next)) [] s) →
            Seg (model X.prog X.w) X.A.in1.in1 (fun n s0 r s1 => r = .ok .next ∧ GEndP (gCx X (ge2 elt tg iter tg1 iter1 ifs ifs1 scope gpos) s4 H4 cenv it fp pn) (wipe σ own) stopb Q n s0 s1) (GProto (gCx X (ge2 elt tg iter tg1 iter1 ifs ifs1 scope gpos) s4 H4 cenv it fp pn) (wipe σ own) fp tn Wt stopb Q) n s0 (.compStart (ge2 elt tg iter tg1 iter1 ifs ifs1 scope gpos) 1 (.ref it1) .none cenv)
              ((compStart (ge2 elt tg iter tg1 iter1 ifs ifs1 scope gpos) 1 (.ref it1) .none cenv).onRaise (fun x => do noteFrame x cenv; standAt theWindowsPlace)) [.ret kf none false [] (.compLoop (ge2 elt tg iter tg1 iter1 ifs ifs1 scope gpos) 0 (.ref it) .none cenv) p []] s6 from
          key _ fun n' m' s0' s' H' hm lm w' I' st' nn => seg_again rfl (ih m' lm n' (i + 1) s0' s' H' hm w' I' st' nn)
        intro kf hk
        have loop1 := gen_inner (i := i) (p := p) (σ2 := σ3) (W1 := W1) (vs1 := vs1) (own := own) (σ := σ) (stopb := stopb) (Q := Q) (tn := tn) (W := W) (kf := kf) hc hco T1 (fun I' e => (back2 I' e).1) (fun hn b hb => ⟨hn b hb, (f6 b hb).2⟩) pg1 pt1 pe
          (fun n' m' s0' s' H' hm lm w' I' => by obtain ⟨y1, y2, y3⟩ := back2 I' (wipe_idem σ3 vs1); exact hk n' m' s0' s' H' hm (by omega) w' y1 y2 y3) lk (fun j k H _ w => turn1 j k H w) k0 n 0 s0 s6 H6 (by omega) (Nat.le_refl _) w1 (I6.weak (wipe_length _ _) (fun j v e => (wipe_some e).1)) st6 (fun b hb => (f6 b hb).1)
        have ov : X.A.in1.in1.over (.compStart (ge2 elt tg iter tg1 iter1 ifs ifs1 scope gpos) 1 (.ref it1) .none cenv) [.ret kf none false [] (.compLoop (ge2 elt tg iter tg1 iter1 ifs ifs1 scope gpos) 0 (.ref it) .none cenv) p []] = X.A.in1.in1.over (.compLoop (ge2 elt tg iter tg1 iter1 ifs ifs1 scope gpos) 0 (.ref it) .none cenv) [] := GenW.over_loop rfl rfl
        unfold compStart
        rw [Sem.onRaise_eq_wrap]
        refine seg_bw ov (wpAny_askSetting ?_)
        split
        · exact seg_again rfl loop1
        · refine seg_bw ov (wpAny_rule ?_)
          show Seg _ _ _ _ n s0 _ ((standAt iter1.pos >>= _).wrap _ _ _ _) _ s6
          refine seg_bw ov (wpAny_standAt (seg_bw ov ?_))
          exact T1.self _ 0 s6 _ _ st6 (seg_again rfl loop1)
end
end Gx
namespace Gx
open PySem PySem.Spec PyProof.Rows L2 GxR
section
variable {X : Cx} {elt tg iter tg1 iter1 : Expr} {ifs ifs1 : List Expr} {scope : Scope} {gpos : Pos} {cenv : Env} {it : Addr} {fp : List Addr} {J : It} {tn : Nat → Heap → Prop}
theorem gen_begin2 {n : Nat} {s0 s : Shared} {R : GenEnd} {Y : Protocol} (T : Turn X.prog X.w X.K tg J fp it tn) (st : tn 0 s.heap)
    (loop : Seg (model X.prog X.w) X.A.in1.in1 R Y n s0 (.compLoop (ge2 elt tg iter tg1 iter1 ifs ifs1 scope gpos) 0 (.ref it) .none cenv) ((model X.prog X.w).den (.compLoop (ge2 elt tg iter tg1 iter1 ifs ifs1 scope gpos) 0 (.ref it) .none cenv)) [] s) :
    Seg (model X.prog X.w) X.A.in1.in1 R Y n s0 (.compStart (ge2 elt tg iter tg1 iter1 ifs ifs1 scope gpos) 0 (.ref it) .none cenv) ((model X.prog X.w).den (.compStart (ge2 elt tg iter tg1 iter1 ifs ifs1 scope gpos) 0 (.ref it) .none cenv)) [] s := by
  show Seg _ _ _ _ n s0 _ ((compStart (ge2 elt tg iter tg1 iter1 ifs ifs1 scope gpos) 0 (.ref it) .none cenv).onRaise (leaving cenv)) [] s
  unfold compStart
  rw [Sem.onRaise_eq_wrap]
  refine seg_bind_wrap (wpAny_askSetting ?_)
  split
  · exact seg_again rfl loop
  · refine seg_bind_wrap (wpAny_rule ?_)
    show Seg _ _ _ _ n s0 _ ((standAt iter.pos >>= _).wrap _ _ _ _) [] s
    refine seg_bind_wrap (wpAny_standAt (seg_bind_wrap ?_))
    exact T.self _ 0 s _ _ st (seg_again rfl loop)
end
section
variable {M : Model} {A : Around} {E : Value → Shared → Prop} {s : Shared}
theorem evalG2 {env : Env} {elt tg iter tg1 iter1 : Expr} {ifs ifs1 : List Expr} {scope : Scope} {pos : Pos} (hco : scope.isCoroutine = false) :
    eval (ge2 elt tg iter tg1 iter1 ifs ifs1 scope pos) env = (do
      let x ← eval iter env
      standAt iter.pos
      let x ← genFold iter env x
      let it ← holding [x] (pyIter x)
      enterFrame
      let cl ← closureFor scope env
      let code ← genexprCode env pos (env.qual ++ "<genexpr>") scope
      let bi ← builtinsFor env.globals env.builtins
      let cenv ← newFunctionEnv scope env.globals cl [(".0", it)] (env.qual ++ "<genexpr>.") none code none bi
      newGenerator (.compStart (ge2 elt tg iter tg1 iter1 ifs ifs1 scope pos) 0 it .none cenv) "<genexpr>" (env.qual ++ "<genexpr>")) := by
  rw [arm_eval_GeneratorExp]
  simp only [hco, Bool.false_eq_true, if_false]
  cases iter <;> rfl
theorem wpAny_GeneratorExp_make2 {env : Env} {elt tg iter tg1 iter1 : Expr} {ifs ifs1 : List Expr} {scope : Scope} {cl : List (Str × Addr)} {pos : Pos} {Q : Value → Shared → Prop} (hco : scope.isCoroutine = false) (hclos : closureFor scope env = pure cl) (hcell : ∀ y ∈ scope.names, y.2 ≠ .cell) (h0 : scope.names.lookup (".0" : Str) = some NameKind.local) (hkind : scope.kind = .function) (hroom : A.depth < recursionLimit)
    (h : wpAny M A (eval iter env) (fun xv s1 => wpAny M A (pyIter xv) (fun it s2 => s2.heap.NoLimit ∧ wpAny M A (genexprCode env pos (env.qual ++ "<genexpr>") scope) (fun code s3 => wpAny M A (builtinsFor env.globals env.builtins) (fun bi s4 => ∀ h', h'.Ns s4.heap.objs.size (fun y => if y = ".0" then some it else none) → Heap.SameBut s4.heap.objs.size (s4.heap.push { cls := .type "frame", data := .dict #[] }) h' →
          Q (.ref h'.objs.size) { s4 with gens := s4.gens.push (.fresh (.compStart (ge2 elt tg iter tg1 iter1 ifs ifs1 scope pos) 0 it .none (genEnv scope cl s4.heap.objs.size code bi env))), toks := s4.toks + 1 + 1 + 1, heap := h'.push { cls := .type "generator", data := .fields #[.int s4.gens.size 0, .str "<genexpr>" (s4.toks + 1), .str (env.qual ++ "<genexpr>") (s4.toks + 1 + 1)] } }) E s3) E s2) E s1) E s)
    (hs : ∀ x, genFold iter env x = pure x) : wpAny M A (eval (ge2 elt tg iter tg1 iter1 ifs ifs1 scope pos) env) Q E s := by
  rw [evalG2 hco, hclos]
  refine wpAny_bind (wpAny_mono h (fun xv s1 h1 => wpAny_bind (wpAny_standAt (wpAny_bind (wpAny_of_eq (hs xv) (wpAny_bind (wpAny_holding (wpAny_mono h1 (fun it s2 h2 => wpAny_bind (wpAny_enterFrame h2.1 hroom (wpAny_bind (wpAny_pure (wpAny_bind (wpAny_mono h2.2 (fun code s3 h3 => wpAny_bind (wpAny_mono h3 (fun bi s4 h4 => ?_) fun _ _ e => e)) fun _ _ e => e)))))) fun _ _ e => e))))))) fun _ _ e => e)
  have one : ∀ y ∈ ([((".0" : Str), it)] : List (Str × Value)), scope.names.lookup y.1 = some NameKind.local := fun y hy => by
    rw [List.mem_singleton.mp hy]
    exact h0
  refine wpAny_bind (wpAny_newFunctionEnv hcell one (fun h' hn hb => ?_) hkind)
  have look : (fun y : Str => ([((".0" : Str), it)] : List (Str × Value)).reverse.lookup y) = fun y : Str => if y = (".0" : Str) then some it else none := by
    funext y
    by_cases z : y = ".0"
    · subst z
      simp
    · simp [List.lookup, show (y == (".0" : Str)) = false by simpa using z, z]
  rw [look] at hn
  simp only [newGenerator, newFields]
  refine wpAny_bind (wpAny_newGen (wpAny_bind (wpAny_mkText (wpAny_bind (wpAny_mkText (wpAny_newObj_type ?_ (by size_fits)))))))
  exact h4 h' hn hb
end
section
variable {X : Cx} {pins : List (Addr × Obj)} {σ : L2.St} {H : Hp} {s : Shared} {c P : Addr} {elt tg iter tg1 iter1 : Expr} {ifs ifs1 : List Expr} {scope : Scope} {own : List (Str × Nat)} {vs1 : List Nat} {gpos : Pos} {wi wi1 : TI} {g g1 : TG} {tt tt1 : TT} {te : TE} {stopb : Bool} {k : Nat}
theorem gen_make2 {Q : VK} {Q' : Value → Shared → Prop} (hr : Room k X.A) (hc : X.calm = true) (hN : X.N.Nodup) (TB : TabB X.base X.mg c P) (hcode : X.env.code = .ref c) (hi : PI X tg iter wi) (ok : BlkOk X.N X.env.scope scope own) (S : GSc scope)
    (hg : ∀ (s : Shared) (H : Hp) (C : Addr) (code : Value) (it : Addr) (fp : List Addr) (pn : List (Addr × Obj)), PG (gCx X (ge2 elt tg iter tg1 iter1 ifs ifs1 scope gpos) s H (genEnv scope (cloFrom X.env.cells scope.names []) C code builtinsNs X.env) it fp pn) tg g)
    (ht : ∀ (s : Shared) (H : Hp) (C : Addr) (code : Value) (it : Addr) (fp : List Addr) (pn : List (Addr × Obj)), PTs (gCx X (ge2 elt tg iter tg1 iter1 ifs ifs1 scope gpos) s H (genEnv scope (cloFrom X.env.cells scope.names []) C code builtinsNs X.env) it fp pn) ifs tt)
    (hv : ∀ i ∈ vs1, i ∈ own.map (·.2)) (hi1 : ∀ (s : Shared) (H : Hp) (C : Addr) (code : Value) (it : Addr) (fp : List Addr) (pn : List (Addr × Obj)), PI (gCx X (ge2 elt tg iter tg1 iter1 ifs ifs1 scope gpos) s H (genEnv scope (cloFrom X.env.cells scope.names []) C code builtinsNs X.env) it fp pn) tg1 iter1 wi1)
    (hg1 : ∀ (s : Shared) (H : Hp) (C : Addr) (code : Value) (it : Addr) (fp : List Addr) (pn : List (Addr × Obj)), PG (gCx X (ge2 elt tg iter tg1 iter1 ifs ifs1 scope gpos) s H (genEnv scope (cloFrom X.env.cells scope.names []) C code builtinsNs X.env) it fp pn) tg1 g1)
    (ht1 : ∀ (s : Shared) (H : Hp) (C : Addr) (code : Value) (it : Addr) (fp : List Addr) (pn : List (Addr × Obj)), PTs (gCx X (ge2 elt tg iter tg1 iter1 ifs ifs1 scope gpos) s H (genEnv scope (cloFrom X.env.cells scope.names []) C code builtinsNs X.env) it fp pn) ifs1 tt1)
    (he : ∀ (s : Shared) (H : Hp) (C : Addr) (code : Value) (it : Addr) (fp : List Addr) (pn : List (Addr × Obj)), PE (gCx X (ge2 elt tg iter tg1 iter1 ifs ifs1 scope gpos) s H (genEnv scope (cloFrom X.env.cells scope.names []) C code builtinsNs X.env) it fp pn) elt te)
    (hs : ∀ x, genFold iter X.env x = pure x) (hs1 : ∀ env x, foldedSetIterable iter1 env x = pure x) (I : Inv X pins σ H s) (h : tAA2 P stopb wi g tt wi1 g1 tt1 te (own.map (·.2)) vs1 σ H Q)
    (hQ : ∀ (a : Addr) (go : Obj) (gn n : Nat) (Y : Cx) (fp : List Addr) (tn : Nat → Heap → Prop) (W : Nat → Nat → Hp → Prop) (s5 : Shared), (a, go) ∈ Y.pn → (∀ h : Heap, h.get? a = some go → h.IsGen a gn) → (∀ s' H', Inv Y [] (wipe σ (own.map (·.2))) H' s' → Inv X pins σ H' s') → s5.heap.get? a = some go →
      Asleep X Y (wipe σ (own.map (·.2))) fp tn W stopb Q gn n s5 → Q' (.ref a) s5) :
    wpAny (model X.prog X.w) X.A (eval (ge2 elt tg iter tg1 iter1 ifs ifs1 scope gpos) X.env) Q' X.xe s := by
  have hfree : ∀ y ∈ scope.names, y.2 = .free → ∃ c, X.env.cells.lookup y.1 = some c := fun y hy e => by
    rcases ok.free y hy e with z | z
    · exact I.ok.has _ (.inl z)
    · exact I.ok.has _ (.inr z)
  refine wpAny_GeneratorExp_make2 S.co (closure_ok hfree) S.nc S.dot ok.kind (by have := hr.dp; omega) (thn (hi.run pins s σ H _ I h) fun xv s1 hx => thn hx fun itv s2 h2 => ?_) hs
  obtain ⟨it, fp, tn, J, H2, rfl, I2, T, st2, f2, ⟨ps, hP, hT⟩, q⟩ := h2
  have hPs : s2.heap.get? P = some { cls := .none, data := .fields ps } := I2.hok P _ hP
  have cd : PySem.W.CodeHd s2.heap c P := TB.code.keeps I2.bk
  have szf : ∀ b ∈ fp, b < s2.heap.objs.size := fun b hb => by
    obtain ⟨o, e, _⟩ := T.obj _ _ st2 b hb
    exact Heap.lt_size e
  have nP : ∀ b ∈ fp, b ≠ P := fun b hb z => by
    have e := (f2 b hb).1
    rw [z, hP] at e
    cases e
  refine ⟨I2.nolimit, ?_⟩
  have cont : ∀ (code : Value) (h3 : Heap) (tk : Nat) (more : Array Value), Heap.ExtBut P s2.heap h3 → s2.heap.objs.size ≤ h3.objs.size → h3.get? P = some { cls := .none, data := .fields (ps ++ more) } → TriplesOk (ps ++ more).toList →
      wpAny (model X.prog X.w) X.A (builtinsFor X.env.globals X.env.builtins) (fun bi s4 => ∀ h', h'.Ns s4.heap.objs.size (fun y => if y = ".0" then some (.ref it) else none) → Heap.SameBut s4.heap.objs.size (s4.heap.push { cls := .type "frame", data := .dict #[] }) h' →
        Q' (.ref h'.objs.size) { s4 with
          gens := s4.gens.push (.fresh (.compStart (ge2 elt tg iter tg1 iter1 ifs ifs1 scope gpos) 0 (.ref it) .none (genEnv scope (cloFrom X.env.cells scope.names []) s4.heap.objs.size code bi X.env))),
          toks := s4.toks + 1 + 1 + 1,
          heap := h'.push { cls := .type "generator", data := .fields #[.int s4.gens.size 0, .str "<genexpr>" (s4.toks + 1), .str (X.env.qual ++ "<genexpr>") (s4.toks + 1 + 1)] } }) X.xe { s2 with heap := h3, toks := tk } := by
    intro code h3 tk more hx hsz hP3 hT3
    obtain ⟨bm, ob, e1, e2, e3, e4, e5, e6, e7, e8⟩ := TB.bm
    have I3 : Inv X pins σ (upd H2 P (.tbl (ps ++ more))) { s2 with heap := h3, toks := tk } := inv_tab (g' := s2.gens) (d' := s2.drawn) (t' := tk) I2 hP (fun b o hb e => hx b o hb e) hP3 I2.bare
    have f3 : ∀ b ∈ fp, FpOk X pins (upd H2 P (.tbl (ps ++ more))) b ∧ b < h3.objs.size := fun b hb => ⟨⟨by rw [upd_ne (nP b hb)]; exact (f2 b hb).1, (f2 b hb).2⟩, Nat.lt_of_lt_of_le (szf b hb) hsz⟩
    have st3 : tn 0 h3 := T.keep _ _ _ st2 fun b hb o e => hx b o (nP b hb) e
    obtain ⟨W, ⟨m0, w0⟩, turn⟩ := q (upd H2 P (.tbl (ps ++ more))) ⟨⟨_, upd_same, hT3⟩, fun b hb => upd_ne hb⟩
    refine wpAny_builtinsFor (m := X.mg) (by rw [I3.ok.glob]; exact I3.mod.glob.keeps I3.bk) e1 e2 (hx _ _ e4 (I2.bk _ _ e5)) e6 e7 e8 ?_
    intro h' hn' hs'
    have hsz' : h'.objs.size = h3.objs.size + 1 := by
      rw [hs'.1]
      exact Heap.size_push ..
    have kp : ∀ b o, h3.get? b = some o → (h'.push { cls := .type "generator", data := .fields #[.int s2.gens.size 0, .str "<genexpr>" (tk + 1), .str (X.env.qual ++ "<genexpr>") (tk + 1 + 1)] }).get? b = some o := fun b o e =>
      Heap.get?_push_of_some _ (hs'.extBut b o (Nat.ne_of_lt (Heap.lt_size e)) (Heap.get?_push_of_some _ e))
    have st5 := T.keep _ _ _ st3 fun b hb o e => kp b o e
    have nf : ∀ b ∈ fp, (upd H2 P (.tbl (ps ++ more))) b = none := fun b hb => (f3 b hb).1.1
    have IG := gen_start (ge := ge2 elt tg iter tg1 iter1 ifs ifs1 scope gpos) (it := it) (code := code) (tk := tk + 1 + 1 + 1)
      (gs := s2.gens.push (.fresh (.compStart (ge2 elt tg iter tg1 iter1 ifs ifs1 scope gpos) 0 (.ref it) .none (genEnv scope (cloFrom X.env.cells scope.names []) h3.objs.size code builtinsNs X.env)))) I3 hc ok hN S.nc f3
      (by show pushEnvs [_] (pushEnvs [] X.A.frames) = _; rw [I.ok.frames]; rfl) (I2.bare.push rfl) kp (hn'.keeps fun b o e => Heap.get?_push_of_some _ e) (Heap.get?_push_size h' rfl) (show h3.objs.size < h'.objs.size by omega) (fun v z => by cases z)
    refine hQ h'.objs.size _ s2.gens.size (m0 + 1) _ fp tn Wt _ List.mem_cons_self (fun h0 e => ?_) (fun s' H' J' => ?_) (Heap.get?_push_size h' rfl) ⟨_, _, Array.getElem?_push_size .., IG, fun s'' h1 h2 h3' => ?_⟩
    · exact ⟨_, _, _, e, rfl, rfl, rfl⟩
    · exact I3.call' (ch := fp) J'.os J'.base J'.hok J'.bare fun b hb => ⟨(f3 b hb).1.2.2.2.1, (f3 b hb).1.2.1, (f3 b hb).1.2.2.2.2.1, (f3 b hb).1.2.2.2.2.2⟩
    · refine ⟨rfl, gen_begin2 T (by rw [h1]; exact st5) ?_⟩
      refine gen_loop2 hc S.co T (fun p hp b hb z => ?_) hv (hg _ _ _ _ _ _ _) (ht _ _ _ _ _ _ _) (hi1 _ _ _ _ _ _ _) (hg1 _ _ _ _ _ _ _) (ht1 _ _ _ _ _ _ _) (he _ _ _ _ _ _ _) (hs1 _) turn m0 (m0 + 1) 0 s'' s'' _ (Nat.lt_succ_self _) w0 (inv_gens IG h1 h2 h3') (by rw [h1]; exact st5) nf
      rw [List.mem_singleton.mp hp] at z
      have z1 := (f3 b hb).2
      rw [← z] at z1
      have z2 : h'.objs.size < h3.objs.size := z1
      omega
  cases hf : codeAmong gpos ps.toList with
  | none =>
    refine wpAny_genexprCodeX hcode (cd.code hPs hT) (cd.tab hPs) hf fun c' h' tk hx hge hlt hco' _ htab' _ => ?_
    have tr : TriplesOk (ps ++ #[rawInt gpos.line, rawInt gpos.col, Value.ref c']).toList := by
      obtain ⟨_, _, _, _, _, _, _, _, _, _, _, _, _, _, _, _, _, _, _, z, _⟩ := hco'
      exact z
    exact cont _ h' tk _ hx (Nat.le_trans hge (Nat.le_of_lt hlt)) htab'.2 tr
  | some cv =>
    refine wpAny_genexprCode_hit hcode (cd.code hPs hT) hf ?_
    exact cont cv s2.heap s2.toks #[] (Heap.ExtBut.refl _ _) (Nat.le_refl _) (by rw [Array.append_empty]; exact hPs) (by rw [Array.append_empty]; exact hT)
theorem pe_any2 {p pos : Pos} (hr : Room k X.A) (hb : Gl X "any") (hm : X.mg "any" = none) (hc : X.calm = true) (hN : X.N.Nodup) (TB : TabB X.base X.mg c P) (hcode : X.env.code = .ref c) (hi : PI X tg iter wi) (ok : BlkOk X.N X.env.scope scope own) (S : GSc scope)
    (hg : ∀ (s : Shared) (H : Hp) (C : Addr) (code : Value) (it : Addr) (fp : List Addr) (pn : List (Addr × Obj)), PG (gCx X (ge2 elt tg iter tg1 iter1 ifs ifs1 scope gpos) s H (genEnv scope (cloFrom X.env.cells scope.names []) C code builtinsNs X.env) it fp pn) tg g)
    (ht : ∀ (s : Shared) (H : Hp) (C : Addr) (code : Value) (it : Addr) (fp : List Addr) (pn : List (Addr × Obj)), PTs (gCx X (ge2 elt tg iter tg1 iter1 ifs ifs1 scope gpos) s H (genEnv scope (cloFrom X.env.cells scope.names []) C code builtinsNs X.env) it fp pn) ifs tt)
    (hv : ∀ i ∈ vs1, i ∈ own.map (·.2)) (hi1 : ∀ (s : Shared) (H : Hp) (C : Addr) (code : Value) (it : Addr) (fp : List Addr) (pn : List (Addr × Obj)), PI (gCx X (ge2 elt tg iter tg1 iter1 ifs ifs1 scope gpos) s H (genEnv scope (cloFrom X.env.cells scope.names []) C code builtinsNs X.env) it fp pn) tg1 iter1 wi1)
    (hg1 : ∀ (s : Shared) (H : Hp) (C : Addr) (code : Value) (it : Addr) (fp : List Addr) (pn : List (Addr × Obj)), PG (gCx X (ge2 elt tg iter tg1 iter1 ifs ifs1 scope gpos) s H (genEnv scope (cloFrom X.env.cells scope.names []) C code builtinsNs X.env) it fp pn) tg1 g1)
    (ht1 : ∀ (s : Shared) (H : Hp) (C : Addr) (code : Value) (it : Addr) (fp : List Addr) (pn : List (Addr × Obj)), PTs (gCx X (ge2 elt tg iter tg1 iter1 ifs ifs1 scope gpos) s H (genEnv scope (cloFrom X.env.cells scope.names []) C code builtinsNs X.env) it fp pn) ifs1 tt1)
    (he : ∀ (s : Shared) (H : Hp) (C : Addr) (code : Value) (it : Addr) (fp : List Addr) (pn : List (Addr × Obj)), PE (gCx X (ge2 elt tg iter tg1 iter1 ifs ifs1 scope gpos) s H (genEnv scope (cloFrom X.env.cells scope.names []) C code builtinsNs X.env) it fp pn) elt te)
    (hs : ∀ x, genFold iter X.env x = pure x := by intro _; rfl)
    (hs1 : ∀ env x, foldedSetIterable iter1 env x = pure x := by intro _ _; rfl)
    (hst : starEach [ge2 elt tg iter tg1 iter1 ifs ifs1 scope gpos] X.env = (false, eval (ge2 elt tg iter tg1 iter1 ifs ifs1 scope gpos) X.env) :: starEach [] X.env := by rfl) :
    PE X (.Call (.Name "any" p) [ge2 elt tg iter tg1 iter1 ifs ifs1 scope gpos] [] pos) (tAA2 P true wi g tt wi1 g1 tt1 te (own.map (·.2)) vs1) := by
  refine ⟨fun pins s σ H Q I h => wpAny_Call_Name_kw (ld_blt I hb hm boot_any (PyProof.Rows.callWith_builtin1 ?_ hst (by rfl)))⟩
  rw [hst]
  refine Calls.spliced_cons (gen_make2 hr hc hN TB hcode hi ok S hg ht hv hi1 hg1 ht1 he hs hs1 I h fun a go gn n Y fp tn W s5 h1 h2 h3 h4 SL => Calls.spliced_nil ?_)
  refine call_function_tree F.kind_any F.plain_any F.entry_any (F.args_any1 _) ?_
  unfold Builtin.«any»
  refine wpAny_bind (m := oneArg "any" _) (wpAny_pure (wpAny_bind (wpAny_pyIter_gen (h2 _ h4) (wpAny_pure ⟨plainId_quiet F.plain_any_loop _, ?_⟩))))
  exact any_loop (I.ok.hd hc) hr.depth h1 h2 (fun s' H' b J q => ⟨.bl b, H', h3 s' H' J, rfl, q⟩) n s5 SL
theorem pe_all2 {p pos : Pos} (hr : Room k X.A) (hb : Gl X "all") (hm : X.mg "all" = none) (hc : X.calm = true) (hN : X.N.Nodup) (TB : TabB X.base X.mg c P) (hcode : X.env.code = .ref c) (hi : PI X tg iter wi) (ok : BlkOk X.N X.env.scope scope own) (S : GSc scope)
    (hg : ∀ (s : Shared) (H : Hp) (C : Addr) (code : Value) (it : Addr) (fp : List Addr) (pn : List (Addr × Obj)), PG (gCx X (ge2 elt tg iter tg1 iter1 ifs ifs1 scope gpos) s H (genEnv scope (cloFrom X.env.cells scope.names []) C code builtinsNs X.env) it fp pn) tg g)
    (ht : ∀ (s : Shared) (H : Hp) (C : Addr) (code : Value) (it : Addr) (fp : List Addr) (pn : List (Addr × Obj)), PTs (gCx X (ge2 elt tg iter tg1 iter1 ifs ifs1 scope gpos) s H (genEnv scope (cloFrom X.env.cells scope.names []) C code builtinsNs X.env) it fp pn) ifs tt)
    (hv : ∀ i ∈ vs1, i ∈ own.map (·.2)) (hi1 : ∀ (s : Shared) (H : Hp) (C : Addr) (code : Value) (it : Addr) (fp : List Addr) (pn : List (Addr × Obj)), PI (gCx X (ge2 elt tg iter tg1 iter1 ifs ifs1 scope gpos) s H (genEnv scope (cloFrom X.env.cells scope.names []) C code builtinsNs X.env) it fp pn) tg1 iter1 wi1)
    (hg1 : ∀ (s : Shared) (H : Hp) (C : Addr) (code : Value) (it : Addr) (fp : List Addr) (pn : List (Addr × Obj)), PG (gCx X (ge2 elt tg iter tg1 iter1 ifs ifs1 scope gpos) s H (genEnv scope (cloFrom X.env.cells scope.names []) C code builtinsNs X.env) it fp pn) tg1 g1)
    (ht1 : ∀ (s : Shared) (H : Hp) (C : Addr) (code : Value) (it : Addr) (fp : List Addr) (pn : List (Addr × Obj)), PTs (gCx X (ge2 elt tg iter tg1 iter1 ifs ifs1 scope gpos) s H (genEnv scope (cloFrom X.env.cells scope.names []) C code builtinsNs X.env) it fp pn) ifs1 tt1)
    (he : ∀ (s : Shared) (H : Hp) (C : Addr) (code : Value) (it : Addr) (fp : List Addr) (pn : List (Addr × Obj)), PE (gCx X (ge2 elt tg iter tg1 iter1 ifs ifs1 scope gpos) s H (genEnv scope (cloFrom X.env.cells scope.names []) C code builtinsNs X.env) it fp pn) elt te)
    (hs : ∀ x, genFold iter X.env x = pure x := by intro _; rfl)
    (hs1 : ∀ env x, foldedSetIterable iter1 env x = pure x := by intro _ _; rfl)
    (hst : starEach [ge2 elt tg iter tg1 iter1 ifs ifs1 scope gpos] X.env = (false, eval (ge2 elt tg iter tg1 iter1 ifs ifs1 scope gpos) X.env) :: starEach [] X.env := by rfl) :
    PE X (.Call (.Name "all" p) [ge2 elt tg iter tg1 iter1 ifs ifs1 scope gpos] [] pos) (tAA2 P false wi g tt wi1 g1 tt1 te (own.map (·.2)) vs1) := by
  refine ⟨fun pins s σ H Q I h => wpAny_Call_Name_kw (ld_blt I hb hm (show bootBuiltins "all" = some (.builtin "all") by decide +kernel) (PyProof.Rows.callWith_builtin1 ?_ hst (by rfl)))⟩
  rw [hst]
  refine Calls.spliced_cons (gen_make2 hr hc hN TB hcode hi ok S hg ht hv hi1 hg1 ht1 he hs hs1 I h fun a go gn n Y fp tn W s5 h1 h2 h3 h4 SL => Calls.spliced_nil ?_)
  refine call_function_tree F.kind_all F.plain_all F.entry_all (F.args_all1 _) ?_
  unfold Builtin.«all»
  refine wpAny_bind (m := oneArg "all" _) (wpAny_pure (wpAny_bind (wpAny_pyIter_gen (h2 _ h4) (wpAny_pure ⟨plainId_quiet F.plain_all_loop _, ?_⟩))))
  exact all_loop (I.ok.hd hc) hr.depth h1 h2 (fun s' H' b J q => ⟨.bl b, H', h3 s' H' J, rfl, q⟩) n s5 SL
end
end Gx
namespace Gx
open PySem PySem.Spec PyProof.Rows L2 GxR
/-! ### two sources, each a walk -/
theorem pi_tupK {X : Cx} {K : PySem.W.Frag} (hk : X.K = K) {tg l : Expr} {tl : TE} (hl : PE X l tl) : PI X tg l (iTup K tl) := by
  subst hk
  exact pi_tup hl
theorem pi_listK {X : Cx} {K : PySem.W.Frag} (hk : X.K = K) {tg l : Expr} {tl : TE} (hl : PE X l tl) : PI X tg l (iList K tl) := by
  subst hk
  exact pi_list hl
def W2 (n L : Nat) (Pv : Nat → Hp → Prop) : Nat → Nat → Hp → Prop := fun i m H => m = (n - i) * (L + 2) ∧ i ≤ n ∧ Pv i H
theorem w2_step {n L i : Nat} (h : i < n) : (n - i) * (L + 2) = (n - (i + 1)) * (L + 2) + (L + 2) := by
  have e : n - i = (n - (i + 1)) + 1 := by omega
  rw [e, Nat.add_mul, Nat.one_mul]
section
variable {J J1 : It} {n n1 L : Nat} {G G1 : Hp → Prop} {Y Y1 : Nat → Hp → V → Hp → Prop} {g g1 : TG} {tt tt1 : TT} {te : TE} {wi1 : TI} {vs vs1 : List Nat} {σ σ2 : L2.St} {H1 H4 : Hp} {stopb : Bool} {Q : VK} {Pv : Nat → Hp → Prop} {i : Nat}
/-- a turn of the second source, over a walk -/
theorem in2_it (w1 : Walk J1 n1 G1 Y1) (hi : i < n) (l : n1 ≤ L) (Pv1 : Nat → Hp → Prop) (h0 : Pv1 0 H4) (hG : ∀ j H, j ≤ n1 → Pv1 j H → G1 H)
    (hs : ∀ j x H H', j < n1 → Pv1 j H → Y1 j H x H' → g1 x (wipe σ2 vs1) H' fun σ3 H5 => wipe σ3 vs1 = wipe σ2 vs1 ∧ tt1 σ3 H5 fun b H6 => if b = true then te σ3 H6 fun y H7 => (y = .bl stopb ∧ Q (.bl stopb) H7) ∨ (y = .bl (!stopb) ∧ Pv1 (j + 1) H7) else Pv1 (j + 1) H6)
    (hd : ∀ H, Pv1 n1 H → Pv (i + 1) H) :
    ∃ W1 : Nat → Nat → Hp → Prop, (∃ k, k < (n - i) * (L + 2) ∧ W1 0 k H4) ∧ ∀ j k H, W1 j k H →
      (J1.stop j H ∧ ∃ m', m' ≤ k ∧ W2 n L Pv (i + 1) m' H) ∨ (J1.go j H ∧ ∃ Nx1 : Hp → Prop, (∀ H', Nx1 H' → ∃ k', k' < k ∧ W1 (j + 1) k' H') ∧ ∀ x H', J1.yld j H x H' → g1 x (wipe σ2 vs1) H' fun σ3 H5 => wipe σ3 vs1 = wipe σ2 vs1 ∧ tt1 σ3 H5 fun b H6 =>
        if b = true then te σ3 H6 fun y H7 => (y = .bl stopb ∧ Q (.bl stopb) H7) ∨ (y = .bl (!stopb) ∧ Nx1 H7) else Nx1 H6) := by
  have st := w2_step (L := L) hi
  refine ⟨fun j k H => k = (n - (i + 1)) * (L + 2) + (n1 - j) ∧ j ≤ n1 ∧ Pv1 j H, ⟨_, by omega, rfl, Nat.zero_le _, h0⟩, ?_⟩
  rintro j k H ⟨rfl, hj, p⟩
  have q := hG j H hj p
  by_cases lt : j < n1
  · refine .inr ⟨w1.goes j H lt q, Pv1 (j + 1), fun H' p' => ⟨_, ?_, rfl, lt, p'⟩, fun x H' y => hs j x H H' lt p (w1.yields j H x H' lt q y)⟩
    omega
  · have e : j = n1 := by omega
    subst e
    exact .inl ⟨w1.stops H q, _, by omega, rfl, hi, hd H p⟩
theorem aa2_it (w : Walk J n G Y) (L : Nat) (Pv : Nat → Hp → Prop) (h0 : Pv 0 H1) (hG : ∀ i H, i ≤ n → Pv i H → G H)
    (hs : ∀ i x H H', i < n → Pv i H → Y i H x H' → g x (wipe σ vs) H' fun σ2 H2 => wipe σ2 vs = wipe σ vs ∧ tt σ2 H2 fun b H3 =>
      if b = true then wi1 σ2 H3 fun J1 H4 => ∃ W1 : Nat → Nat → Hp → Prop, (∃ k, k < (n - i) * (L + 2) ∧ W1 0 k H4) ∧ ∀ j k H, W1 j k H →
        (J1.stop j H ∧ ∃ m', m' ≤ k ∧ W2 n L Pv (i + 1) m' H) ∨ (J1.go j H ∧ ∃ Nx1 : Hp → Prop, (∀ H', Nx1 H' → ∃ k', k' < k ∧ W1 (j + 1) k' H') ∧ ∀ x H', J1.yld j H x H' → g1 x (wipe σ2 vs1) H' fun σ3 H5 => wipe σ3 vs1 = wipe σ2 vs1 ∧ tt1 σ3 H5 fun b H6 =>
          if b = true then te σ3 H6 fun y H7 => (y = .bl stopb ∧ Q (.bl stopb) H7) ∨ (y = .bl (!stopb) ∧ Nx1 H7) else Nx1 H6)
      else ∃ m', m' < (n - i) * (L + 2) ∧ W2 n L Pv (i + 1) m' H3)
    (hd : ∀ H, Pv n H → Q (.bl (!stopb)) H) :
    ∃ W : Nat → Nat → Hp → Prop, (∃ m, W 0 m H1) ∧ ∀ i m H, W i m H → Turn2 stopb Q vs vs1 σ J g tt wi1 g1 tt1 te W i m H := by
  refine ⟨W2 n L Pv, ⟨_, rfl, Nat.zero_le _, h0⟩, ?_⟩
  rintro i m H ⟨rfl, hi, p⟩
  have q := hG i H hi p
  by_cases lt : i < n
  · exact .inr ⟨w.goes i H lt q, fun x H' y => hs i x H H' lt p (w.yields i H x H' lt q y)⟩
  · have e : i = n := by omega
    subst e
    exact .inl ⟨w.stops H q, hd H p⟩
/-- over one walk -/
theorem aa_it (w : Walk J n G Y) (Pv : Nat → Hp → Prop) (h0 : Pv 0 H1) (hG : ∀ i H, i ≤ n → Pv i H → G H)
    (hs : ∀ i x H H', i < n → Pv i H → Y i H x H' → g x (wipe σ vs) H' fun σ2 H2 => wipe σ2 vs = wipe σ vs ∧ tt σ2 H2 fun b H3 => if b = true then te σ2 H3 fun y H4 => (y = .bl stopb ∧ Q (.bl stopb) H4) ∨ (y = .bl (!stopb) ∧ Pv (i + 1) H4) else Pv (i + 1) H3)
    (hd : ∀ H, Pv n H → Q (.bl (!stopb)) H) :
    ∃ W : Nat → Nat → Hp → Prop, (∃ m, W 0 m H1) ∧ ∀ i m H, W i m H → (J.stop i H ∧ Q (.bl (!stopb)) H) ∨ (J.go i H ∧ ∃ Nx : Hp → Prop, (∀ H', Nx H' → ∃ m', m' < m ∧ W (i + 1) m' H') ∧ ∀ x H', J.yld i H x H' → g x (wipe σ vs) H' fun σ2 H2 => wipe σ2 vs = wipe σ vs ∧ tt σ2 H2 fun b H3 =>
      if b = true then te σ2 H3 fun y H4 => (y = .bl stopb ∧ Q (.bl stopb) H4) ∨ (y = .bl (!stopb) ∧ Nx H4) else Nx H3) := by
  refine ⟨fun i m H => m = n - i ∧ i ≤ n ∧ Pv i H, ⟨_, rfl, Nat.zero_le _, h0⟩, ?_⟩
  rintro i m H ⟨rfl, hi, p⟩
  have q := hG i H hi p
  by_cases lt : i < n
  · exact .inr ⟨w.goes i H lt q, Pv (i + 1), fun H' p' => ⟨_, by omega, rfl, lt, p'⟩, fun x H' y => hs i x H H' lt p (w.yields i H x H' lt q y)⟩
  · have e : i = n := by omega
    subst e
    exact .inl ⟨w.stops H q, hd H p⟩
end
end Gx
namespace Chk
open PySem PySem.Spec PyProof.Rows L2 GxR Nw Dr Kp Se Ct Lr
/-! ### a book of few things -/
structure Zck (mg : Str → Option Value) : Prop where
  z_any : mg "any" = none
  z_abs : mg "abs" = none
section
variable {P : Program} {w : World} {K : PySem.W.Frag} {mg : Str → Option Value} {base : Heap}
abbrev sChk : Stmt := topS 26
abbrev nChk : List Str := ["book", "claim", "say"]
theorem scChk : FnScope nChk ["book"] (defScope sChk) := ⟨rfl, rfl, rfl, by decide +kernel, rfl, by decide +kernel, by decide +kernel⟩
def spChk (Pc : Addr) : Sp := fun vs H Q _ => ∃ (v : V) (css : List (List Int)), vs = [v] ∧ Bk H v css ∧ (∀ c ∈ css, IsCl c ∧ ∀ k ∈ c, -4 ≤ k ∧ k ≤ 4) ∧ TabG H Pc ∧ ∀ H', Ke Nof H H' → Q .non H'
theorem ok_chk {f c Pc : Addr} {fd : FuncData} {k : Nat} {tk : Tok} (F : FunC K "check_few_things" "check_few_things" sChk f c fd) (T : Zck mg) (TB : TabB base mg c Pc) (M4 : mg "MOST_FEW_THINGS" = some (.int 4 tk)) : FnOk P w K mg base CX0 (k + 3) f fd ["book"] (spChk Pc) := by
  refine F.ok scChk (fun vs H Q E h => ?_) (fun A outer s H vs Q E hr h => ?_)
  · obtain ⟨v, css, rfl, _⟩ := h
    rfl
  · obtain ⟨v, css, rfl, hb, ib, tg, q⟩ := h
    refine ⟨_, (pss_one (ps_if (pt_val (pe_cl (Gx.pe_any2 hr (by rfl) T.z_any rfl scChk.nd TB rfl (pi_tup (pv 0)) (own := [("claim", 1), ("say", 2)]) (vs1 := [2]) (g := gName 1) (g1 := gName 2) (tt := tYes) (tt1 := tYes) (blkOk_by (N := nChk) (sc := defScope sChk) (by decide +kernel)) ⟨rfl, by decide +kernel, rfl⟩
      (fun _ _ _ _ _ _ _ => pg_name (i := 1) scChk.nd rfl (.inl rfl)) (fun _ _ _ _ _ _ _ => pts_nil) (by decide) (fun _ _ _ _ _ _ _ => Gx.pi_tupK (K := K) rfl (pv 1)) (fun _ _ _ _ _ _ _ => pg_name (i := 2) scChk.nd rfl (.inl rfl)) (fun _ _ _ _ _ _ _ => pts_nil)
      (fun _ _ _ _ _ _ _ => pe_cmpR op_gt (pe_callB call_abs (by rfl) T.z_abs (by decide +kernel) (pa_cons (pv 2) pa_nil)) (pe_glob (v := .int 4) rfl M4 ⟨_, rfl⟩) (nomark _))))) pss_never pss_nil)), ?_⟩
    obtain ⟨a, bvs, rfl, ha, al⟩ := bk_all hb
    refine ⟨fun u H' => u = .bl false ∧ Ke Nof H H', fun u H1 ⟨e, k1⟩ => ?_, .ref a, rfl, a, rfl, ⟨_, .of ha⟩, tg, fun H1 tb => ?_⟩
    · subst e
      exact ⟨false, rfl, ite2 (fun e => absurd e (by simp)) fun _ => q H1 k1⟩
    · have k1 : Ke Nof H H1 := .tabbed tg tb
      refine Gx.aa2_it (walk_tup (K := K)) 8 (stopb := true) (Q := fun u H' => u = .bl false ∧ Ke Nof H H') (Pv := fun i H' => Ke Nof H H') k1 (fun i H' _ p => .of (p.tups _ _ ha)) ?_ (fun H' p => ⟨rfl, p⟩)
      rintro i x H2 H2' hi k2 ⟨rfl, hx⟩
      obtain ⟨cs, hcs, b, rfl, hb1⟩ := al.at hx
      obtain ⟨ic, ks⟩ := ib cs (List.mem_of_getElem? hcs)
      have hb2 := k2.tups _ _ hb1
      refine ⟨rfl, .ref b, rfl, b, rfl, ⟨_, .of hb2⟩, ?_⟩
      refine Gx.in2_it (stopb := true) (Q := fun u H' => u = .bl false ∧ Ke Nof H H') (vs1 := [2]) (walk_tup (K := K)) hi (by rw [List.length_map]; exact ic.len) (Pv := fun i H' => Ke Nof H H') (Pv1 := fun j H' => Ke Nof H H') k2 (fun j H' _ p => .of (p.tups _ _ hb1)) ?_ (fun H' p => p)
      rintro j y H3 H3' hj k3 ⟨rfl, hy⟩
      obtain ⟨s, hs, rfl⟩ := at_int hy
      have hk := ks s (List.mem_of_getElem? hs)
      refine ⟨rfl, _, rfl, s, rfl, _, _, rfl, rfl, .inr ⟨?_, k3⟩⟩
      exact congrArg V.bl (decide_eq_false (by split <;> omega))
end
end Chk
namespace Ltr
open PySem PySem.Spec PyProof.Rows L2 GxR Nw Dr Kp Se Ct Lr Dj Wtc To Ptc Lam Lwa Chk
structure Zlt (mg : Str → Option Value) : Prop where
  z_len : mg "len" = none
  z_enumerate : mg "enumerate" = none
/-- the claims in the order in which they are met -/
def k0 (l : List C) : List C := l.foldl (fun acc c => if c ∈ acc then acc else acc ++ [c]) []
theorem k0_snoc (l : List C) (c : C) : k0 (l ++ [c]) = if c ∈ k0 l then k0 l else k0 l ++ [c] := by
  unfold k0
  rw [List.foldl_append]
  rfl
theorem k0_acc (l : List C) : ∀ acc : List C, (∀ c, c ∈ l.foldl (fun acc c => if c ∈ acc then acc else acc ++ [c]) acc ↔ c ∈ acc ∨ c ∈ l) ∧ (acc.Nodup → (l.foldl (fun acc c => if c ∈ acc then acc else acc ++ [c]) acc).Nodup) := by
  induction l with
  | nil => exact fun acc => ⟨fun c => ⟨.inl, fun h => h.elim id fun z => nomatch z⟩, id⟩
  | cons d l ih =>
    intro acc
    obtain ⟨h1, h2⟩ := ih (if d ∈ acc then acc else acc ++ [d])
    by_cases e : d ∈ acc
    · rw [if_pos e] at h1 h2
      refine ⟨fun c => ?_, fun nd => by rw [List.foldl_cons, if_pos e]; exact h2 nd⟩
      rw [List.foldl_cons, if_pos e, h1, List.mem_cons]
      exact ⟨fun z => z.imp id .inr, fun z => z.elim .inl fun y => y.elim (fun w => .inl (w ▸ e)) .inr⟩
    · rw [if_neg e] at h1 h2
      refine ⟨fun c => ?_, fun nd => ?_⟩
      · rw [List.foldl_cons, if_neg e, h1, List.mem_append, List.mem_singleton, List.mem_cons, or_assoc]
      · rw [List.foldl_cons, if_neg e]
        refine h2 ?_
        rw [List.nodup_append]
        refine ⟨nd, by simp, fun a ha b hb w => ?_⟩
        rw [List.mem_singleton.mp hb] at w
        exact e (w ▸ ha)
theorem k0_mem {l : List C} {c : C} : c ∈ k0 l ↔ c ∈ l := ((k0_acc l []).1 c).trans ⟨fun h => h.elim (fun z => nomatch z) id, .inr⟩
theorem k0_nd (l : List C) : (k0 l).Nodup := (k0_acc l []).2 .nil
theorem k0_len (l : List C) : (k0 l).length ≤ l.length := F81.len_le _ _ (k0_nd l) fun c h => k0_mem.mp h
/-- a walk within a comprehension, whatever a turn does -/
theorem lcG {J : It} {n : Nat} {G : Hp → Prop} {Y : Nat → Hp → V → Hp → Prop} (w : Walk J n G Y) {Body : V → Hp → (Hp → Prop) → Prop} {H0 : Hp} {Qd : Hp → Prop} (Pv : Nat → Hp → Prop) (h0 : Pv 0 H0) (hG : ∀ i H, i ≤ n → Pv i H → G H)
    (hs : ∀ i x H H', i < n → Pv i H → Y i H x H' → Body x H' (Pv (i + 1))) (hd : ∀ H, Pv n H → Qd H) :
    ∃ W : Nat → Nat → Hp → Prop, (∃ m, W 0 m H0) ∧ ∀ i m H, W i m H → (J.stop i H ∧ Qd H) ∨ (J.go i H ∧ ∃ Nx : Hp → Prop, (∀ H', Nx H' → ∃ m', m' < m ∧ W (i + 1) m' H') ∧ ∀ x H', J.yld i H x H' → Body x H' Nx) := by
  refine ⟨fun i m H => m = n - i ∧ i ≤ n ∧ Pv i H, ⟨n, rfl, Nat.zero_le _, h0⟩, ?_⟩
  rintro i m H ⟨rfl, hi, p⟩
  have g := hG i H hi p
  rcases Nat.lt_or_ge i n with lt | ge
  · exact .inr ⟨w.goes i H lt g, Pv (i + 1), fun H' p' => ⟨n - (i + 1), by omega, rfl, lt, p'⟩, fun x H' y => hs i x H H' lt p (w.yields i H x H' lt g y)⟩
  · obtain rfl : i = n := by omega
    exact .inl ⟨w.stops H g, hd H p⟩
theorem walk_enumT {K : PySem.W.Frag} {a : Addr} {xs : List V} : Walk (En.ItE K a) xs.length (fun H => SqT K H a xs) (YPair (fun i => some (.int (i : Nat))) (fun i => xs[i]?)) := by
  refine ⟨fun i _ hi q => ⟨xs, xs[i], q, by simp [hi]⟩, fun _ q => ⟨xs, q, rfl⟩, fun i H v H' _ q y => ?_⟩
  obtain ⟨T, x, h1, h2, h3, h4⟩ := y
  exact ⟨T, .int (i : Nat), x, h1, h2, h3, rfl, h4 xs q⟩
theorem ke_fr {F : Addr → Prop} {H H' : Hp} {Pt : Addr} (k : Ke F H H') (h : ∀ b, F b → b = Pt ∨ Frs H b) : Ke (· = Pt) H H' :=
  ⟨fun b o e n m => k.keep b o e n fun z => (h b z).elim m fun fr => fr b o e n rfl, k.tabs, k.tups⟩
theorem ke_pt {H H' : Hp} {Pt : Addr} {qn : Str} (tx : TabX H Pt qn) (k : ∀ b o, b ≠ Pt → H b = some o → H' b = some o) : Ke (· = Pt) H H' := by
  obtain ⟨ps, hP, _⟩ := tx
  have nP : ∀ {b : Addr} {o : HO}, H b = some o → o ≠ TbX Pt ps → b ≠ Pt := fun {b o} e n z => by
    rw [z, hP] at e
    exact n (Option.some.inj e).symm
  obtain ⟨n1, n2, n3, n4⟩ := tbX_ne (a := Pt) (ps := ps)
  exact ⟨fun b o e _ m => k b o m e, fun Q ⟨qs, e, t⟩ => ⟨qs, k Q _ (nP e fun z => n4 _ z.symm) e, t⟩, fun b xs e => k b _ (nP e fun z => n1 _ z.symm) e⟩
theorem tabX_wr {H : Hp} {a N : Addr} {q : Str} {o u : HO} (x : TabX H a q) (h : H N = some o) (n1 : ∀ ps, o ≠ TbX a ps) (n2 : ∀ c, o ≠ LamX.CodeO c q) : TabX (upd H N u) a q := by
  obtain ⟨ps, h1, h2, h3⟩ := x
  refine ⟨ps, by rw [upd_ne (fun z => n1 ps (Option.some.inj (h.symm.trans ((congrArg H z.symm).trans h1))))]; exact h1, h2, fun pos cv hc => ?_⟩
  obtain ⟨c, e, n, hh⟩ := h3 pos cv hc
  exact ⟨c, e, n, by rw [upd_ne (fun z => n2 c (Option.some.inj (h.symm.trans ((congrArg H z.symm).trans hh))))]; exact hh⟩
/-- what has been gone through while the last one's pairs are -/
def PdL (dn : List C) (x : C) (t : List C) : C → C → Int → C → Prop := fun a b k c => (a ∈ dn ∧ b ∈ dn ∧ Comes a b k c) ∨ (((a = x ∧ b ∈ t) ∨ (a ∈ t ∧ b = x)) ∧ Comes a b k c)
theorem ke_wrF {F : Addr → Prop} {H H1 : Hp} {p : Addr} {od : Obj} {kvs : List (List Key × V)} {o : HO} (k : Ke F H H1) (fp : F p) (h1 : H1 p = some (.frz od (.dT kvs))) : Ke F H (upd H1 p o) := by
  refine ⟨fun b x e t m => ?_, fun Q hQ => ?_, fun b ys e => ?_⟩
  · rw [upd_ne (fun z => m (by rw [z]; exact fp))]
    exact k.keep b x e t m
  · obtain ⟨qs, e2, t2⟩ := k.tabs Q hQ
    exact ⟨qs, by rw [upd_ne (fun z => by rw [z, h1] at e2; cases e2)]; exact e2, t2⟩
  · have e2 := k.tups b ys e
    rw [upd_ne (fun z => by rw [z, h1] at e2; cases e2)]
    exact e2
theorem all_in {l m : List C} (nl : l.Nodup) (sub : ∀ c ∈ l, c ∈ m) (le : m.length ≤ l.length) : ∀ c ∈ m, c ∈ l := fun c hc => Classical.byContradiction fun z => by
  have := F81.len_le (c :: l) m (List.nodup_cons.mpr ⟨z, nl⟩) fun x hx => (List.mem_cons.mp hx).elim (fun e => e ▸ hc) (sub x)
  rw [List.length_cons] at this
  omega
def mD (N : Addr) : Hp → Nat := fun H => match H N with
  | some (.dT kvs) => 82 - kvs.length
  | _ => 0
theorem mD_dT {N : Addr} {H : Hp} {kvs : List (List Key × V)} (h : H N = some (.dT kvs)) : mD N H = 82 - kvs.length := by
  unfold mD
  rw [h]
section
variable {P : Program} {w : World} {K : PySem.W.Frag} {mg : Str → Option Value} {base : Heap}
abbrev sLtr : Stmt := topS 32
abbrev nLtr : List Str := ["book", "start", "above", "claim", "worths", "trees", "done", "other", "number"]
theorem scLtr : FnScope nLtr ["book", "start", "above"] (defScope sLtr) := ⟨rfl, rfl, rfl, by decide +kernel, rfl, by decide +kernel, by decide +kernel⟩
abbrev qLwa : Str := "least_waiting.<locals>.<lambda>"
def Few4 (c : C) : Prop := IsCl c ∧ ∀ k ∈ c, -4 ≤ k ∧ k ≤ 4
def spLtr {W : Type} (M : Wk W) (fa Po Pc Pt : Addr) : Sp := fun vs H Q _ => ∃ (v x0 : V) (css : List C), vs = [v, x0, .ref fa] ∧ Bk H v css ∧ (∀ c ∈ css, Few4 c) ∧ css.length ≤ 100 ∧ M.R H x0 M.A.st ∧ TabG H Po ∧ TabG H Pc ∧ TabX H Pt qLwa ∧
  ∀ (p D E : Addr) (ks : List C) (ws : C → Option W) (rs : C → Option Rc) (H' : Hp), Ke (· = Pt) H H' → TabX H' Pt qLwa → H' p = some (.tup [.ref D, .ref E]) → D ≠ E → Frs H D → Frs H E → WtT M H' D ks ws → RcT H' E ks rs → Fin M.A css ws rs → (∀ c ∈ ks, Few4 c) → ks.length ≤ 81 → Q (.ref p) H'
theorem few_come {a b c : C} {k : Int} (ha : Few4 a) (hb : Few4 b) (h : Comes a b k c) : Few4 c := by
  refine ⟨cl_comes ha.1 hb.1 h, fun j hj => ?_⟩
  obtain ⟨h1, _⟩ := (h.2.2.2.2.2 j).mp hj
  exact h1.elim (ha.2 j) (hb.2 j)
theorem ok_ltr {W : Type} {M : Wk W} (o : M.Ok) {f fC fL fP fa Po Pc Pt : Addr} {fd fdC fdL fdP : FuncData} {k : Nat} (F : Fun K "least_trees" "least_trees" sLtr f fd) (T : Zlt mg)
    (FC : Fun K "check_few_things" "check_few_things" sChk fC fdC) (bC : Binds K fdC ["book"] []) (gC : mg "check_few_things" = some (.ref fC)) (GC : FnOk P w K mg base CX0 3 fC fdC ["book"] (spChk Pc))
    (FL : Fun K "least_waiting" "least_waiting" sLwa fL fdL) (bL : Binds K fdL ["worths", "done"] []) (gL : mg "least_waiting" = some (.ref fL)) (GL : FnOk P w K mg base CX0 3 fL fdL ["worths", "done"] (spLwa M Pt qLwa))
    (FP : Fun K "put_cuts" "put_cuts" sPtc fP fdP) (bP : Binds K fdP ["worths", "trees", "above", "one", "other"] []) (gP : mg "put_cuts" = some (.ref fP)) (GP : FnOk P w K mg base CX0 6 fP fdP ["worths", "trees", "above", "one", "other"] (spPtc M fa Po)) :
    FnOk P w K mg base CX0 (k + 7) f fd ["book", "start", "above"] (spLtr M fa Po Pc Pt) := by
  refine F.ok scLtr (fun vs H Q E h => ?_) (fun cdv A outer s H vs Q E hr h => ?_)
  · obtain ⟨v, x0, css, rfl, _⟩ := h
    rfl
  · obtain ⟨v, x0, css, rfl, hb, ib, l100, hx0, tg, tc, tx, q⟩ := h
    have hr3 : Room 3 _ := hr.mono (by omega)
    have hr6 : Room 6 _ := hr.mono (by omega)
    refine ⟨_, (Evl.pss_cut (ps_expr (pe_call GC hr3 (by rfl) gC FC.kp bC .nil pass0 (pa_cons (pv 0) pa_nil)))
      (Evl.pss_cut (Dct.ps_setDcG (i := 4) (own := [("claim", 3)]) (g := (gName 3)) (tt := tYes) (Un.lt1 hr.units) Dct.emp_t rfl scLtr.nd rfl rfl (Dct.sw_trueD rfl rfl rfl (by decide +kernel)) (pi_tup (pv 0)) (blkOk_by (N := nLtr) (sc := defScope sLtr) (by decide +kernel)) (fun _ _ _ _ _ => (pg_name (i := 3) scLtr.nd rfl (.inl rfl))) (fun _ _ _ _ _ => pts_nil) (fun _ _ _ _ _ => (pv 3)) (fun _ _ _ _ _ => (pv 1)))
      (Evl.pss_cut (Dct.ps_setDcG (i := 5) (own := [("number", 8), ("claim", 3)]) (g := _) (tt := tYes) (Un.lt1 hr.units) Dct.emp_t rfl scLtr.nd rfl rfl (Dct.sw_trueD rfl rfl rfl (by decide +kernel)) (pi_enumT (by rfl) T.z_enumerate (pa_cons (pv 0) pa_nil)) (blkOk_by (N := nLtr) (sc := defScope sLtr) (by decide +kernel)) (fun _ _ _ _ _ => (pg_tupB (K := K) (n := 2) rfl rfl (pgs_cons (pg_name (i := 8) scLtr.nd rfl (.inl rfl)) (pgs_cons (pg_name (i := 3) scLtr.nd rfl (.inl rfl)) pgs_nil)))) (fun _ _ _ _ _ => pts_nil) (fun _ _ _ _ _ => (pv 3)) (fun _ _ _ _ _ => (pe_tupN (pa_cons pe_str (pa_cons (pv 8) pa_nil)))))
      (Evl.pss_cut (ps_set (i := 6) scLtr.nd rfl (.inl rfl) pe_dnewT)
      (Evl.pss_cut (ps_while PassesOwn.never (pt_cmpR op_lt (pe_callB call_len_dT (by rfl) T.z_len (by decide +kernel) (pa_cons (pv 6) pa_nil)) (pe_callB call_len_dT (by rfl) T.z_len (by decide +kernel) (pa_cons (pv 4) pa_nil)) (nomark _)) (Evl.pss_cut (ps_set (i := 3) scLtr.nd rfl (.inl rfl) (pe_call GL hr3 (by rfl) gL FL.kp bL .nil pass0 (pa_cons (pv 4) (pa_cons (pv 6) pa_nil))))
      (Evl.pss_cut (ps_dput (Un.lt1 hr.units) (pv 6) (pv 3) pe_bl rfl)
      (pss_one (ps_lock (ps_for PassesOwn.never rfl (pi_keys (pv 6)) (pg_name (i := 7) scLtr.nd rfl (.inl rfl)) (Evl.pss_cut (ps_expr (pe_call GP hr6 (by rfl) gP FP.kp bP .nil pass0 (pa_cons (pv 4) (pa_cons (pv 5) (pa_cons (pv 2) (pa_cons (pv 3) (pa_cons (pv 7) pa_nil)))))))
      (pss_one (ps_expr (pe_call GP hr6 (by rfl) gP FP.kp bP .nil pass0 (pa_cons (pv 4) (pa_cons (pv 5) (pa_cons (pv 2) (pa_cons (pv 7) (pa_cons (pv 3) pa_nil)))))))))))))))
      (pss_one (ps_ret (pe_tupN (pa_cons (pv 4) (pa_cons (pv 5) pa_nil)))))))))), ?_⟩
    obtain ⟨a, bvs, rfl, ha, al⟩ := bk_all hb
    -- check_few_things
    refine Evl.q_cut (M := fun σ' H' => σ' = [some (.ref a), some x0, some (.ref fa), none, none, none, none, none, none] ∧ Ke Nof H H') ?_ ?_
    · exact ⟨_, rfl, .ref a, css, rfl, hb, ib, tc, fun H1 k1 => ⟨rfl, k1⟩⟩
    rintro σ' H1 ⟨rfl, k1⟩
    have lc : ∀ {i : Nat} {cs : C}, css[i]? = some cs → css.take (i + 1) = css.take i ++ [cs] := fun h => Lp.take_snoc h
    have lk0 : ∀ i, (k0 (css.take i)).length ≤ 100 := fun i => by
      have := k0_len (css.take i)
      rw [List.length_take] at this
      omega
    -- worths
    refine Evl.q_cut (M := fun σ' H' => ∃ (D : Addr) (kvs : List (List Key × V)), σ' = [some (.ref a), some x0, some (.ref fa), none, some (.ref D), none, none, none, none] ∧ H1 D = none ∧ Ke Nof H1 H' ∧ H' D = some (.dT kvs) ∧ kvs.map (·.1) = (k0 css).map kT ∧ (∀ c ∈ css, valV kvs (kT c) = some x0) ∧ ∀ c, c ∉ css → valV kvs (kT c) = none) ?_ ?_
    · refine ⟨_, rfl, a, rfl, ⟨_, .of (k1.tups _ _ ha)⟩, fun D nD => ?_⟩
      refine lcG (walk_tup (K := K) (a := a) (xs := bvs)) (fun i G => Ke Nof H1 G ∧ ∃ kvs : List (List Key × V), G D = some (.dT kvs) ∧ kvs.map (·.1) = (k0 (css.take i)).map kT ∧ (∀ c ∈ css.take i, valV kvs (kT c) = some x0) ∧ ∀ c, c ∉ css.take i → valV kvs (kT c) = none) ⟨.same (same_new nD), [], upd_same, rfl, fun c h => (nomatch h), fun c _ => rfl⟩ (fun i G _ p => .of (p.1.tups _ _ (k1.tups _ _ ha))) ?_ ?_
      · rintro i x G G' hi ⟨kG, kvs, hD, hk, yes, no⟩ ⟨rfl, hx⟩
        obtain ⟨cs, hcs, b, rfl, hb1⟩ := al.at hx
        have hb2 := kG.tups _ _ (k1.tups _ _ hb1)
        have lk : kvs.length = (k0 (css.take i)).length := by
          have := congrArg List.length hk
          rwa [List.length_map, List.length_map] at this
        have := lk0 i
        refine ⟨rfl, _, rfl, _, rfl, _, DPut.t (k := kT cs) hD (by rw [kT_v]; exact hb2) (small1000 (by omega)), kG.upd nD, _, upd_same, ?_, fun c hc => ?_, fun c hc => ?_⟩
        · rw [put_keys hk cs x0, lc hcs, k0_snoc]
        · rw [valV_put]
          by_cases e : c = cs
          · rw [if_pos (by rw [e])]
          · rw [if_neg fun z => e (kT_inj z)]
            rw [lc hcs, List.mem_append, List.mem_singleton] at hc
            exact yes c (hc.resolve_right e)
        · rw [lc hcs, List.mem_append, List.mem_singleton] at hc
          rw [valV_put, if_neg fun z => hc (.inr (kT_inj z))]
          exact no c fun z => hc (.inl z)
      · rintro G ⟨kG, kvs, hD, hk, yes, no⟩
        rw [al.1, List.take_length] at hk yes no
        exact ⟨D, kvs, rfl, nD, kG, hD, hk, yes, no⟩
    rintro σ' H2 ⟨D, kvs, rfl, nD, k2, hD, hk, yes, no⟩
    have wt2 : ∀ {G : Hp}, Ke Nof H2 G → WtT M G D (k0 css) (fun c => if c ∈ css then some M.A.st else none) := fun {G} kG => by
      refine ⟨⟨kvs, kG.keep D _ hD (fun ps z => by cases z) fun z => z, hk, fun c h => ?_, fun c w h => ?_⟩, k0_nd css, fun c => ?_⟩
      · by_cases e : c ∈ css
        · rw [if_pos e] at h
          cases h
        · exact no c e
      · by_cases e : c ∈ css
        · rw [if_pos e] at h
          cases h
          exact ⟨x0, yes c e, o.tp hx0 fun a xs h => kG.tups _ _ (k2.tups _ _ (k1.tups _ _ h))⟩
        · rw [if_neg e] at h
          cases h
      · rw [k0_mem]
        by_cases e : c ∈ css
        · exact ⟨fun _ => ⟨_, if_pos e⟩, fun _ => e⟩
        · exact ⟨fun h => absurd h e, fun ⟨w, h⟩ => by rw [if_neg e] at h; cases h⟩
    have k12 := k1.trans k2
    -- trees
    refine Evl.q_cut (M := fun σ' H' => ∃ (E : Addr) (rs : C → Option Rc), σ' = [some (.ref a), some x0, some (.ref fa), none, some (.ref D), some (.ref E), none, none, none] ∧ H2 E = none ∧ Ke Nof H2 H' ∧ RcT H' E (k0 css) rs ∧ ∀ c ∈ css, ∃ n, rs c = some (.book n) ∧ css[n]? = some c) ?_ ?_
    · refine ⟨_, rfl, a, _, rfl, .of (k12.tups _ _ ha), fun E nE => ?_⟩
      refine lcG (walk_enumT (K := K) (a := a) (xs := bvs)) (fun i G => Ke Nof H2 G ∧ ∃ rs : C → Option Rc, RcT G E (k0 (css.take i)) rs ∧ ∀ c ∈ css.take i, ∃ n, rs c = some (.book n) ∧ css[n]? = some c) ⟨.same (same_new nE), fun _ => none, ⟨[], upd_same, rfl, fun c r h => by cases h⟩, fun c h => (nomatch h)⟩ (fun i G _ p => .of (p.1.tups _ _ (k12.tups _ _ ha))) ?_ ?_
      · rintro i x G G' hi ⟨kG, rs, ⟨rvs, hE, hkr, hat⟩, all⟩ ⟨T', y1, y2, rfl, nT, rfl, e1, hx⟩
        cases e1
        obtain ⟨cs, hcs, b, rfl, hb1⟩ := al.at hx
        have sT : Same G (upd G T' (.tup [.int (i : Nat), .ref b])) := same_new nT
        have hT : (upd G T' (.tup [.int (i : Nat), .ref b])) T' = some (.tup [.int (i : Nat), .ref b]) := upd_same
        generalize upd G T' (.tup [.int (i : Nat), .ref b]) = G1 at sT hT
        refine ⟨T', _, rfl, .of hT, rfl, _, _, rfl, _, _, rfl, rfl, rfl, _, rfl, _, rfl, by show 2 ≤ sizeLine; decide, fun t G2 nt s2 ht _ => ?_⟩
        have s02 := sT.trans s2
        have hb2 := s02 _ _ (kG.tups _ _ (k12.tups _ _ hb1))
        have hE2 := s02 _ _ hE
        have lk : rvs.length = (k0 (css.take i)).length := by
          have := congrArg List.length hkr
          rwa [List.length_map, List.length_map] at this
        have := lk0 i
        have up : ∀ {z : Addr} {xs : List V} {u : HO}, G2 z = some (.tup xs) → upd G2 E u z = some (.tup xs) := fun {z xs u} h => by
          rw [upd_ne (fun w => by rw [w, hE2] at h; cases h)]
          exact h
        refine ⟨_, DPut.t (k := kT cs) hE2 (by rw [kT_v]; exact hb2) (small1000 (by omega)), (kG.trans (.same s02)).upd nE, Dj.set rs cs (.book i), ⟨_, upd_same, ?_, fun d r hd => ?_⟩, fun d hd => ?_⟩
        · rw [put_keys hkr cs (.ref t), lc hcs, k0_snoc]
        · by_cases e : d = cs
          · rw [e, set_same] at hd
            cases hd
            rw [valV_put, if_pos (by rw [e])]
            exact ⟨t, rfl, up ht⟩
          · rw [set_ne e] at hd
            rw [valV_put, if_neg fun z => e (kT_inj z)]
            obtain ⟨y, h1, h2⟩ := hat d r hd
            exact ⟨y, h1, h2.tp fun z xs h => up (s02 _ _ h)⟩
        · by_cases e : d = cs
          · rw [e, set_same]
            exact ⟨i, rfl, hcs⟩
          · rw [set_ne e]
            rw [lc hcs, List.mem_append, List.mem_singleton] at hd
            exact all d (hd.resolve_right e)
      · rintro G ⟨kG, rs, rt, all⟩
        rw [al.1, List.take_length] at rt all
        exact ⟨E, rs, rfl, nE, kG, rt, all⟩
    rintro σ' H3 ⟨E, rs0, rfl, nE, k3, rt3, all0⟩
    -- done
    refine Evl.q_cut (M := fun σ' H' => ∃ N, σ' = [some (.ref a), some x0, some (.ref fa), none, some (.ref D), some (.ref E), some (.ref N), none, none] ∧ H3 N = none ∧ Ke Nof H3 H' ∧ H' N = some (.dT [])) ?_ ?_
    · exact fun N nN => ⟨N, rfl, nN, .same (same_new nN), upd_same⟩
    rintro σ' H4 ⟨N, rfl, nN, k4, hN4⟩
    have k14 := k12.trans (k3.trans k4)
    have nDE : D ≠ E := ne_of_none hD nE
    have hD3 : H3 D = some (.dT kvs) := k3.keep D _ hD (fun ps z => by cases z) fun z => z
    have nDN : D ≠ N := ne_of_none hD3 nN
    have nEN : E ≠ N := by
      obtain ⟨rvs, hE, _⟩ := rt3
      exact ne_of_none hE nN
    have frD : Frs H D := .ke0 k1 (.of nD)
    have frE : Frs H E := .ke0 k12 (.of nE)
    have frN : Frs H N := .ke0 (k12.trans k3) (.of nN)
    have tx4 : TabX H4 Pt qLwa := tx.ke k14 (fun z => z) fun c _ z => z
    have rt4 : RcT H4 E (k0 css) rs0 := rt3.tp k4.tups (by obtain ⟨rvs, hE, _⟩ := rt3; rw [hE]; exact k4.keep E _ hE (fun ps z => by cases z) fun z => z)
    have wt4 := wt2 (k3.trans k4)
    have I0 : Inv M.A css (fun c => if c ∈ css then some M.A.st else none) rs0 [] (fun a b k c => a ∈ ([] : List C) ∧ b ∈ ([] : List C) ∧ Comes a b k c) := by
      refine ⟨fun c hc => ⟨_, if_pos hc, o.ok.re _⟩, .nil, fun c h => (nomatch h), fun d h => (nomatch h), fun c w h => ?_, fun a b k c h => absurd h.1 (by simp)⟩
      by_cases e : c ∈ css
      · rw [if_pos e] at h
        cases h
        obtain ⟨n, h1, h2⟩ := all0 c e
        exact .inl ⟨n, h1, h2, rfl⟩
      · rw [if_neg e] at h
        cases h
    have few0 : ∀ c ∈ k0 css, Few4 c := fun c hc => ib c (k0_mem.mp hc)
    -- the loop
    refine Evl.q_cut (M := fun σ' G => ∃ (y3 y7 : Option V) (ks : List C) (ws : C → Option W) (rs : C → Option Rc), σ' = [some (.ref a), some x0, some (.ref fa), y3, some (.ref D), some (.ref E), some (.ref N), y7, none] ∧ Ke (fun b => b = D ∨ b = E ∨ b = N ∨ b = Pt) H G ∧ WtT M G D ks ws ∧ RcT G E ks rs ∧ Fin M.A css ws rs ∧ TabX G Pt qLwa ∧ (∀ c ∈ ks, Few4 c) ∧ ks.length ≤ 81) ?_ ?_
    · refine while_by (fun σ G => ∃ (y3 y7 : Option V) (ks : List C) (ws : C → Option W) (rs : C → Option Rc) (dn : List C) (dvs : List (List Key × V)), σ = [some (.ref a), some x0, some (.ref fa), y3, some (.ref D), some (.ref E), some (.ref N), y7, none] ∧ Ke (fun b => b = D ∨ b = E ∨ b = N ∨ b = Pt) H G ∧ WtT M G D ks ws ∧ RcT G E ks rs ∧ G N = some (.dT dvs) ∧ dvs.map (·.1) = dn.map kT ∧ Inv M.A css ws rs dn (fun a b k c => a ∈ dn ∧ b ∈ dn ∧ Comes a b k c) ∧ TabX G Pt qLwa ∧ ∀ c ∈ ks, Few4 c) (fun _ G => mD N G) ?_ ?_ ?_
      · exact ⟨none, none, _, _, _, [], [], rfl, k14.all, wt4, rt4, hN4, rfl, I0, tx4, few0⟩
      · rintro σ G ⟨y3, y7, ks, ws, rs, dn, dvs, rfl, kG, wt, rt, hN, hdk, I, txG, few⟩
        obtain ⟨⟨wvs, hDG, hwk, _⟩, wnd, wme⟩ := id wt
        have lw : wvs.length = ks.length := by
          have := congrArg List.length hwk
          rwa [List.length_map, List.length_map] at this
        have ld : dvs.length = dn.length := by
          have := congrArg List.length hdk
          rwa [List.length_map, List.length_map] at this
        have l81 := F81.few81 wnd few
        have sub : ∀ c ∈ dn, c ∈ ks := fun c hc => (wme c).mpr (I.dk c hc)
        have ld81 := F81.len_le dn ks I.nd sub
        refine ⟨_, rfl, N, dvs, rfl, hN, _, rfl, D, wvs, rfl, hDG, _, _, rfl, rfl, _, rfl, ite2 (fun e => ?_) (fun e => ?_)⟩
        · have lt : dn.length < ks.length := by
            have := of_decide_eq_true e
            omega
          have ex : ∃ c ∈ ks, c ∉ dn := Classical.byContradiction fun z => by
            have := F81.len_le ks dn wnd fun c hc => Classical.byContradiction fun y => z ⟨c, hc, y⟩
            omega
          -- the one that waits with the least
          refine Evl.q_cut (M := fun σ' G' => ∃ (p : Addr) (x : C) (wx : W), σ' = [some (.ref a), some x0, some (.ref fa), some (.ref p), some (.ref D), some (.ref E), some (.ref N), y7, none] ∧ (∀ b o, b ≠ Pt → G b = some o → G' b = some o) ∧ TabX G' Pt qLwa ∧ G' p = some (.tup (x.map V.int)) ∧ x ∈ ks ∧ x ∉ dn ∧ ws x = some wx ∧ ∀ c, c ∉ dn → ∀ w, ws c = some w → M.A.le wx w) ?_ ?_
          · exact ⟨_, rfl, _, rfl, D, N, ks, dn, ws, dvs, rfl, nDN, wt, hN, hdk, txG, by omega, ex, fun p x wx H' kk tx' hp mx nx ux mn => ⟨p, x, wx, rfl, kk, tx', hp, mx, nx, ux, mn⟩⟩
          rintro σ' G1 ⟨p, x, wx, rfl, kk, tx1, hp, mx, nx, ux, mn⟩
          have nPt : ∀ {b : Addr} {o : HO}, G b = some o → (∀ ps, o ≠ TbX Pt ps) → b ≠ Pt := fun {b o} h n z => by
            obtain ⟨ps, h1, _⟩ := txG
            rw [z, h1] at h
            exact n ps (Option.some.inj h).symm
          have nx1 : ∀ {xs : List V} ps, HO.tup xs ≠ TbX Pt ps := fun {xs} ps z => tbX_ne.1 xs z.symm
          have nxd : ∀ {z : List (List Key × V)} {b : Addr} ps, HO.dT z ≠ TbX b ps := fun {z b} ps e => by unfold TbX at e; cases e
          have nxf : ∀ {od : Obj} {z : List (List Key × V)} ps, HO.frz od (.dT z) ≠ TbX Pt ps := fun {od z} ps e => by unfold TbX at e; cases e
          have tups1 : ∀ b xs, G b = some (.tup xs) → G1 b = some (.tup xs) := fun b xs h => kk b _ (nPt h nx1) h
          have hN1 : G1 N = some (.dT dvs) := kk N _ (nPt hN nxd) hN
          have wt1 : WtT M G1 D ks ws := wt.tp o tups1 (by rw [hDG]; exact kk D _ (nPt hDG nxd) hDG)
          have rt1 : RcT G1 E ks rs := rt.tp tups1 (by obtain ⟨rvs, hE, _⟩ := rt; rw [hE]; exact kk E _ (nPt hE nxd) hE)
          have kG1 : Ke (fun b => b = D ∨ b = E ∨ b = N ∨ b = Pt) H G1 := kG.trans ((ke_pt txG kk).mono fun b z => .inr (.inr (.inr z)))
          obtain ⟨I1, tx2⟩ := I.pick o.ok nx ux mn
          -- done[claim] = True
          refine Evl.q_cut (M := fun σ' G' => σ' = [some (.ref a), some x0, some (.ref fa), some (.ref p), some (.ref D), some (.ref E), some (.ref N), y7, none] ∧ G' = upd G1 N (.dT (putK dvs (kT x) (.bl true)))) ?_ ?_
          · exact ⟨_, rfl, _, rfl, N, _, rfl, DPut.t (k := kT x) hN1 (by rw [kT_v]; exact hp) (small1000 (by omega)), rfl, rfl⟩ -- PUT
          rintro σ' G2 ⟨rfl, rfl⟩
          have hdk2 : (putK dvs (kT x) (.bl true)).map (·.1) = (dn ++ [x]).map kT := by
            rw [put_keys hdk x (.bl true), if_neg nx]
          generalize putK dvs (kT x) (.bl true) = dvs2 at hdk2 ⊢
          have ld2 : dvs2.length = dn.length + 1 := by
            have := congrArg List.length hdk2
            rwa [List.length_map, List.length_map, List.length_append, List.length_singleton] at this
          have kG2 : Ke (fun b => b = D ∨ b = E ∨ b = N ∨ b = Pt) H (upd G1 N (.dT dvs2)) := ke_wrT kG1 (.inr (.inr (.inl rfl))) hN1
          -- for other in done
          refine ⟨N, _, upd_same, trivial, fun od => ?_⟩
          have kGf : Ke (fun b => b = D ∨ b = E ∨ b = N ∨ b = Pt) H (upd (upd G1 N (.dT dvs2)) N (.frz od (.dT dvs2))) := ke_wrT kG2 (.inr (.inr (.inl rfl))) upd_same
          have hNf : (upd (upd G1 N (.dT dvs2)) N (.frz od (.dT dvs2))) N = some (.frz od (.dT dvs2)) := upd_same
          have upf : ∀ z xs, G1 z = some (.tup xs) → (upd (upd G1 N (.dT dvs2)) N (.frz od (.dT dvs2))) z = some (.tup xs) := fun z xs h => by
            have n : z ≠ N := fun w => by rw [w, hN1] at h; cases h
            rw [upd_ne n, upd_ne n]
            exact h
          have wtf : WtT M (upd (upd G1 N (.dT dvs2)) N (.frz od (.dT dvs2))) D ks ws := wt1.tp o upf (by rw [upd_ne nDN, upd_ne nDN])
          have rtf : RcT (upd (upd G1 N (.dT dvs2)) N (.frz od (.dT dvs2))) E ks rs := rt1.tp upf (by rw [upd_ne nEN, upd_ne nEN])
          have txf : TabX (upd (upd G1 N (.dT dvs2)) N (.frz od (.dT dvs2))) Pt qLwa := tabX_wr (tabX_wr tx1 hN1 nxd fun c z => by cases z) upd_same nxd fun c z => by cases z
          have hpf := upf _ _ hp
          generalize upd (upd G1 N (.dT dvs2)) N (.frz od (.dT dvs2)) = Hf at kGf hNf wtf rtf txf hpf ⊢
          have xm : x ∈ dn ++ [x] := List.mem_append.mpr (.inr (List.mem_singleton_self x))
          have fewd : ∀ d ∈ dn ++ [x], Few4 d := fun d hd => few d ((List.mem_append.mp hd).elim (sub d) fun z => List.mem_singleton.mp z ▸ mx)
          have keepN : ∀ {G : Hp}, Ke (fun b => b = D ∨ b = E) Hf G → G N = some (.frz od (.dT dvs2)) := fun k => k.keep N _ hNf (fun ps z => by cases z) fun z => z.elim (fun e => nDN e.symm) fun e => nEN e.symm
          have tgf : TabG Hf Po := kGf.tabs _ tg
          refine ⟨_, rfl, N, od, rfl, .inr ⟨dvs2, hNf, for_it walk_keysT (Pv := fun i σ G => ∃ (y7 : Option V) (ks' : List C) (ws' : C → Option W) (rs' : C → Option Rc), σ = [some (.ref a), some x0, some (.ref fa), some (.ref p), some (.ref D), some (.ref E), some (.ref N), y7, none] ∧ Ke (fun b => b = D ∨ b = E) Hf G ∧ WtT M G D ks' ws' ∧ RcT G E ks' rs' ∧ Inv M.A css ws' rs' (dn ++ [x]) (PdL dn x ((dn ++ [x]).take i)) ∧ (∀ c ∈ ks', Few4 c) ∧ ∀ d ∈ dn ++ [x], ws' d = ws d) ?_ (fun i σ G _ p => by obtain ⟨_, _, _, _, _, k, _⟩ := p; exact keepN k) ?_ ?_⟩⟩
          · exact ⟨y7, ks, ws, rs, rfl, .refl _ _, wtf, rtf, inv_mono I1 fun a b k c z => z.elim id fun y => absurd y.1 (by rintro (y | y) <;> simp at y), few, fun _ _ => rfl⟩
          · rintro i xv σ G0' G3 hi ⟨y7', ks', ws', rs', rfl, k3', wt3, rt3', I3, few3, old⟩ ⟨rfl, kx, v, q0, hkv, rfl, hq⟩
            obtain ⟨d, hd, rfl⟩ : ∃ d, (dn ++ [x])[i]? = some d ∧ kx = kT d := by
              have e : (dvs2.map (·.1))[i]? = some kx := by rw [List.getElem?_map, hkv]; rfl
              rw [hdk2, List.getElem?_map] at e
              obtain ⟨ci, h1, h2⟩ := Option.map_eq_some_iff.mp e
              exact ⟨ci, h1, h2.symm⟩
            rw [kT_v] at hq
            have dm := List.mem_of_getElem? hd
            have l81' := F81.few81 wt3.nd few3
            have hp3 := k3'.tups _ _ hpf
            have tk := Lp.take_snoc hd
            have bd : ∀ {ws2 : C → Option W}, (∀ d ∈ dn ++ [x], ws2 d = ws d) → ∀ d ∈ dn ++ [x], ∀ w, ws2 d = some w → M.A.le w wx := fun h d hd w hw => tx2 d hd w ((h d hd).symm.trans hw)
            refine Evl.q_cut (M := fun σ' G' => ∃ (ks' : List C) (ws' : C → Option W) (rs' : C → Option Rc), σ' = [some (.ref a), some x0, some (.ref fa), some (.ref p), some (.ref D), some (.ref E), some (.ref N), some (.ref q0), none] ∧ Ke (fun b => b = D ∨ b = E) G3 G' ∧ WtT M G' D ks' ws' ∧ RcT G' E ks' rs' ∧ Inv M.A css ws' rs' (dn ++ [x]) (fun a' b' k' c' => PdL dn x ((dn ++ [x]).take i) a' b' k' c' ∨ (a' = x ∧ b' = d ∧ Comes x d k' c')) ∧ (∀ c ∈ ks', Few4 c) ∧ ∀ d ∈ dn ++ [x], ws' d = ws d) ?_ ?_
            · exact ⟨_, rfl, _, rfl, _, rfl, _, rfl, _, rfl, D, E, p, q0, css, ks', ws', rs', dn ++ [x], _, x, d, x, wx, rfl, nDE, wt3, rt3', I3, xm, (old x xm).trans ux, bd old, hp3, hq, xm, dm, .inl rfl, (fewd x xm).1, (fewd d dm).1, by omega, k3'.tabs _ tgf, fun ks2 ws2 rs2 G4 k4 wt4 rt4 I4 sub4 sup4 old4 len4 => ⟨ks2, ws2, rs2, rfl, k4, wt4, rt4, I4, fun c hc => (sub4 c hc).elim (few3 c) fun ⟨k, cm⟩ => few_come (fewd x xm) (fewd d dm) cm, fun e he => (old4 e he).trans (old e he)⟩⟩
            rintro σ' G4 ⟨ks4, ws4, rs4, rfl, k34, wt4, rt4, I4, few4, old4⟩
            have l81'' := F81.few81 wt4.nd few4
            have hp4 := k34.tups _ _ hp3
            have hq4 := k34.tups _ _ hq
            refine ⟨_, rfl, _, rfl, _, rfl, _, rfl, _, rfl, D, E, q0, p, css, ks4, ws4, rs4, dn ++ [x], _, d, x, x, wx, rfl, nDE, wt4, rt4, I4, xm, (old4 x xm).trans ux, bd old4, hq4, hp4, dm, xm, .inr rfl, (fewd d dm).1, (fewd x xm).1, by omega, (k3'.trans k34).tabs _ tgf, fun ks5 ws5 rs5 G5 k5 wt5 rt5 I5 sub5 sup5 old5 len5 => ⟨some (.ref q0), ks5, ws5, rs5, rfl, (k3'.trans k34).trans k5, wt5, rt5, inv_mono I5 fun a' b' k' c' z => ?_, fun c hc => (sub5 c hc).elim (few4 c) fun ⟨k, cm⟩ => few_come (fewd d dm) (fewd x xm) cm, fun e he => (old5 e he).trans (old4 e he)⟩⟩
            rw [tk] at z
            rcases z with z | ⟨z, cm⟩
            · exact .inl (.inl (.inl z))
            · rcases z with ⟨e1, e2⟩ | ⟨e1, e2⟩
              · rcases List.mem_append.mp e2 with y | y
                · exact .inl (.inl (.inr ⟨.inl ⟨e1, y⟩, cm⟩))
                · have y := List.mem_singleton.mp y
                  exact .inl (.inr ⟨e1, y, by rw [← e1, ← y]; exact cm⟩)
              · rcases List.mem_append.mp e1 with y | y
                · exact .inl (.inl (.inr ⟨.inr ⟨y, e2⟩, cm⟩))
                · have y := List.mem_singleton.mp y
                  exact .inr ⟨y, e2, by rw [← e2, ← y]; exact cm⟩
          · rintro σ G3 ⟨y7', ks', ws', rs', rfl, k3', wt3, rt3', I3, few3, old⟩
            have hN3 := keepN k3'
            have up3 : ∀ z xs, G3 z = some (.tup xs) → (upd G3 N (.dT dvs2)) z = some (.tup xs) := fun z xs h => by
              rw [upd_ne (fun w => by rw [w, hN3] at h; cases h)]
              exact h
            have lal : dvs2.length = (dn ++ [x]).length := by rw [List.length_append, List.length_singleton, ld2]
            have kH3 : Ke (fun b => b = D ∨ b = E ∨ b = N ∨ b = Pt) H G3 := kGf.trans (k3'.mono fun b z => z.imp id .inl)
            have nDf : ∀ c, LamX.CodeO c qLwa ≠ HO.frz od (.dT dvs2) := fun c z => by cases z
            obtain ⟨⟨wv3, hD3', _⟩, _⟩ := id wtf
            obtain ⟨rv3, hE3', _⟩ := id rtf
            have tx3 : TabX G3 Pt qLwa := txf.ke k3' (fun z => by
              obtain ⟨ps, h1, _⟩ := txf
              rcases z with z | z
              · rw [z, hD3'] at h1
                exact nxd _ (Option.some.inj h1)
              · rw [z, hE3'] at h1
                exact nxd _ (Option.some.inj h1)) fun c hc z => by
              rcases z with z | z
              · rw [z, hD3'] at hc
                cases hc
              · rw [z, hE3'] at hc
                cases hc
            refine ⟨hN3, ⟨some (.ref p), y7', ks', ws', rs', dn ++ [x], dvs2, rfl, ke_wrF kH3 (.inr (.inr (.inl rfl))) hN3, wt3.tp o up3 (upd_ne nDN), rt3'.tp up3 (upd_ne nEN), upd_same, hdk2, inv_mono I3 fun a b k c z => ?_, tabX_wr tx3 hN3 nxf (fun c z => by cases z), few3⟩, ?_⟩
            · obtain ⟨ha, hb, cm⟩ := z
              rw [lal, List.take_length]
              by_cases e1 : a = x
              · exact .inr ⟨.inl ⟨e1, hb⟩, cm⟩
              · by_cases e2 : b = x
                · exact .inr ⟨.inr ⟨ha, e2⟩, cm⟩
                · exact .inl ⟨(List.mem_append.mp ha).resolve_right fun y => e1 (List.mem_singleton.mp y), (List.mem_append.mp hb).resolve_right fun y => e2 (List.mem_singleton.mp y), cm⟩
            · show mD N (upd G3 N (.dT dvs2)) < mD N G
              rw [mD_dT upd_same, mD_dT hN]
              omega
        · have al : ∀ c ∈ ks, c ∈ dn := all_in I.nd sub (by
            have : ¬ decide (((dvs.length : Nat) : Int) < ((wvs.length : Nat) : Int)) = true := e
            rw [decide_eq_true_iff] at this
            omega)
          exact ⟨y3, y7, ks, ws, rs, rfl, kG, wt, rt, I.fin o.ok (fun c w h => al c ((wme c).mpr ⟨w, h⟩)) (fun a b k c ha hb cm => ⟨ha, hb, cm⟩), txG, few, l81⟩
      · rintro σ H0 Q1 Q2 hq ⟨v, e, p, ys, e1, e2, w, e3, p2, ys2, e4, e5, i, j, e6, e7, b, e8, z⟩
        exact ⟨v, e, p, ys, e1, e2, w, e3, p2, ys2, e4, e5, i, j, e6, e7, b, e8, hq _ _ z⟩
    rintro σ' G ⟨y3, y7, ks, ws, rs, rfl, kG, wt, rt, fin, txG, few, l81⟩
    refine ⟨_, rfl, _, rfl, by show 2 ≤ sizeLine; decide, fun p G' np s' hp _ => ?_⟩
    have hk' := ke_fr (Pt := Pt) kG fun b z => by
      rcases z with z | z | z | z
      · exact .inr (z ▸ frD)
      · exact .inr (z ▸ frE)
      · exact .inr (z ▸ frN)
      · exact .inl z
    exact q p D E ks ws rs G' (hk'.trans (.same s')) (txG.ke (Ke.same (F := Nof) s') (fun z => z) fun c _ z => z) hp nDE frD frE (wt.tp o (fun z xs h => s' _ _ h) (by obtain ⟨⟨wvs, hDG, _⟩, _⟩ := wt; rw [hDG]; exact s' _ _ hDG)) (rt.tp (fun z xs h => s' _ _ h) (by obtain ⟨rvs, hE, _⟩ := rt; rw [hE]; exact s' _ _ hE)) fin few l81
end
end Ltr
namespace Lbc
open PySem PySem.Spec PyProof.Rows L2 GxR Nw Dr Kp Se Ct Lr Dj Wtc To Ptc Lam Lwa Chk Ltr
section
variable {P : Program} {w : World} {K : PySem.W.Frag} {mg : Str → Option Value} {base : Heap}
abbrev sLbc : Stmt := topS 33
theorem scLbc : FnScope ["book"] ["book"] (defScope sLbc) := ⟨rfl, rfl, rfl, by decide +kernel, rfl, by decide +kernel, by decide +kernel⟩
/-- a book of few things -/
structure FewB (H : Hp) (v : V) (css : List C) : Prop where
  bk : Bk H v css
  few : ∀ c ∈ css, Few4 c
  len : css.length ≤ 100
theorem FewB.ke {F : Addr → Prop} {H H' : Hp} {v : V} {css : List C} (h : FewB H v css) (k : Ke F H H') : FewB H' v css := ⟨h.bk.ke k, h.few, h.len⟩
def spLbc (Po Pc Pt : Addr) : Sp := fun vs H Q _ => ∃ (v : V) (css : List C), vs = [v] ∧ FewB H v css ∧ TabG H Po ∧ TabG H Pc ∧ TabX H Pt qLwa ∧
  ∀ (p D E : Addr) (ks : List C) (ws : C → Option (Nat × Nat)) (rs : C → Option Rc) (H' : Hp), Ke (· = Pt) H H' → TabX H' Pt qLwa → H' p = some (.tup [.ref D, .ref E]) → D ≠ E → Frs H D → Frs H E → WtT mC H' D ks ws → RcT H' E ks rs → Fin aC css ws rs → (∀ c ∈ ks, Few4 c) → ks.length ≤ 81 → Q (.ref p) H'
theorem ok_lbc {f fL fa Po Pc Pt : Addr} {fd fdL : FuncData} {k : Nat} (F : Fun K "least_by_cuts" "least_by_cuts" sLbc f fd) (FL : Fun K "least_trees" "least_trees" sLtr fL fdL) (bL : Binds K fdL ["book", "start", "above"] []) (gL : mg "least_trees" = some (.ref fL)) (gA : mg "cuts_and_height" = some (.ref fa))
    (GL : FnOk P w K mg base CX0 7 fL fdL ["book", "start", "above"] (spLtr mC fa Po Pc Pt)) : FnOk P w K mg base CX0 (k + 8) f fd ["book"] (spLbc Po Pc Pt) := by
  refine F.ok scLbc (fun vs H Q E h => ?_) (fun cdv A outer s H vs Q E hr h => ?_)
  · obtain ⟨v, css, rfl, _⟩ := h
    rfl
  · obtain ⟨v, css, rfl, fb, tg, tc, tx, q⟩ := h
    have hr7 : Room 7 _ := hr.mono (by omega)
    refine ⟨_, (pss_one (ps_ret (pe_call GL hr7 (by rfl) gL FL.kp bL .nil pass0 (pa_cons (pv 0) (pa_cons (pe_tupN (pa_cons pe_int (pa_cons pe_int pa_nil))) (pa_cons (pe_glob (v := .ref fa) rfl gA rfl) pa_nil)))))), ?_⟩
    refine ⟨_, rfl, by show 2 ≤ sizeLine; decide, fun z H1 nz s1 hz _ => ?_⟩
    have k1 : Ke Nof H H1 := .same s1
    exact ⟨v, .ref z, css, rfl, fb.bk.ke k1, fb.few, fb.len, ⟨z, rfl, hz⟩, k1.tabs _ tg, k1.tabs _ tc, tx.ke k1 (fun z => z) fun c _ z => z, fun p D E ks ws rs H2 k2 tx2 hp nDE fD fE wt rt fin few l81 => q p D E ks ws rs H2 (k1.all.trans k2) tx2 hp nDE (fD.ke0 k1) (fE.ke0 k1) wt rt fin few l81⟩
abbrev sLcs : Stmt := topS 34
abbrev nLcs : List Str := ["book", "worths", "claim"]
theorem scLcs : FnScope nLcs ["book"] (defScope sLcs) := ⟨rfl, rfl, rfl, by decide +kernel, rfl, by decide +kernel, by decide +kernel⟩
/-- the fewest cuts of what comes -/
def spLcs (Po Pc Pt : Addr) : Sp := fun vs H Q _ => ∃ (v : V) (css : List C), vs = [v] ∧ FewB H v css ∧ TabG H Po ∧ TabG H Pc ∧ TabX H Pt qLwa ∧
  ∀ (D : Addr) (ks : List C) (ws : C → Option (Nat × Nat)) (rs : C → Option Rc) (H' : Hp), Ke (· = Pt) H H' → TabX H' Pt qLwa → Frs H D → WtT mH H' D ks (fun c => (ws c).map (·.1)) → Fin aC css ws rs → (∀ c ∈ ks, Few4 c) → ks.length ≤ 81 → Q (.ref D) H'
theorem ok_lcs {f fB Po Pc Pt : Addr} {fd fdB : FuncData} {k : Nat} (F : Fun K "least_cuts" "least_cuts" sLcs f fd) (FB : Fun K "least_by_cuts" "least_by_cuts" sLbc fB fdB) (bB : Binds K fdB ["book"] []) (gB : mg "least_by_cuts" = some (.ref fB))
    (GB : FnOk P w K mg base CX0 8 fB fdB ["book"] (spLbc Po Pc Pt)) : FnOk P w K mg base CX0 (k + 9) f fd ["book"] (spLcs Po Pc Pt) := by
  refine F.ok scLcs (fun vs H Q E h => ?_) (fun cdv A outer s H vs Q E hr h => ?_)
  · obtain ⟨v, css, rfl, _⟩ := h
    rfl
  · obtain ⟨v, css, rfl, fb, tg, tc, tx, q⟩ := h
    have hr8 : Room 8 _ := hr.mono (by omega)
    refine ⟨_, (Evl.pss_cut (ps_set (i := 1) scLcs.nd rfl (.inr rfl) (pe_ix ix_tup (pe_call GB hr8 (by rfl) gB FB.kp bB .nil pass0 (pa_cons (pv 0) pa_nil)) pe_int (fun _ _ => rfl)))
      (pss_one (ps_lock (ps_ret (Dct.pe_dcG (own := [("claim", 2)]) (g := (gName 2)) (tt := tYes) (Un.lt1 hr.units) Dct.emp_t rfl scLcs.nd  (pi_keys (pv 1)) (blkOk_by (N := nLcs) (sc := defScope sLcs) (by decide +kernel)) (fun _ _ _ _ _ => (pg_name (i := 2) scLcs.nd rfl (.inl rfl))) (fun _ _ _ _ _ => pts_nil) (fun _ _ _ _ _ => (pv 2)) (fun _ _ _ _ _ => (pe_ix (ix_tupB (K := K) rfl) (pe_dget (Un.lt1 hr.units) (pv 1) (pv 2) (fun _ _ => rfl)) pe_int (fun _ _ => rfl)))))))), ?_⟩
    refine Evl.q_cut (M := fun σ' H' => ∃ (D : Addr) (ks : List C) (ws : C → Option (Nat × Nat)) (rs : C → Option Rc), σ' = [some v, some (.ref D), none] ∧ Ke (· = Pt) H H' ∧ TabX H' Pt qLwa ∧ Frs H D ∧ WtT mC H' D ks ws ∧ Fin aC css ws rs ∧ (∀ c ∈ ks, Few4 c) ∧ ks.length ≤ 81) ?_ ?_
    · exact ⟨_, rfl, v, css, rfl, fb, tg, tc, tx, fun p D E ks ws rs H1 k1 tx1 hp nDE fD fE wt rt fin few l81 => ⟨p, _, 0, .ref D, rfl, rfl, .of hp, rfl, D, ks, ws, rs, rfl, k1, tx1, fD, wt, fin, few, l81⟩⟩
    rintro σ' H1 ⟨D, ks, ws, rs, rfl, k1, tx1, fD, wt, fin, few, l81⟩
    obtain ⟨⟨kvs, hD, hk, hno, hat⟩, nd, me⟩ := id wt
    refine ⟨D, _, hD, trivial, fun od => ?_⟩
    have hDf : (upd H1 D (.frz od (.dT kvs))) D = some (.frz od (.dT kvs)) := upd_same
    have kf : Ke (fun b => b = D ∨ b = Pt) H (upd H1 D (.frz od (.dT kvs))) := ke_wrT (k1.mono fun b z => .inr z) (.inl rfl) hD
    have upf : ∀ z xs, H1 z = some (.tup xs) → (upd H1 D (.frz od (.dT kvs))) z = some (.tup xs) := fun z xs h => by
      rw [upd_ne (fun w => by rw [w, hD] at h; cases h)]
      exact h
    have txf : TabX (upd H1 D (.frz od (.dT kvs))) Pt qLwa := tabX_wr tx1 hD (fun ps z => by unfold TbX at z; cases z) fun c z => by cases z
    generalize upd H1 D (.frz od (.dT kvs)) = Hf at hDf kf upf txf ⊢
    refine ⟨_, rfl, D, od, rfl, .inr ⟨kvs, hDf, fun Z nZ => ?_⟩⟩
    have lk : kvs.length = ks.length := by
      have := congrArg List.length hk
      rwa [List.length_map, List.length_map] at this
    refine lcG walk_keysT (fun i G => Same Hf G ∧ ∃ nvs : List (List Key × V), G Z = some (.dT nvs) ∧ nvs.map (·.1) = (ks.take i).map kT ∧ (∀ c u, c ∈ ks.take i → ws c = some u → valV nvs (kT c) = some (.int (u.1 : Nat))) ∧ ∀ c, c ∉ ks.take i → valV nvs (kT c) = none) ⟨same_new nZ, [], upd_same, rfl, fun c u h => (nomatch h), fun c _ => rfl⟩ (fun i G _ p => p.1 _ _ hDf) ?_ ?_
    · rintro i x G0 G hi ⟨sG, nvs, hZ, hkn, yes, no⟩ ⟨rfl, kx, v1, q0, hkv, rfl, hq⟩
      obtain ⟨c, hc, rfl⟩ : ∃ c, ks[i]? = some c ∧ kx = kT c := by
        have e : (kvs.map (·.1))[i]? = some kx := by rw [List.getElem?_map, hkv]; rfl
        rw [hk, List.getElem?_map] at e
        obtain ⟨ci, h1, h2⟩ := Option.map_eq_some_iff.mp e
        exact ⟨ci, h1, h2.symm⟩
      rw [kT_v] at hq
      obtain ⟨u, hu⟩ := (me c).mp (List.mem_of_getElem? hc)
      obtain ⟨xv, gx, ⟨b, rfl, hb⟩⟩ := hat c u hu
      have tk := Lp.take_snoc hc
      have nc : c ∉ ks.take i := fun z => by
        have h1 : (ks.take (i + 1)).Nodup := nd.sublist (List.take_sublist _ _)
        rw [tk, List.nodup_append] at h1
        exact h1.2.2 c z c (List.mem_singleton_self c) rfl
      have ln : nvs.length = (ks.take i).length := by
        have := congrArg List.length hkn
        rwa [List.length_map, List.length_map] at this
      rw [List.length_take] at ln
      have hb2 := sG _ _ (upf _ _ hb)
      refine ⟨rfl, _, rfl, _, rfl, _, rfl, D, _, rfl, .inr ⟨kvs, kT c, q0, .inr ⟨od, sG _ _ hDf⟩, rfl, by rw [kT_v]; exact hq, gx.symm⟩, b, _, 0, .int (u.1 : Nat), rfl, rfl, .of hb2, rfl, _, DPut.t (k := kT c) hZ (by rw [kT_v]; exact hq) (small1000 (by omega)), fun z o h => ?_, _, upd_same, ?_, fun d w hd hw => ?_, fun d hd => ?_⟩
      · rw [upd_ne (ne_of_none h nZ)]
        exact sG _ _ h
      · rw [put_keys hkn c _, if_neg nc, tk]
      · rw [valV_put]
        by_cases e : d = c
        · rw [if_pos (by rw [e])]
          rw [e, hu] at hw
          cases hw
          rfl
        · rw [if_neg fun z => e (kT_inj z)]
          rw [tk, List.mem_append, List.mem_singleton] at hd
          exact yes d w (hd.resolve_right e) hw
      · rw [tk, List.mem_append, List.mem_singleton] at hd
        rw [valV_put, if_neg fun z => hd (.inr (kT_inj z))]
        exact no d fun z => hd (.inl z)
    · rintro G ⟨sG, nvs, hZ, hkn, yes, no⟩
      rw [lk, List.take_length] at hkn yes no
      have hDG := sG _ _ hDf
      have kG : Ke (fun b => b = D ∨ b = Pt) H (upd G D (.dT kvs)) := ke_wrF (kf.trans (.same sG)) (.inl rfl) hDG
      have nZD : Z ≠ D := Ne.symm (ne_of_none hDf nZ)
      have fZ : Frs H Z := fun b o e n => by
        by_cases z : b = D ∨ b = Pt
        · rcases z with z | z
          · exact fun y => fD b o e n z
          · intro y
            obtain ⟨ps, h1, _⟩ := txf
            rw [← z, y] at h1
            rw [nZ] at h1
            cases h1
        · have := kf.keep b o e n z
          exact ne_of_none this nZ
      refine ⟨hDG, q Z ks ws rs _ (ke_fr kG fun b z => z.elim (fun e => .inr (e ▸ fD)) .inl) (tabX_wr (txf.ke (Ke.same (F := Nof) sG) (fun z => z) fun c _ z => z) hDG (fun ps z => by unfold TbX at z; cases z) fun c z => by cases z) fZ ⟨⟨nvs, by rw [upd_ne nZD]; exact hZ, hkn, fun c h => ?_, fun c n h => ?_⟩, nd, fun c => ?_⟩ fin few l81⟩
      · have h : (ws c).map (·.1) = none := h
        refine no c fun z => ?_
        obtain ⟨u, hu⟩ := (me c).mp z
        rw [hu] at h
        cases h
      · obtain ⟨u, hu, e⟩ := Option.map_eq_some_iff.mp h
        exact ⟨.int (n : Nat), by rw [← e]; exact yes c u ((me c).mpr ⟨u, hu⟩) hu, rfl⟩
      · rw [me c]
        exact ⟨fun ⟨u, hu⟩ => ⟨u.1, by show (ws c).map (·.1) = _; rw [hu]; rfl⟩, fun ⟨n, h⟩ => by obtain ⟨u, hu, _⟩ := Option.map_eq_some_iff.mp h; exact ⟨u, hu⟩⟩
abbrev sLhs : Stmt := topS 35
theorem scLhs : FnScope ["book"] ["book"] (defScope sLhs) := ⟨rfl, rfl, rfl, by decide +kernel, rfl, by decide +kernel, by decide +kernel⟩
def spLhs (Po Pc Pt : Addr) : Sp := fun vs H Q _ => ∃ (v : V) (css : List C), vs = [v] ∧ FewB H v css ∧ TabG H Po ∧ TabG H Pc ∧ TabX H Pt qLwa ∧
  ∀ (D : Addr) (ks : List C) (ws : C → Option Nat) (rs : C → Option Rc) (H' : Hp), Ke (· = Pt) H H' → TabX H' Pt qLwa → Frs H D → WtT mH H' D ks ws → Fin aH css ws rs → (∀ c ∈ ks, Few4 c) → ks.length ≤ 81 → Q (.ref D) H'
theorem ok_lhs {f fL fa Po Pc Pt : Addr} {fd fdL : FuncData} {k : Nat} (F : Fun K "least_heights" "least_heights" sLhs f fd) (FL : Fun K "least_trees" "least_trees" sLtr fL fdL) (bL : Binds K fdL ["book", "start", "above"] []) (gL : mg "least_trees" = some (.ref fL)) (gA : mg "height_above" = some (.ref fa))
    (GL : FnOk P w K mg base CX0 7 fL fdL ["book", "start", "above"] (spLtr mH fa Po Pc Pt)) : FnOk P w K mg base CX0 (k + 8) f fd ["book"] (spLhs Po Pc Pt) := by
  refine F.ok scLhs (fun vs H Q E h => ?_) (fun cdv A outer s H vs Q E hr h => ?_)
  · obtain ⟨v, css, rfl, _⟩ := h
    rfl
  · obtain ⟨v, css, rfl, fb, tg, tc, tx, q⟩ := h
    have hr7 : Room 7 _ := hr.mono (by omega)
    refine ⟨_, (pss_one (ps_ret (pe_ix ix_tup (pe_call GL hr7 (by rfl) gL FL.kp bL .nil pass0 (pa_cons (pv 0) (pa_cons pe_int (pa_cons (pe_glob (v := .ref fa) rfl gA rfl) pa_nil)))) pe_int (fun _ _ => rfl)))), ?_⟩
    exact ⟨_, rfl, v, .int 0, css, rfl, fb.bk, fb.few, fb.len, rfl, tg, tc, tx, fun p D E ks ws rs H2 k2 tx2 hp nDE fD fE wt rt fin few l81 => ⟨p, _, 0, .ref D, rfl, rfl, .of hp, rfl, q D ks ws rs H2 k2 tx2 fD wt fin few l81⟩⟩
end
end Lbc
namespace Tby
open PySem PySem.Spec PyProof.Rows L2 GxR Nw Dr Kp Se Ct Lr Dj Wtc To Ptc Lam Lwa Chk Ltr Lbc
open Tr (T At Cl)
section
variable {P : Program} {w : World} {K : PySem.W.Frag} {mg : Str → Option Value} {base : Heap}
abbrev sTby : Stmt := topS 36
theorem scTby : FnScope ["trees", "claim", "step"] ["trees", "claim"] (defScope sTby) := ⟨rfl, rfl, rfl, by decide +kernel, rfl, by decide +kernel, by decide +kernel⟩
def spTby (d : Nat) : Sp := fun vs H Q _ => ∃ (E p : Addr) (ks : List C) (rs : C → Option Rc) (c : C) (t : T), vs = [.ref E, .ref p] ∧ RcT H E ks rs ∧ H p = some (.tup (c.map V.int)) ∧ By rs c t ∧ t.depth ≤ d ∧ ∀ v H', Same H H' → At H' t v → Q v H'
theorem ok_tby {f : Addr} {fd : FuncData} (F : Fun K "tree_by" "tree_by" sTby f fd) (bS : Binds K fd ["trees", "claim"] []) (gS : mg "tree_by" = some (.ref f)) : ∀ d, FnOk P w K mg base CX0 (d + 1) f fd ["trees", "claim"] (spTby d) := by
  intro d
  induction d with
  | zero =>
    refine F.ok scTby (fun vs H Q E h => ?_) (fun cdv A outer s H vs Q E hr h => ?_)
    · obtain ⟨E, p, ks, rs, c, t, rfl, _⟩ := h
      rfl
    · obtain ⟨E, p, ks, rs, c, t, rfl, rt, hp, by1, dp, q⟩ := h
      have := t.pos
      omega
  | succ d ih =>
    refine F.ok scTby (fun vs H Q E h => ?_) (fun cdv A outer s H vs Q E hr h => ?_)
    · obtain ⟨E, p, ks, rs, c, t, rfl, _⟩ := h
      rfl
    · obtain ⟨E', p, ks, rs, c, t, rfl, rt, hp, by1, dp, q⟩ := h
      have hrd : Room (d + 1) _ := hr
      refine ⟨_, (Evl.pss_cut (ps_set (i := 2) scTby.nd rfl (.inl rfl) (pe_dget (Un.lt1 hr.units) (pv 0) (pv 1) (fun _ _ => rfl)))
      (pss_cons (ps_if (pt_cmpR op_eq (pe_ix ix_tup (pv 2) pe_int (fun _ _ => rfl)) pe_str (nomark _)) (pss_one (ps_ret (pv 2))) pss_nil)
      (pss_one (ps_ret (pe_tupN (pa_cons pe_str (pa_cons (pe_call ih hrd (by rfl) gS F.kp bS .nil pass0 (pa_cons (pv 0) (pa_cons (pe_ix ix_tup (pv 2) pe_int (fun _ _ => rfl)) pa_nil))) (pa_cons (pe_call ih hrd (by rfl) gS F.kp bS .nil pass0 (pa_cons (pv 0) (pa_cons (pe_ix ix_tup (pv 2) pe_int (fun _ _ => rfl)) pa_nil))) (pa_cons (pe_ix ix_tup (pv 2) pe_int (fun _ _ => rfl)) pa_nil))))))))), ?_⟩
      obtain ⟨kvs, hE, hk, hat⟩ := id rt
      cases by1 with
      | @book _ n e =>
        obtain ⟨a, ga, ha⟩ := hat c _ e
        have ha : H a = some (.tup [.str "book", .int (n : Nat)]) := ha
        have g := DGet.t (k := kT c) hE (by rw [kT_v]; exact hp)
        rw [ga] at g
        refine Evl.q_cut (M := fun σ' H' => σ' = [some (.ref E'), some (.ref p), some (.ref a)] ∧ H' = H) ?_ ?_
        · exact ⟨_, rfl, _, rfl, E', _, rfl, g, rfl, rfl⟩
        rintro σ' H' ⟨rfl, rfl⟩
        exact ⟨_, rfl, a, _, 0, .str "book", rfl, rfl, .of ha, rfl, rfl, true, by simp, _, rfl, q _ H' (Same.refl _) ⟨a, rfl, ha⟩⟩
      | @cut _ a b k t1 t2 e b1 b2 =>
        obtain ⟨x, gx, hx⟩ := hat c _ e
        obtain ⟨p1, p2, hx, h1, h2⟩ := hx
        have g := DGet.t (k := kT c) hE (by rw [kT_v]; exact hp)
        rw [gx] at g
        have d1 : t1.depth ≤ d := by
          have : 1 + max t1.depth t2.depth ≤ d + 1 := dp
          omega
        have d2 : t2.depth ≤ d := by
          have : 1 + max t1.depth t2.depth ≤ d + 1 := dp
          omega
        refine Evl.q_cut (M := fun σ' H' => σ' = [some (.ref E'), some (.ref p), some (.ref x)] ∧ H' = H) ?_ ?_
        · exact ⟨_, rfl, _, rfl, E', _, rfl, g, rfl, rfl⟩
        rintro σ' H' ⟨rfl, rfl⟩
        refine ⟨_, rfl, x, _, 0, .str "cut", rfl, rfl, .of hx, rfl, rfl, false, by simp; decide, ?_⟩
        refine ⟨_, rfl, _, rfl, x, _, 1, .ref p1, rfl, rfl, .of hx, rfl, E', p1, ks, rs, a, t1, rfl, rt, h1, b1, d1, fun v1 H1 s1 at1 => ?_⟩
        have rt1 : RcT H1 E' ks rs := rt.tp (fun z xs h => s1 _ _ h) (by rw [hE]; exact s1 _ _ hE)
        refine ⟨_, rfl, _, rfl, x, _, 2, .ref p2, rfl, rfl, .of (s1 _ _ hx), rfl, E', p2, ks, rs, b, t2, rfl, rt1, s1 _ _ h2, b2, d2, fun v2 H2 s2 at2 => ?_⟩
        refine ⟨_, rfl, x, _, 3, .int k, rfl, rfl, .of (s2 _ _ (s1 _ _ hx)), rfl, by show 4 ≤ sizeLine; decide, fun r H3 nr s3 hr3 _ => ?_⟩
        exact q _ H3 ((s1.trans s2).trans s3) ⟨r, v1, v2, rfl, hr3, (at1.ke (Ke.same (F := Nof) s2)).ke (Ke.same (F := Nof) s3), at2.ke (Ke.same (F := Nof) s3)⟩
abbrev sLst : Stmt := topS 37
theorem scLst : FnScope ["book", "claim", "worths", "trees", "cuts", "height"] ["book", "claim"] (defScope sLst) := ⟨rfl, rfl, rfl, by decide +kernel, rfl, by decide +kernel, by decide +kernel⟩
/-- a tree of the fewest cuts, where these are fewer than forty -/
def spLst (Po Pc Pt : Addr) : Sp := fun vs H Q _ => ∃ (v : V) (p : Addr) (css : List C) (c : C) (t0 : T), vs = [v, .ref p] ∧ FewB H v css ∧ H p = some (.tup (c.map V.int)) ∧ Cl css t0 c ∧ t0.cuts ≤ 39 ∧ TabG H Po ∧ TabG H Pc ∧ TabX H Pt qLwa ∧
  ∀ (r : V) (t : T) (H' : Hp), Ke (· = Pt) H H' → TabX H' Pt qLwa → At H' t r → Cl css t c → (∀ t', Cl css t' c → t.cuts ≤ t'.cuts) → t.depth ≤ 40 → Q r H'
theorem ok_lst {f fB fY Po Pc Pt : Addr} {fd fdB fdY : FuncData} {k : Nat} {tk tk' : Tok} (F : Fun K "least_tree" "least_tree" sLst f fd) (M3 : mg "MOST_PIECES" = some (.int 360 tk)) (M4 : mg "MOST_WITHIN" = some (.int 40 tk'))
    (FB : Fun K "least_by_cuts" "least_by_cuts" sLbc fB fdB) (bB : Binds K fdB ["book"] []) (gB : mg "least_by_cuts" = some (.ref fB)) (GB : FnOk P w K mg base CX0 8 fB fdB ["book"] (spLbc Po Pc Pt))
    (FY : Fun K "tree_by" "tree_by" sTby fY fdY) (bY : Binds K fdY ["trees", "claim"] []) (gY : mg "tree_by" = some (.ref fY)) (GY : FnOk P w K mg base CX0 41 fY fdY ["trees", "claim"] (spTby 40)) :
    FnOk P w K mg base CX0 (k + 42) f fd ["book", "claim"] (spLst Po Pc Pt) := by
  refine F.ok scLst (fun vs H Q E h => ?_) (fun cdv A outer s H vs Q E hr h => ?_)
  · obtain ⟨v, p, css, c, t0, rfl, _⟩ := h
    rfl
  · obtain ⟨v, p, css, c, t0, rfl, fb, hp, cl0, c39, tg, tc, tx, q⟩ := h
    have hr8 : Room 8 _ := hr.mono (by omega)
    have hr41 : Room 41 _ := hr.mono (by omega)
    refine ⟨_, (Evl.pss_cut (ps_asg (pe_call GB hr8 (by rfl) gB FB.kp bB .nil pass0 (pa_cons (pv 0) pa_nil)) (pg_tup rfl (pgs_cons (pg_name (i := 2) scLst.nd rfl (.inl rfl)) (pgs_cons (pg_name (i := 3) scLst.nd rfl (.inl rfl)) pgs_nil))))
      (Evl.pss_cut (ps_if (pt_cmp (pc_dnotin (Un.lt1 hr.units) (pv 1) (pv 2))) (pss_one (ps_ret pe_non)) pss_nil)
      (Evl.pss_cut (ps_asg (pe_dget (Un.lt1 hr.units) (pv 2) (pv 1) (fun _ _ => rfl)) (pg_tup rfl (pgs_cons (pg_name (i := 4) scLst.nd rfl (.inl rfl)) (pgs_cons (pg_name (i := 5) scLst.nd rfl (.inl rfl)) pgs_nil))))
      (Evl.pss_cut (ps_if (PW.pt (pw_or (pt_cmpR op_gt (pe_op op_add (pe_op op_mul pe_int (pv 4)) pe_int) (pe_glob (v := .int 360) rfl M3 ⟨_, rfl⟩) (nomark _)) (pw_or1 (pt_cmpR op_gt (pe_op op_add (pv 5) pe_int) (pe_glob (v := .int 40) rfl M4 ⟨_, rfl⟩) (nomark _))))) pss_never pss_nil)
      (pss_one (ps_ret (pe_call GY hr41 (by rfl) gY FY.kp bY .nil pass0 (pa_cons (pv 3) (pa_cons (pv 1) pa_nil))))))))), ?_⟩
    refine Evl.q_cut (M := fun σ' H' => ∃ (D E : Addr) (ks : List C) (ws : C → Option (Nat × Nat)) (rs : C → Option Rc), σ' = [some v, some (.ref p), some (.ref D), some (.ref E), none, none] ∧ Ke (· = Pt) H H' ∧ TabX H' Pt qLwa ∧ WtT mC H' D ks ws ∧ RcT H' E ks rs ∧ Fin aC css ws rs) ?_ ?_
    · exact ⟨_, rfl, v, css, rfl, fb, tg, tc, tx, fun r D E ks ws rs H1 k1 tx1 hr1 nDE fD fE wt rt fin few l81 => ⟨r, _, rfl, .of hr1, rfl, _, _, rfl, _, _, rfl, rfl, D, E, ks, ws, rs, rfl, k1, tx1, wt, rt, fin⟩⟩
    rintro σ' H1 ⟨D, E', ks, ws, rs, rfl, k1, tx1, wt, rt, fin⟩
    obtain ⟨⟨kvs, hD, hk, hno, hat⟩, nd, me⟩ := id wt
    have hp1 := k1.tups _ _ hp
    obtain ⟨u, hu, le⟩ := fin.le t0 c cl0
    obtain ⟨least, t, by1, cl, ct, dp⟩ := fin.cuts hu
    have lt := least t0 cl0
    have hc := high_cuts t
    obtain ⟨x, gx, ⟨a, rfl, ha⟩⟩ := hat c u hu
    have g := DGet.t (k := kT c) hD (by rw [kT_v]; exact hp1)
    rw [gx] at g
    refine Evl.q_cut (M := fun σ' H' => σ' = [some v, some (.ref p), some (.ref D), some (.ref E'), none, none] ∧ H' = H1) ?_ ?_
    · exact ⟨_, rfl, _, rfl, D, _, rfl, g, _, rfl, ite2 (fun e => absurd e (by simp)) fun _ => ⟨rfl, rfl⟩⟩
    rintro σ' H2 ⟨rfl, rfl⟩
    refine Evl.q_cut (M := fun σ' H' => σ' = [some v, some (.ref p), some (.ref D), some (.ref E'), some (.int (u.1 : Nat)), some (.int (u.2 : Nat))] ∧ H' = H2) ?_ ?_
    · exact ⟨_, rfl, _, rfl, D, _, rfl, g, a, _, rfl, .of ha, rfl, _, _, rfl, _, _, rfl, rfl, rfl, rfl⟩
    rintro σ' H3 ⟨rfl, rfl⟩
    refine Evl.q_cut (M := fun σ' H' => σ' = [some v, some (.ref p), some (.ref D), some (.ref E'), some (.int (u.1 : Nat)), some (.int (u.2 : Nat))] ∧ H' = H3) ?_ ?_
    · refine ⟨_, rfl, _, _, rfl, rfl, .inl ⟨by decide, by decide⟩, _, _, rfl, rfl, _, _, rfl, rfl, false, ?_, ?_⟩
      · show V.bl (decide ((2 : Int) * ((u.1 : Nat) : Int) + 1 > 360)) = V.bl false
        rw [decide_eq_false (by omega)]
      refine ⟨_, rfl, _, _, rfl, rfl, _, _, rfl, rfl, false, ?_, rfl, rfl⟩
      show V.bl (decide (((u.2 : Nat) : Int) + 1 > 40)) = V.bl false
      rw [decide_eq_false (by omega)]
    rintro σ' H4 ⟨rfl, rfl⟩
    exact ⟨_, rfl, _, rfl, E', p, ks, rs, c, t, rfl, rt, hp1, by1, by omega, fun r H5 s5 at5 => q r t H5 (k1.trans (.same s5)) (tx1.ke (Ke.same (F := Nof) s5) (fun z => z) fun c _ z => z) at5 cl (fun t' cl' => by rw [ct]; exact least t' cl') (by omega)⟩
end
end Tby
namespace Tsp
open PySem PySem.Spec PyProof.Rows L2 GxR Nw Dr Kp Se Ct Lr Dj Wtc To Ptc Lam Lwa Chk Ltr Lbc Wd
open Tr (T At Cl)
/-- the least number of those that are as wide -/
def MinW (ws : C → Option Nat) (c : C) (m : Nat) : Prop := (∃ k, ws k = some m ∧ wideB k c = true) ∧ ∀ k n, ws k = some n → wideB k c = true → m ≤ n
theorem MinW.one {ws : C → Option Nat} {c : C} {m n : Nat} (a : MinW ws c m) (b : MinW ws c n) : m = n := by
  obtain ⟨k, h1, h2⟩ := a.1
  obtain ⟨k', h1', h2'⟩ := b.1
  exact Nat.le_antisymm (a.2 k' n h1' h2') (b.2 k m h1 h2)
/-- the fewest are the fewest -/
theorem fin_fst {css : List C} {ws ws' : C → Option (Nat × Nat)} {rs rs' : C → Option Rc} (a : Fin aC css ws rs) (b : Fin aC css ws' rs') (c : C) : (ws c).map (·.1) = (ws' c).map (·.1) := by
  have half : ∀ {ws ws' : C → Option (Nat × Nat)} {rs rs' : C → Option Rc}, Fin aC css ws rs → Fin aC css ws' rs' → ∀ u, ws c = some u → ∃ u', ws' c = some u' ∧ u'.1 ≤ u.1 := fun {ws ws' rs rs'} a b u hu => by
    obtain ⟨_, t, _, cl, ct, _⟩ := a.cuts hu
    obtain ⟨u', hu', _⟩ := b.le t c cl
    exact ⟨u', hu', by rw [← ct]; exact (b.cuts hu').1 t cl⟩
  cases e : ws c with
  | none =>
    cases e' : ws' c with
    | none => rfl
    | some u' =>
      obtain ⟨u, hu, _⟩ := half b a u' e'
      rw [e] at hu
      cases hu
  | some u =>
    obtain ⟨u', hu', l1⟩ := half a b u e
    obtain ⟨v, hv, l2⟩ := half b a u' hu'
    rw [e] at hv
    cases hv
    rw [hu']
    exact congrArg some (Nat.le_antisymm l2 l1)
theorem wide_self (c : C) : wideB c c = true := by
  unfold wideB
  rw [List.all_eq_true]
  exact fun s hs => (Un.in_ints s c).mpr hs
section
variable {P : Program} {w : World} {K : PySem.W.Frag} {mg : Str → Option Value} {base : Heap}
/-- the numbers of those that are as wide, so far -/
structure Nms (ws : C → Option Nat) (c : C) (done : List C) (ns : List Int) : Prop where
  some : ∀ n ∈ ns, ∃ k m, k ∈ done ∧ ws k = some m ∧ wideB k c = true ∧ n = ((m : Nat) : Int)
  all : ∀ k ∈ done, ∀ m, ws k = .some m → wideB k c = true → ((m : Nat) : Int) ∈ ns
  len : ns.length ≤ done.length
theorem Nms.nil {ws : C → Option Nat} {c : C} : Nms ws c [] [] := ⟨fun _ h => (nomatch h), fun _ h => (nomatch h), Nat.le_refl _⟩
theorem Nms.yes {ws : C → Option Nat} {c k : C} {done : List C} {ns : List Int} {m : Nat} (h : Nms ws c done ns) (e : ws k = .some m) (wd : wideB k c = true) : Nms ws c (done ++ [k]) (ns ++ [((m : Nat) : Int)]) := by
  refine ⟨fun n hn => ?_, fun k' hk m' e' w' => ?_, ?_⟩
  · rcases List.mem_append.mp hn with z | z
    · obtain ⟨k', m', h1, h2⟩ := h.some n z
      exact ⟨k', m', List.mem_append.mpr (.inl h1), h2⟩
    · exact ⟨k, m, List.mem_append.mpr (.inr (List.mem_singleton_self k)), e, wd, List.mem_singleton.mp z⟩
  · rcases List.mem_append.mp hk with z | z
    · exact List.mem_append.mpr (.inl (h.all k' z m' e' w'))
    · rw [List.mem_singleton.mp z, e] at e'
      cases e'
      exact List.mem_append.mpr (.inr (List.mem_singleton_self _))
  · have := h.len
    rw [List.length_append, List.length_append, List.length_singleton, List.length_singleton]
    omega
theorem Nms.no {ws : C → Option Nat} {c k : C} {done : List C} {ns : List Int} (h : Nms ws c done ns) (wd : wideB k c = false) : Nms ws c (done ++ [k]) ns := by
  refine ⟨fun n hn => ?_, fun k' hk m' e' w' => ?_, ?_⟩
  · obtain ⟨k', m', h1, h2⟩ := h.some n hn
    exact ⟨k', m', List.mem_append.mpr (.inl h1), h2⟩
  · rcases List.mem_append.mp hk with z | z
    · exact h.all k' z m' e' w'
    · rw [List.mem_singleton.mp z, wd] at w'
      cases w'
  · have := h.len
    rw [List.length_append, List.length_singleton]
    omega
theorem Nms.min {ws : C → Option Nat} {c : C} {ks : List C} {ns : List Int} (h : Nms ws c ks ns) (me : ∀ k, k ∈ ks ↔ ∃ n, ws k = .some n) {m : Int} (hm : m ∈ ns) (le : ∀ y ∈ ns, m ≤ y) : ∃ n : Nat, m = (n : Nat) ∧ MinW ws c n := by
  obtain ⟨k, n, _, h2, h3, e⟩ := h.some m hm
  refine ⟨n, e, ⟨k, h2, h3⟩, fun k' n' e' w' => ?_⟩
  have := le _ (h.all k' ((me k').mpr ⟨n', e'⟩) n' e' w')
  omega
abbrev sTsp : Stmt := topS 38
abbrev nTsp : List Str := ["book", "tree", "fewest_cuts", "claim", "other"]
theorem scTsp : FnScope nTsp ["book", "tree"] (defScope sTsp) := ⟨rfl, rfl, rfl, by decide +kernel, rfl, by decide +kernel, by decide +kernel⟩
structure Ztp (mg : Str → Option Value) : Prop where
  z_min : mg "min" = none
def spTsp (Po Pc Pw Pt : Addr) : Sp := fun vs H Q _ => ∃ (b v : V) (css : List C) (t : T) (c : C), vs = [b, v] ∧ FewB H b css ∧ At H t v ∧ Cl css t c ∧ t.depth ≤ 40 ∧ TabG H Po ∧ TabG H Pc ∧ TabG H Pw ∧ TabX H Pt qLwa ∧
  ∀ (m : Nat) (H' : Hp), Ke (· = Pt) H H' → TabX H' Pt qLwa → (∀ ws rs, Fin aC css ws rs → MinW (fun k => (ws k).map (·.1)) c m) → Q (.int (((t.cuts : Nat) : Int) - ((m : Nat) : Int))) H'
theorem ok_tsp {f fL fC fT fW Po Pc Pw Pt : Addr} {fd fdL fdC fdT fdW : FuncData} {k : Nat} (F : Fun K "to_spare" "to_spare" sTsp f fd) (T : Ztp mg)
    (FL : Fun K "least_cuts" "least_cuts" sLcs fL fdL) (bL : Binds K fdL ["book"] []) (gL : mg "least_cuts" = some (.ref fL)) (GL : FnOk P w K mg base CX0 9 fL fdL ["book"] (spLcs Po Pc Pt))
    (FC : Fun K "claim_of_tree" "claim_of_tree" Tp.sCot fC fdC) (bC : Binds K fdC ["book", "tree"] []) (gC : mg "claim_of_tree" = some (.ref fC)) (GC : FnOk P w K mg base CX0 46 fC fdC ["book", "tree"] (Tp.spCn Po 40))
    (FT : Fun K "cuts_of_tree" "cuts_of_tree" Tp.sCts fT fdT) (bT : Binds K fdT ["tree"] []) (gT : mg "cuts_of_tree" = some (.ref fT)) (GT : FnOk P w K mg base CX0 41 fT fdT ["tree"] (Tp.spCts 40))
    (FW : Fun K "is_wide" "is_wide" sWid fW fdW) (bW : Binds K fdW ["one", "other"] []) (gW : mg "is_wide" = some (.ref fW)) (GW : FnOk P w K mg base CX0 3 fW fdW ["one", "other"] (spWid Pw)) :
    FnOk P w K mg base CX0 (k + 47) f fd ["book", "tree"] (spTsp Po Pc Pw Pt) := by
  refine F.ok scTsp (fun vs H Q E h => ?_) (fun cdv A outer s H vs Q E hr h => ?_)
  · obtain ⟨b, v, css, t, c, rfl, _⟩ := h
    rfl
  · obtain ⟨b, v, css, t, c, rfl, fb, ht, cl, dp, tg, tc, tw, tx, q⟩ := h
    have hr3 : Room 3 _ := hr.mono (by omega)
    have hr9 : Room 9 _ := hr.mono (by omega)
    have hr41 : Room 41 _ := hr.mono (by omega)
    have hr46 : Room 46 _ := hr.mono (by omega)
    refine ⟨_, (Evl.pss_cut (ps_set (i := 2) scTsp.nd rfl (.inr rfl) (pe_call GL hr9 (by rfl) gL FL.kp bL .nil pass0 (pa_cons (pv 0) pa_nil)))
      (Evl.pss_cut (ps_set (i := 3) scTsp.nd rfl (.inr rfl) (pe_call GC hr46 (by rfl) gC FC.kp bC .nil pass0 (pa_cons (pv 0) (pa_cons (pv 1) pa_nil))))
      (pss_one (ps_lock (ps_ret (pe_op op_sub (pe_call GT hr41 (by rfl) gT FT.kp bT .nil pass0 (pa_cons (pv 1) pa_nil)) (pe_callB (cr_min rfl) (by rfl) T.z_min (by decide +kernel) (pa_cons (pe_lc (own := [("other", 4)]) (g := (gName 4))  rfl scTsp.nd (pi_keys (pv 2)) (blkOk_by (N := nTsp) (sc := defScope sTsp) (by decide +kernel)) (fun _ _ _ _ _ => (pg_name (i := 4) scTsp.nd rfl (.inl rfl))) (fun _ _ _ _ _ => (pts_one (pt_val (pe_call GW hr3 (by rfl) gW FW.kp bW .nil pass0 (pa_cons (pv 4) (pa_cons (pv 3) pa_nil)))))) (fun _ _ _ _ _ => (pe_dget (Un.lt1 hr.units) (pv 2) (pv 4) (fun _ _ => rfl)))) pa_nil)))))))), ?_⟩
    refine Evl.q_cut (M := fun σ' H' => ∃ (D : Addr) (ks : List C) (ws : C → Option (Nat × Nat)) (rs : C → Option Rc), σ' = [some b, some v, some (.ref D), none, none] ∧ Ke (· = Pt) H H' ∧ TabX H' Pt qLwa ∧ Frs H D ∧ WtT mH H' D ks (fun c => (ws c).map (·.1)) ∧ Fin aC css ws rs ∧ ks.length ≤ 81) ?_ ?_
    · exact ⟨_, rfl, b, css, rfl, fb, tg, tc, tx, fun D ks ws rs H1 k1 tx1 fD wt fin few l81 => ⟨D, ks, ws, rs, rfl, k1, tx1, fD, wt, fin, l81⟩⟩
    rintro σ' H1 ⟨D, ks, ws, rs, rfl, k1, tx1, fD, wt1, fin, l81⟩
    refine Evl.q_cut (M := fun σ' H' => ∃ p, σ' = [some b, some v, some (.ref D), some (.ref p), none] ∧ Ke Nof H1 H' ∧ H' p = some (.tup (c.map V.int))) ?_ ?_
    · exact ⟨_, rfl, _, rfl, b, v, css, t, c, rfl, fb.bk.ke k1, (fun c hc => (fb.few c hc).1), ht.ke k1, dp, cl, k1.tabs _ tg, fun p H2 k2 hp => ⟨p, rfl, k2, hp⟩⟩
    rintro σ' H2 ⟨p, rfl, k2, hp⟩
    have k02 := k1.trans k2.all
    have tx2 := tx1.ke k2 (fun z => z) fun c _ z => z
    obtain ⟨⟨kvs, hD1, hk, hno, hat⟩, nd, me⟩ := id wt1
    have hD : H2 D = some (.dT kvs) := k2.keep D _ hD1 (fun ps z => by cases z) fun z => z
    obtain ⟨u0, hu0, _⟩ := fin.le t c cl
    have lk : kvs.length = ks.length := by
      have := congrArg List.length hk
      rwa [List.length_map, List.length_map] at this
    refine ⟨D, _, hD, trivial, fun od => ?_⟩
    have hDf : (upd H2 D (.frz od (.dT kvs))) D = some (.frz od (.dT kvs)) := upd_same
    have kf : Ke (fun b => b = D ∨ b = Pt) H (upd H2 D (.frz od (.dT kvs))) := ke_wrT (k02.mono fun b z => .inr z) (.inl rfl) hD
    have upf : ∀ z xs, H2 z = some (.tup xs) → (upd H2 D (.frz od (.dT kvs))) z = some (.tup xs) := fun z xs h => by
      rw [upd_ne (fun w => by rw [w, hD] at h; cases h)]
      exact h
    have txf : TabX (upd H2 D (.frz od (.dT kvs))) Pt qLwa := tabX_wr tx2 hD (fun ps z => by unfold TbX at z; cases z) fun c z => by cases z
    generalize upd H2 D (.frz od (.dT kvs)) = Hf at hDf kf upf txf ⊢
    have hpf := upf _ _ hp
    refine ⟨_, rfl, v, t, rfl, ht.ke kf, dp, _, rfl, D, od, rfl, .inr ⟨kvs, hDf, fun Z nZ => ?_⟩⟩
    refine lc_it walk_keysT (Pv := fun i H' => Ke Nof Hf H' ∧ ∃ ns : List Int, H' Z = some (.lst (ns.map V.int)) ∧ Nms (fun k => (ws k).map (·.1)) c (ks.take i) ns) ⟨.same (same_new nZ), [], upd_same, .nil⟩ (fun i H' _ z => z.1.keep D _ hDf (fun ps z => by cases z) fun z => z) ?_ ?_
    · rintro i x H3 H3' hi ⟨k3, ns, hZ, nm⟩ ⟨rfl, kx, v1, q0, hkv, rfl, hq⟩
      obtain ⟨ci, hci, rfl⟩ : ∃ ci, ks[i]? = some ci ∧ kx = kT ci := by
        have e : (kvs.map (·.1))[i]? = some kx := by rw [List.getElem?_map, hkv]; rfl
        rw [hk, List.getElem?_map] at e
        obtain ⟨ci, h1, h2⟩ := Option.map_eq_some_iff.mp e
        exact ⟨ci, h1, h2.symm⟩
      rw [kT_v] at hq
      have tk := Lp.take_snoc hci
      obtain ⟨n, hn⟩ := (me ci).mp (List.mem_of_getElem? hci)
      obtain ⟨xv, gx, hx⟩ := hat ci n hn
      have hx : xv = .int (n : Nat) := hx
      subst hx
      have ln := nm.len
      rw [List.length_take] at ln
      refine ⟨rfl, _, rfl, _, rfl, .ref q0, .ref p, ci, c, rfl, ⟨q0, rfl, hq⟩, ⟨p, rfl, k3.tups _ _ hpf⟩, k3.tabs _ (kf.tabs _ tw), fun H4 k4 => ⟨_, rfl, ite2 (fun e => ?_) (fun e => ?_)⟩⟩
      · have k34 := k3.trans k4
        refine ⟨_, rfl, _, rfl, D, _, rfl, .inr ⟨kvs, kT ci, q0, .inr ⟨od, k34.keep D _ hDf (fun ps z => by cases z) fun z => z⟩, rfl, by rw [kT_v]; exact k4.tups _ _ hq, gx.symm⟩, ns.map V.int, k4.lst hZ fun z => z, small1000 (by rw [List.length_map]; omega), k34.upd nZ, ns ++ [((n : Nat) : Int)], by rw [upd_same, List.map_append]; rfl, ?_⟩
        rw [tk]
        exact nm.yes hn e
      · refine ⟨k3.trans k4, ns, k4.lst hZ fun z => z, ?_⟩
        rw [tk]
        exact nm.no (Bool.eq_false_iff.mpr e)
    · rintro H3 ⟨k3, ns, hZ, nm⟩
      rw [lk, List.take_length] at nm
      have pos : ((u0.1 : Nat) : Int) ∈ ns := nm.all c ((me c).mpr ⟨u0.1, by show (ws c).map (·.1) = _; rw [hu0]; rfl⟩) u0.1 (by show (ws c).map (·.1) = _; rw [hu0]; rfl) (wide_self c)
      refine ⟨Z, ns, rfl, .of hZ, List.length_pos_of_mem pos, fun m hm le => ?_⟩
      obtain ⟨n, rfl, mw⟩ := nm.min me hm le
      have hD3 : H3 D = some (.frz od (.dT kvs)) := k3.keep D _ hDf (fun ps z => by cases z) fun z => z
      have kG : Ke (fun b => b = D ∨ b = Pt) H (upd H3 D (.dT kvs)) := ke_wrF (kf.trans k3.all) (.inl rfl) hD3
      refine ⟨_, _, rfl, rfl, hD3, q n _ (ke_fr kG fun b z => z.elim (fun e => .inr (e ▸ fD)) .inl) (tabX_wr (txf.ke k3 (fun z => z) fun c _ z => z) hD3 (fun ps z => by unfold TbX at z; cases z) fun c z => by cases z) fun ws' rs' fin' => ?_⟩
      have e : (fun k => (ws' k).map (·.1)) = fun k => (ws k).map (·.1) := funext fun k => fin_fst fin' fin k
      rw [e]
      exact mw
end
end Tsp
namespace Brs
open PySem PySem.Spec PyProof.Rows L2 GxR Nw Dr Kp Se Ct Lr Dj Wtc To Ptc Lam Lwa Chk Ltr Lbc
structure Zbr (mg : Str → Option Value) : Prop where
  z_all : mg "all" = none
/-- cuts alone -/
def mN : Wk Nat := ⟨⟨fun u v => u ≤ v, fun u v => u + v + 1, 0⟩, mH.R, fun u v => decide (u < v)⟩
/-- worths that are whole numbers -/
def IntW (M : Wk Nat) : Prop := (∀ H v n, M.R H v n ↔ v = .int ((n : Nat) : Int)) ∧ (∀ u v, M.A.le u v ↔ u ≤ v) ∧ M.A.st = 0
theorem intN : IntW mN := ⟨fun _ _ _ => Iff.rfl, fun _ _ => Iff.rfl, rfl⟩
theorem intH : IntW mH := ⟨fun _ _ _ => Iff.rfl, fun _ _ => Iff.rfl, rfl⟩
theorem unlockedT {F : Addr → Prop} {H G : Hp} {D : Addr} {kvs : List (List Key × V)} {od : Obj} (hD : H D = some (.dT kvs)) (k : Ke F (upd H D (.frz od (.dT kvs))) G) : Ke F H (upd G D (.dT kvs)) := by
  refine ⟨fun b o e t m => ?_, fun Q ⟨ps, e, t⟩ => ?_, fun b xs e => ?_⟩
  · by_cases z : b = D
    · rw [z, hD] at e
      rw [z, upd_same]
      exact e
    · rw [upd_ne z]
      exact k.keep b o (by rw [upd_ne z]; exact e) t m
  · have n : Q ≠ D := fun z => by rw [z, hD] at e; cases e
    obtain ⟨qs, e2, t2⟩ := k.tabs Q ⟨ps, by rw [upd_ne n]; exact e, t⟩
    exact ⟨qs, by rw [upd_ne n]; exact e2, t2⟩
  · have n : b ≠ D := fun z => by rw [z, hD] at e; cases e
    rw [upd_ne n]
    exact k.tups b xs (by rw [upd_ne n]; exact e)
theorem rd_ke {H H' : Hp} {D : Addr} {kvs : List (List Key × V)} (h : Rd H D (.dT kvs)) (k : Ke Nof H H') : Rd H' D (.dT kvs) := by
  rcases h with h | ⟨od, h⟩
  · exact .inl (k.keep D _ h (fun ps z => by cases z) fun z => z)
  · exact .inr ⟨od, k.keep D _ h (fun ps z => by cases z) fun z => z⟩
theorem rd_get {H : Hp} {D b : Addr} {kvs : List (List Key × V)} {c : C} (h : Rd H D (.dT kvs)) (hb : H b = some (.tup (c.map V.int))) : DGet H D (.ref b) (valV kvs (kT c)) := .inr ⟨kvs, kT c, b, h, rfl, by rw [kT_v]; exact hb, rfl⟩
section
variable {P : Program} {w : World} {K : PySem.W.Frag} {mg : Str → Option Value} {base : Heap}
abbrev sCab : Stmt := topS 40
theorem scCab : FnScope ["one", "other"] ["one", "other"] (defScope sCab) := ⟨rfl, rfl, rfl, by decide +kernel, rfl, by decide +kernel, by decide +kernel⟩
theorem ok_cab {f : Addr} {fd : FuncData} {k : Nat} (F : Fun K "cuts_above" "cuts_above" sCab f fd) : FnOk P w K mg base CX0 (k + 1) f fd ["one", "other"] (spAb mN) := by
  refine F.ok scCab (fun vs H Q E h => ?_) (fun cdv A outer s H vs Q E hr h => ?_)
  · obtain ⟨x, y, u, v, rfl, _⟩ := h
    rfl
  · obtain ⟨x, y, u, v, rfl, hx, hy, q⟩ := h
    have hx : x = .int (u : Nat) := hx
    have hy : y = .int (v : Nat) := hy
    subst hx
    subst hy
    refine ⟨_, (pss_one (ps_ret (pe_op op_add (pe_op op_add (pv 0) (pv 1)) pe_int))), ?_⟩
    refine ⟨_, rfl, _, rfl, _, _, rfl, rfl, _, _, rfl, rfl, q _ H (Same.refl _) ?_⟩
    show V.int (((u : Nat) : Int) + ((v : Nat) : Int) + 1) = V.int ((u + v + 1 : Nat) : Int)
    congr 1
abbrev sBbk : Stmt := topS 41
abbrev nBbk : List Str := ["book", "numbers", "claim"]
theorem scBbk : FnScope nBbk ["book", "numbers"] (defScope sBbk) := ⟨rfl, rfl, rfl, by decide +kernel, rfl, by decide +kernel, by decide +kernel⟩
def spBbk (Pk : Addr) : Sp := fun vs H Q _ => ∃ (v : V) (D : Addr) (css : List C) (kvs : List (List Key × V)), vs = [v, .ref D] ∧ Bk H v css ∧ Rd H D (.dT kvs) ∧ (∀ c ∈ css, valV kvs (kT c) = some (.int 0)) ∧ TabG H Pk ∧ ∀ H', Ke Nof H H' → Q (.bl true) H'
theorem ok_bbk {f c Pk : Addr} {fd : FuncData} {k : Nat} (F : FunC K "bears_book" "bears_book" sBbk f c fd) (T : Zbr mg) (TB : TabB base mg c Pk) : FnOk P w K mg base CX0 (k + 4) f fd ["book", "numbers"] (spBbk Pk) := by
  refine F.ok scBbk (fun vs H Q E h => ?_) (fun A outer s H vs Q E hr h => ?_)
  · obtain ⟨v, D, css, kvs, rfl, _⟩ := h
    rfl
  · obtain ⟨v, D, css, kvs, rfl, hb, hD, zero, tg, q⟩ := h
    have hr2 : Room (1 + 1) _ := hr.mono (by omega)
    refine ⟨_, (pss_one (ps_ret (Gx.pe_all hr (by rfl) T.z_all rfl scBbk.nd TB rfl (pi_tup (pv 0)) (own := [("claim", 2)]) (g := (gName 2)) (tt := tYes) (blkOk_by (N := nBbk) (sc := defScope sBbk) (by decide +kernel)) ⟨rfl, by decide +kernel, rfl⟩ (fun _ _ _ _ _ _ _ => pg_name (i := 2) scBbk.nd rfl (.inl rfl)) (fun _ _ _ _ _ _ _ => pts_nil) (fun _ _ _ _ _ _ _ => (pe_and (pe_cmp (pc_din (Un.lt1 (Gx.room_gen hr2).units) (pv 2) (pv 1))) (pe_one (pe_cmpR op_le (pe_dget (Un.lt1 (Gx.room_gen hr2).units) (pv 1) (pv 2) (fun _ _ => rfl)) pe_int (nomark _)))))))), ?_⟩
    obtain ⟨a, bvs, rfl, ha, al⟩ := bk_all hb
    refine ⟨_, rfl, a, rfl, ⟨_, .of ha⟩, tg, fun H1 tb => ?_⟩
    have k1 : Ke Nof H H1 := .tabbed tg tb
    refine Gx.aa_it (walk_tup (K := K)) (Pv := fun i H' => Ke Nof H H') k1 (fun i H' _ p => .of (p.tups _ _ ha)) ?_ (fun H' p => q H' p)
    rintro i x H2 H2' hi k2 ⟨rfl, hx⟩
    obtain ⟨cs, hcs, b, rfl, hb1⟩ := al.at hx
    have hb2 := k2.tups _ _ hb1
    have g := rd_get (rd_ke hD k2) hb2
    rw [zero cs (List.mem_of_getElem? hcs)] at g
    exact ⟨rfl, _, rfl, _, rfl, D, _, rfl, g, true, rfl, _, rfl, _, rfl, D, _, rfl, g, _, _, rfl, rfl, .inr ⟨rfl, k2⟩⟩
abbrev sBpr : Stmt := topS 42
abbrev nBpr : List Str := ["numbers", "above", "one", "other", "most", "k", "claim"]
theorem scBpr : FnScope nBpr ["numbers", "above", "one", "other"] (defScope sBpr) := ⟨rfl, rfl, rfl, by decide +kernel, rfl, by decide +kernel, by decide +kernel⟩
def spBpr (M : Wk Nat) (fa Po Pb : Addr) : Sp := fun vs H Q _ => ∃ (D p1 p2 : Addr) (a b : C) (ws : C → Option Nat) (kvs : List (List Key × V)) (u v : Nat), vs = [.ref D, .ref fa, .ref p1, .ref p2] ∧ Rd H D (.dT kvs) ∧ (∀ c n, ws c = some n → valV kvs (kT c) = some (.int (n : Nat))) ∧ H p1 = some (.tup (a.map V.int)) ∧ H p2 = some (.tup (b.map V.int)) ∧ ws a = some u ∧ ws b = some v ∧ IsCl a ∧ IsCl b ∧ (∀ k c, Comes a b k c → ∃ n, ws c = some n ∧ n ≤ M.A.ab u v) ∧ TabG H Po ∧ TabG H Pb ∧ ∀ H', Ke Nof H H' → Q (.bl true) H'
theorem ok_bpr {M : Wk Nat} (iw : IntW M) {f c fW fa Po Pb : Addr} {fd fdW fda : FuncData} {k : Nat} (F : FunC K "bears_pair" "bears_pair" sBpr f c fd) (T : Zbr mg) (TB : TabB base mg c Pb)
    (FW : Fun K "ways_to_cut" "ways_to_cut" sWay fW fdW) (bW : Binds K fdW ["one", "other"] []) (gW : mg "ways_to_cut" = some (.ref fW)) (GW : FnOk P w K mg base CX0 5 fW fdW ["one", "other"] (spWay Po))
    (kA : PySem.W.keepIn K (.ref fa) = true) (bA : Binds K fda ["one", "other"] []) (GA : FnOk P w K mg base CX0 1 fa fda ["one", "other"] (spAb M)) :
    FnOk P w K mg base CX0 (k + 6) f fd ["numbers", "above", "one", "other"] (spBpr M fa Po Pb) := by
  refine F.ok scBpr (fun vs H Q E h => ?_) (fun A outer s H vs Q E hr h => ?_)
  · obtain ⟨D, p1, p2, a, b, ws, kvs, u, v, rfl, _⟩ := h
    rfl
  · obtain ⟨D, p1, p2, a, b, ws, kvs, u, v, rfl, hD, hat, h1, h2, ha, hb, ia, ib, al0, tg, tp, q⟩ := h
    have hr1 : Room 1 _ := hr.mono (by omega)
    have hr2 : Room (1 + 1) _ := hr.mono (by omega)
    have hr5 : Room 5 _ := hr.mono (by omega)
    refine ⟨_, (Evl.pss_cut (ps_set (i := 4) scBpr.nd rfl (.inr rfl) (pe_callL (i := 1) GA hr1 rfl (.inl rfl) kA bA .nil pass0 (pa_cons (pe_dget (Un.lt1 hr.units) (pv 0) (pv 2) (fun _ _ => rfl)) (pa_cons (pe_dget (Un.lt1 hr.units) (pv 0) (pv 3) (fun _ _ => rfl)) pa_nil))))
      (pss_one (ps_ret (Gx.pe_all hr (by rfl) T.z_all rfl scBpr.nd TB rfl (pi_list (pe_call GW hr5 (by rfl) gW FW.kp bW .nil pass0 (pa_cons (pv 2) (pa_cons (pv 3) pa_nil)))) (own := [("k", 5), ("claim", 6)]) (g := _) (tt := tYes) (blkOk_by (N := nBpr) (sc := defScope sBpr) (by decide +kernel)) ⟨rfl, by decide +kernel, rfl⟩ (fun _ _ _ _ _ _ _ => pg_tupB (K := K) (n := 2) rfl rfl (pgs_cons (pg_name (i := 5) scBpr.nd rfl (.inl rfl)) (pgs_cons (pg_name (i := 6) scBpr.nd rfl (.inl rfl)) pgs_nil))) (fun _ _ _ _ _ _ _ => pts_nil) (fun _ _ _ _ _ _ _ => (pe_and (pe_cmp (pc_din (Un.lt1 (Gx.room_gen hr2).units) (pv 6) (pv 0))) (pe_one (pe_cmpR op_le (pe_dget (Un.lt1 (Gx.room_gen hr2).units) (pv 0) (pv 6) (fun _ _ => rfl)) (pv 4) (nomark _))))))))), ?_⟩
    have g1 := rd_get hD h1
    have g2 := rd_get hD h2
    rw [hat a u ha] at g1
    rw [hat b v hb] at g2
    refine Evl.q_cut (M := fun σ' H' => σ' = [some (.ref D), some (.ref fa), some (.ref p1), some (.ref p2), some (.int ((M.A.ab u v : Nat) : Int)), none, none] ∧ Same H H') ?_ ?_
    · refine ⟨rfl, _, rfl, _, rfl, D, _, rfl, g1, _, rfl, _, rfl, D, _, rfl, g2, _, _, u, v, rfl, (iw.1 _ _ _).mpr rfl, (iw.1 _ _ _).mpr rfl, fun z H1 s1 hz => ?_⟩
      rw [(iw.1 _ _ _).mp hz]
      exact ⟨rfl, s1⟩
    rintro σ' H1 ⟨rfl, s1⟩
    have k1 : Ke Nof H H1 := .same s1
    refine ⟨_, rfl, _, rfl, .ref p1, .ref p2, a, b, rfl, ⟨p1, rfl, s1 _ _ h1⟩, ⟨p2, rfl, s1 _ _ h2⟩, ia, ib, k1.tabs _ tg, fun Wl H2 k2 fr ⟨wvs, hW, al⟩ => ?_⟩
    have k12 := k1.trans k2
    refine ⟨Wl, rfl, ⟨_, .of hW⟩, k12.tabs _ tp, fun H3 tb => ?_⟩
    have k23 : Ke Nof H2 H3 := .tabbed (k12.tabs _ tp) tb
    refine Gx.aa_it (walk_list (K := K) (a := Wl) (xs := wvs)) (Pv := fun i H' => Ke Nof H2 H') k23 (fun i H' _ p => .of (p.lst hW fun z => z)) ?_ (fun H' p => q H' (k12.trans p))
    rintro i x H4 H4' hi k24 ⟨rfl, hx⟩
    obtain ⟨⟨k0, cc⟩, hkc, prt⟩ := al.at hx
    have cm : Comes a b k0 cc := mem_ways.mp (List.mem_of_getElem? hkc)
    obtain ⟨n, hn, le⟩ := al0 k0 cc cm
    obtain ⟨t, q', rfl, ht, hq⟩ := prt
    have g := rd_get (rd_ke hD (k12.trans k24)) (k24.tups _ _ hq)
    rw [hat cc n hn] at g
    refine ⟨t, _, rfl, .of (k24.tups _ _ ht), rfl, _, _, rfl, _, _, rfl, rfl, rfl, _, rfl, _, rfl, D, _, rfl, g, true, rfl, _, rfl, _, rfl, D, _, rfl, g, _, rfl, _, _, rfl, rfl, .inr ⟨?_, k24⟩⟩
    exact congrArg V.bl (decide_eq_true (by omega))
abbrev sBrs : Stmt := topS 43
abbrev nBrs : List Str := ["book", "numbers", "above", "one", "other"]
theorem scBrs : FnScope nBrs ["book", "numbers", "above"] (defScope sBrs) := ⟨rfl, rfl, rfl, by decide +kernel, rfl, by decide +kernel, by decide +kernel⟩
/-- numbers that bear -/
structure Bears (M : Wk Nat) (css : List C) (ks : List C) (ws : C → Option Nat) : Prop where
  bk : ∀ c ∈ css, ws c = some 0
  ps : ∀ a b k c u v, ws a = some u → ws b = some v → Comes a b k c → ∃ n, ws c = some n ∧ n ≤ M.A.ab u v
  cl : ∀ c ∈ ks, IsCl c
  len : ks.length ≤ 81
structure BrT (H : Hp) (Po Pc Pk Pb Ps : Addr) : Prop where
  o : TabG H Po
  c : TabG H Pc
  k : TabG H Pk
  b : TabG H Pb
  s : TabG H Ps
theorem BrT.ke {F : Addr → Prop} {H H' : Hp} {Po Pc Pk Pb Ps : Addr} (t : BrT H Po Pc Pk Pb Ps) (k : Ke F H H') : BrT H' Po Pc Pk Pb Ps := ⟨k.tabs _ t.o, k.tabs _ t.c, k.tabs _ t.k, k.tabs _ t.b, k.tabs _ t.s⟩
def spBrs (M : Wk Nat) (fa Po Pc Pk Pb Ps : Addr) : Sp := fun vs H Q _ => ∃ (v : V) (D : Addr) (css ks : List C) (ws : C → Option Nat), vs = [v, .ref D, .ref fa] ∧ FewB H v css ∧ WtT M H D ks ws ∧ Bears M css ks ws ∧ BrT H Po Pc Pk Pb Ps ∧ ∀ H', Ke Nof H H' → Q (.bl true) H'
theorem ok_brs {M : Wk Nat} (iw : IntW M) {f c fC fK fP fa Po Pc Pk Pb Ps : Addr} {fd fdC fdK fdP : FuncData} {k : Nat} (F : FunC K "bears" "bears" sBrs f c fd) (T : Zbr mg) (TB : TabB base mg c Ps)
    (FC : Fun K "check_few_things" "check_few_things" sChk fC fdC) (bC : Binds K fdC ["book"] []) (gC : mg "check_few_things" = some (.ref fC)) (GC : FnOk P w K mg base CX0 3 fC fdC ["book"] (spChk Pc))
    (FK : Fun K "bears_book" "bears_book" sBbk fK fdK) (bK : Binds K fdK ["book", "numbers"] []) (gK : mg "bears_book" = some (.ref fK)) (GK : FnOk P w K mg base CX0 5 fK fdK ["book", "numbers"] (spBbk Pk))
    (FP : Fun K "bears_pair" "bears_pair" sBpr fP fdP) (bP : Binds K fdP ["numbers", "above", "one", "other"] []) (gP : mg "bears_pair" = some (.ref fP)) (GP : FnOk P w K mg base CX0 7 fP fdP ["numbers", "above", "one", "other"] (spBpr M fa Po Pb)) :
    FnOk P w K mg base CX0 (k + 9) f fd ["book", "numbers", "above"] (spBrs M fa Po Pc Pk Pb Ps) := by
  refine F.ok scBrs (fun vs H Q E h => ?_) (fun A outer s H vs Q E hr h => ?_)
  · obtain ⟨v, D, css, ks, ws, rfl, _⟩ := h
    rfl
  · obtain ⟨v, D, css, ks, ws, rfl, fb, wt, br, ts, q⟩ := h
    have hr3 : Room 3 _ := hr.mono (by omega)
    have hr5 : Room 5 _ := hr.mono (by omega)
    have hr8 : Room (7 + 1) _ := hr.mono (by omega)
    refine ⟨_, (Evl.pss_cut (ps_expr (pe_call GC hr3 (by rfl) gC FC.kp bC .nil pass0 (pa_cons (pv 0) pa_nil)))
      (Evl.pss_cut (ps_if (pt_not (pt_val (pe_call GK hr5 (by rfl) gK FK.kp bK .nil pass0 (pa_cons (pv 0) (pa_cons (pv 1) pa_nil))))) (pss_one (ps_ret pe_bl)) pss_nil)
      (pss_one (ps_lock (ps_ret (Gx.pe_all2 hr (by rfl) T.z_all rfl scBrs.nd TB rfl (pi_keys (pv 1)) (own := [("one", 3), ("other", 4)]) (vs1 := [4]) (g := gName 3) (g1 := gName 4) (tt := tYes) (tt1 := tYes) (blkOk_by (N := nBrs) (sc := defScope sBrs) (by decide +kernel)) ⟨rfl, by decide +kernel, rfl⟩
      (fun _ _ _ _ _ _ _ => pg_name (i := 3) scBrs.nd rfl (.inl rfl)) (fun _ _ _ _ _ _ _ => pts_nil) (by decide) (fun _ _ _ _ _ _ _ => pi_keys (pv 1)) (fun _ _ _ _ _ _ _ => pg_name (i := 4) scBrs.nd rfl (.inl rfl)) (fun _ _ _ _ _ _ _ => pts_nil)
      (fun _ _ _ _ _ _ _ => pe_call GP (Gx.room_gen hr8) (by rfl) gP FP.kp bP .nil pass0 (pa_cons (pv 1) (pa_cons (pv 2) (pa_cons (pv 3) (pa_cons (pv 4) pa_nil))))))))))), ?_⟩
    obtain ⟨⟨kvs, hD, hk, hno, hat⟩, nd, me⟩ := id wt
    have hat' : ∀ c n, ws c = some n → valV kvs (kT c) = some (.int ((n : Nat) : Int)) := fun c n h => by
      obtain ⟨x, e, r⟩ := hat c n h
      rw [e, (iw.1 _ _ _).mp r]
    have lk : kvs.length = ks.length := by
      have := congrArg List.length hk
      rwa [List.length_map, List.length_map] at this
    refine Evl.q_cut (M := fun σ' H' => σ' = [some v, some (.ref D), some (.ref fa), none, none] ∧ Ke Nof H H') ?_ ?_
    · exact ⟨_, rfl, v, css, rfl, fb.bk, fb.few, ts.c, fun H1 k1 => ⟨rfl, k1⟩⟩
    rintro σ' H1 ⟨rfl, k1⟩
    have hD1 : H1 D = some (.dT kvs) := k1.keep D _ hD (fun ps z => by cases z) fun z => z
    refine Evl.q_cut (M := fun σ' H' => σ' = [some v, some (.ref D), some (.ref fa), none, none] ∧ Ke Nof H H') ?_ ?_
    · exact ⟨_, rfl, _, rfl, v, D, css, kvs, rfl, fb.bk.ke k1, .inl hD1, fun c hc => hat' c 0 (br.bk c hc), k1.tabs _ ts.k, fun H2 k2 => ⟨true, rfl, rfl, k1.trans k2⟩⟩
    rintro σ' H2 ⟨rfl, k2⟩
    have hD2 : H2 D = some (.dT kvs) := k2.keep D _ hD (fun ps z => by cases z) fun z => z
    refine ⟨D, _, hD2, trivial, fun od => ?_⟩
    have hDf : (upd H2 D (.frz od (.dT kvs))) D = some (.frz od (.dT kvs)) := upd_same
    have tsf : BrT (upd H2 D (.frz od (.dT kvs))) Po Pc Pk Pb Ps := ts.ke (F := fun b => b = D) (ke_wrT (k2.mono fun b z => z.elim) rfl hD2)
    have back : ∀ {G}, Ke Nof (upd H2 D (.frz od (.dT kvs))) G → Ke Nof H2 (upd G D (.dT kvs)) := fun k => unlockedT hD2 k
    generalize upd H2 D (.frz od (.dT kvs)) = Hf at hDf tsf back ⊢
    refine ⟨_, rfl, D, od, rfl, .inr ⟨kvs, hDf, tsf.s, fun H3 tb => ?_⟩⟩
    have kf3 : Ke Nof Hf H3 := .tabbed tsf.s tb
    have fz : ∀ {G}, Ke Nof Hf G → G D = some (.frz od (.dT kvs)) := fun k => k.keep D _ hDf (fun ps z => by cases z) fun z => z
    have key : ∀ {i : Nat} {kx : List Key} {v1 : V}, kvs[i]? = some (kx, v1) → ∃ c n, kx = kT c ∧ c ∈ ks ∧ ws c = some n := fun {i kx v1} h => by
      have e : (kvs.map (·.1))[i]? = some kx := by rw [List.getElem?_map, h]; rfl
      rw [hk, List.getElem?_map] at e
      obtain ⟨c, h1, h2⟩ := Option.map_eq_some_iff.mp e
      obtain ⟨n, hn⟩ := (me c).mp (List.mem_of_getElem? h1)
      exact ⟨c, n, h2.symm, List.mem_of_getElem? h1, hn⟩
    refine Gx.aa2_it walk_keysT 81 (stopb := false) (Q := fun u H' => H' D = some (.frz od (.dT kvs)) ∧ Q u (upd H' D (.dT kvs))) (Pv := fun i H' => Ke Nof Hf H') kf3 (fun i H' _ p => fz p) ?_ (fun H' p => ⟨fz p, q _ (k2.trans (back p))⟩)
    rintro i x H4 H4' hi k4 ⟨rfl, kx, v1, q1, hk1, rfl, hq1⟩
    obtain ⟨a, u, rfl, ma, ha⟩ := key hk1
    rw [kT_v] at hq1
    refine ⟨rfl, _, rfl, D, od, rfl, .inr ⟨kvs, fz k4, ?_⟩⟩
    refine Gx.in2_it (stopb := false) (Q := fun u H' => H' D = some (.frz od (.dT kvs)) ∧ Q u (upd H' D (.dT kvs))) (vs1 := [4]) walk_keysT hi (by rw [lk]; exact br.len) (Pv := fun i H' => Ke Nof Hf H') (Pv1 := fun j H' => Ke Nof Hf H' ∧ H' q1 = some (.tup (a.map V.int))) ⟨k4, hq1⟩ (fun j H' _ p => fz p.1) ?_ (fun H' p => p.1)
    rintro j y H5 H5' hj ⟨k5, hq1'⟩ ⟨rfl, ky, v2, q2, hk2, rfl, hq2⟩
    obtain ⟨b, v', rfl, mb, hb⟩ := key hk2
    rw [kT_v] at hq2
    exact ⟨rfl, _, rfl, _, rfl, _, rfl, _, rfl, D, q1, q2, a, b, ws, kvs, u, v', rfl, .inr ⟨od, fz k5⟩, hat', hq1', hq2, ha, hb, br.cl a ma, br.cl b mb, fun k c cm => br.ps a b k c u v' ha hb cm, k5.tabs _ tsf.o, k5.tabs _ tsf.b, fun H6 k6 => .inr ⟨rfl, k5.trans k6, k6.tups _ _ hq1'⟩⟩
abbrev sBct : Stmt := topS 44
abbrev sBht : Stmt := topS 45
theorem scBct : FnScope ["book", "thing"] ["book", "thing"] (defScope sBct) := ⟨rfl, rfl, rfl, by decide +kernel, rfl, by decide +kernel, by decide +kernel⟩
theorem scBht : FnScope ["book", "thing"] ["book", "thing"] (defScope sBht) := ⟨rfl, rfl, rfl, by decide +kernel, rfl, by decide +kernel, by decide +kernel⟩
def spBct (M : Wk Nat) (Po Pc Pk Pb Ps : Addr) : Sp := fun vs H Q _ => ∃ (v : V) (D : Addr) (css ks : List C) (ws : C → Option Nat), vs = [v, .ref D] ∧ FewB H v css ∧ WtT M H D ks ws ∧ Bears M css ks ws ∧ BrT H Po Pc Pk Pb Ps ∧ ∀ H', Ke Nof H H' → Q (.bl true) H'
theorem ok_bct {f fB fa Po Pc Pk Pb Ps : Addr} {fd fdB : FuncData} {k : Nat} (F : Fun K "bears_cuts" "bears_cuts" sBct f fd) (FB : Fun K "bears" "bears" sBrs fB fdB) (bB : Binds K fdB ["book", "numbers", "above"] []) (gB : mg "bears" = some (.ref fB)) (gA : mg "cuts_above" = some (.ref fa)) (GB : FnOk P w K mg base CX0 10 fB fdB ["book", "numbers", "above"] (spBrs mN fa Po Pc Pk Pb Ps)) :
    FnOk P w K mg base CX0 (k + 11) f fd ["book", "thing"] (spBct mN Po Pc Pk Pb Ps) := by
  refine F.ok scBct (fun vs H Q E h => ?_) (fun cdv A outer s H vs Q E hr h => ?_)
  · obtain ⟨v, D, css, ks, ws, rfl, _⟩ := h
    rfl
  · obtain ⟨v, D, css, ks, ws, rfl, fb, wt, br, ts, q⟩ := h
    have hr10 : Room 10 _ := hr.mono (by omega)
    refine ⟨_, (pss_one (ps_ret (pe_call GB hr10 (by rfl) gB FB.kp bB .nil pass0 (pa_cons (pv 0) (pa_cons (pv 1) (pa_cons (pe_glob (v := .ref fa) rfl gA rfl) pa_nil)))))), ?_⟩
    exact ⟨_, rfl, _, rfl, v, D, css, ks, ws, rfl, fb, wt, br, ts, q⟩
theorem ok_bht {f fB fa Po Pc Pk Pb Ps : Addr} {fd fdB : FuncData} {k : Nat} (F : Fun K "bears_heights" "bears_heights" sBht f fd) (FB : Fun K "bears" "bears" sBrs fB fdB) (bB : Binds K fdB ["book", "numbers", "above"] []) (gB : mg "bears" = some (.ref fB)) (gA : mg "height_above" = some (.ref fa)) (GB : FnOk P w K mg base CX0 10 fB fdB ["book", "numbers", "above"] (spBrs mH fa Po Pc Pk Pb Ps)) :
    FnOk P w K mg base CX0 (k + 11) f fd ["book", "thing"] (spBct mH Po Pc Pk Pb Ps) := by
  refine F.ok scBht (fun vs H Q E h => ?_) (fun cdv A outer s H vs Q E hr h => ?_)
  · obtain ⟨v, D, css, ks, ws, rfl, _⟩ := h
    rfl
  · obtain ⟨v, D, css, ks, ws, rfl, fb, wt, br, ts, q⟩ := h
    have hr10 : Room 10 _ := hr.mono (by omega)
    refine ⟨_, (pss_one (ps_ret (pe_call GB hr10 (by rfl) gB FB.kp bB .nil pass0 (pa_cons (pv 0) (pa_cons (pv 1) (pa_cons (pe_glob (v := .ref fa) rfl gA rfl) pa_nil)))))), ?_⟩
    exact ⟨_, rfl, _, rfl, v, D, css, ks, ws, rfl, fb, wt, br, ts, q⟩
end
end Brs
namespace Xb
open PySem PySem.Spec PyProof.Rows L2 Nw Kp Lr
/-! ### is (not) True; enumerate over a list; claims as data -/
def rNotB : R2 := fun x y H Q => ∃ b c : Bool, x = .bl b ∧ y = .bl c ∧ Q (.bl (b != c)) H
theorem op_notB {X : Cx} : OpR X (compareOp .IsNot) rNotB := by
  intro pins s σ H x y v u Q I rx ry h
  obtain ⟨b, c, rfl, rfl, q⟩ := h
  cases rx
  cases ry
  exact isnot_bool ⟨.bl _, H, I, rfl, q⟩
theorem for_enl {K : PySem.W.Frag} {a : Addr} {xs : List V} {g : TG} {tb : TS} {D : Ends} {σ : L2.St} {H : Hp} (Pv : Nat → L2.St → Hp → Prop) (h0 : Pv 0 σ H) (hl : ∀ i σ H, i ≤ xs.length → Pv i σ H → SqL K H a xs)
    (hs : ∀ i x σ H T, xs[i]? = some x → Pv i σ H → H T = none → g (.ref T) σ (upd H T (.tup [.int (i : Nat), x])) fun σ2 H2 => tb { D with nx := Pv (i + 1), ct := Pv (i + 1), bk := D.nx } σ2 H2) (hd : ∀ σ H, Pv xs.length σ H → D.nx σ H) :
    ∃ W : Nat → Nat → L2.St → Hp → Prop, (∃ m, W 0 m σ H) ∧ ∀ i m σ H, W i m σ H →
      ((Ite K a).stop i H ∧ D.nx σ H) ∨ ((Ite K a).go i H ∧ ∃ N : L2.St → Hp → Prop, (∀ σ' H', N σ' H' → ∃ m', m' < m ∧ W (i + 1) m' σ' H') ∧ ∀ x H', (Ite K a).yld i H x H' → g x σ H' fun σ2 H2 => tb { D with nx := N, ct := N, bk := D.nx } σ2 H2) := by
  refine ⟨fun i m σ H => i + m = xs.length ∧ Pv i σ H, ⟨xs.length, Nat.zero_add _, h0⟩, fun i m σ H ⟨e, p⟩ => ?_⟩
  have sq := hl i σ H (by omega) p
  cases m with
  | zero =>
    obtain rfl : i = xs.length := by omega
    exact .inl ⟨⟨xs, sq, Nat.le_refl _⟩, hd σ H p⟩
  | succ m =>
    have hx := List.getElem?_eq_getElem (show i < xs.length by omega)
    refine .inr ⟨⟨xs, _, sq, hx⟩, Pv (i + 1), fun σ' H' q => ⟨m, Nat.lt_succ_self m, by omega, q⟩, ?_⟩
    rintro y H' ⟨T, x, rfl, nT, rfl, hy⟩
    exact hs i x σ H T (hy xs sq) p nT
def cdat (c : List Int) : PyData := .tuple (c.map PyData.int)
theorem dp_cls {K : PySem.W.Frag} {H : Hp} : ∀ {vs : List V} {cls : List (List Int)}, All2 (TupI H) vs cls → DpAll K H vs (cls.map cdat)
  | [], [], _ => .nil
  | [], r :: t, h => by cases h.1
  | v :: t, [], h => by cases h.1
  | v :: t, c :: u, h => by
    obtain ⟨a, rfl, ha⟩ := h.2 0 v c rfl rfl
    exact .cons (.tup (.of ha) (dp_ints c)) (dp_cls ⟨by have := h.1; simp only [List.length_cons] at this; omega, fun i x y h1 h2 => h.2 (i + 1) x y h1 h2⟩)
theorem lay_cls : ∀ cls : List (List Int), PyData.canLayAll0 (cls.map cdat) = true ∧ PyData.depthAll (cls.map cdat) ≤ 3
  | [] => ⟨rfl, by decide⟩
  | c :: t => by
    obtain ⟨h1, h2⟩ := lay_cls t
    refine ⟨?_, ?_⟩
    · show (PyData.canLayAll0 (c.map PyData.int) && PyData.canLayAll0 (t.map cdat)) = true
      rw [h1, flat_lay _ (flat_ints c)]
      rfl
    · show Nat.max (PyData.depthAll (c.map PyData.int) + 1) (PyData.depthAll (t.map cdat)) ≤ 3
      have := flat_depth _ (flat_ints c)
      exact Nat.max_le.mpr ⟨by omega, h2⟩
theorem shaped_cls (cls : List (List Int)) : SeqAt.shaped (.list (cls.map cdat)) = true := by
  obtain ⟨h1, h2⟩ := lay_cls cls
  show (PyData.canLayAll0 (cls.map cdat) && decide (PyData.depthAll (cls.map cdat) + 1 ≤ 64)) = true
  rw [h1, decide_eq_true (by omega)]
  rfl
theorem cut_to (xs : List V) (n : Nat) : cutV xs none (some (n : Int)) = xs.take n := by
  unfold cutV
  rw [HT.sIx_none, HT.sIx_nat, List.drop_zero, Nat.sub_zero]
  by_cases h : n ≤ xs.length
  · rw [Nat.min_eq_left h]
  · rw [Nat.min_eq_right (by omega), List.take_length, List.take_of_length_le (by omega)]
end Xb
namespace So
open PySem PySem.Spec PyProof.Rows L2 GxR Nw Dr Kp Se Ct Lr
/-! ### what is cut follows -/
theorem sh_opp {bs : List Bool} {k : Int} (h : 1 ≤ k) : sh bs (-k) = !sh bs k := by
  unfold sh
  rw [Int.natAbs_neg, decide_eq_true (by omega : 0 < k), decide_eq_false (by omega : ¬ 0 < -k)]
  cases bs.getD (k.natAbs - 1) false <;> rfl
theorem sound {x y c : List Int} {k : Int} {bs : List Bool} (hx : IsCl x) (hy : IsCl y) (h : Comes x y k c) (h1 : x.any (sh bs) = true) (h2 : y.any (sh bs) = true) : c.any (sh bs) = true := by
  obtain ⟨k1, kx, ky, _, _, me⟩ := h
  obtain ⟨s, hs, e⟩ := List.any_eq_true.mp h1
  obtain ⟨t, ht, e2⟩ := List.any_eq_true.mp h2
  by_cases z : s = k
  · by_cases z2 : t = -k
    · rw [z] at e
      rw [z2, sh_opp k1, e] at e2
      cases e2
    · refine List.any_eq_true.mpr ⟨t, (me t).mpr ⟨.inr ht, fun z3 => ?_⟩, e2⟩
      have e3 : t = k := by omega
      rw [e3] at ht
      exact hy.opp k ht ky
  · refine List.any_eq_true.mpr ⟨s, (me s).mpr ⟨.inl hs, fun z3 => ?_⟩, e⟩
    have e3 : s = -k := by omega
    rw [e3] at hs
    exact hx.opp k kx hs
theorem Lad.holds {css cls : List (List Int)} {rows : List Rw} (hb : ∀ c ∈ css, IsCl c) (h : Lad css rows cls) {bs : List Bool} (ha : ah bs css = true) : ∀ c ∈ cls, c.any (sh bs) = true := by
  have ic := h.isCl hb
  have key : ∀ n, n ≤ cls.length → ∀ c ∈ cls.take n, c.any (sh bs) = true := by
    intro n
    induction n with
    | zero => exact fun _ c hc => by simp at hc
    | succ n ih =>
      intro hn c hc
      rw [List.take_add_one] at hc
      rcases List.mem_append.mp hc with hc | hc
      · exact ih (by omega) c hc
      · have ln : n < cls.length := by omega
        have lr : n < rows.length := by rw [h.1]; exact ln
        rw [List.getElem?_eq_getElem ln] at hc
        obtain rfl : c = cls[n] := List.mem_singleton.mp hc
        have rc := h.2 n rows[n] cls[n] (List.getElem?_eq_getElem lr) (List.getElem?_eq_getElem ln)
        cases hr : rows[n] with
        | book m =>
          rw [hr] at rc
          exact List.all_eq_true.mp ha _ (List.mem_of_getElem? rc)
        | cut i j k =>
          rw [hr] at rc
          obtain ⟨x, y, h1, h2, h3⟩ := rc
          have m1 := List.mem_of_getElem? h1
          have m2 := List.mem_of_getElem? h2
          exact sound (ic x (List.mem_of_mem_take m1)) (ic y (List.mem_of_mem_take m2)) h3 (ih (by omega) x m1) (ih (by omega) y m2)
  have := key cls.length (Nat.le_refl _)
  rwa [List.take_length] at this
theorem Lad.noCtr {css cls : List (List Int)} {rows : List Rw} (hb : ∀ c ∈ css, IsCl c) (h : Lad css rows cls) {c : List Int} (hc : c ∈ cls) {bs : List Bool} : ¬ Ctr css c bs := fun ⟨_, h2, h3⟩ => by
  rw [Lad.holds hb h h3 c hc] at h2
  cases h2
theorem shF : SeqAt.shaped (.tuple [.str "follows"]) = true := by decide +kernel
end So
namespace Srd
open PySem PySem.Spec PyProof.Rows L2 Kp
/-! ### sorted(d) of a dict whose keys are tuples of whole numbers, of any lengths -/
/-- a tuple of these numbers -/
def IsC (h : Heap) (v : Value) (c : List Int) : Prop := ∃ a items, v = .ref a ∧ IsTup h a items ∧ IntsAre items.toList c
theorem IsC.keeps {h h' : Heap} {v : Value} {c : List Int} (x : IsC h v c) (k : ∀ b o, v = .ref b → h.get? b = some o → h'.get? b = some o) : IsC h' v c := by
  obtain ⟨a, items, e, ⟨o, ho, r⟩, i⟩ := x
  exact ⟨a, items, e, ⟨o, k a o e ho, r⟩, i⟩
section
variable {prog : Program} {w : World} {A : Around} {E : Value → Shared → Prop} {s : Shared}
theorem lex_go {c d : List Int} {xs ys : List Value} {Q : Bool → Shared → Prop} (i : Nat) (hx : IntsAre xs c) (hy : IntsAre ys d) (h : Q (HT.lexLt c d) s) : PySem.W.KatLex prog w A true (decide (xs.length < ys.length)) Q (xs.zip ys) i s := by
  induction hx generalizing ys d i with
  | nil =>
    cases hy with
    | nil => exact PySem.W.kat_nil h
    | cons m u hy' =>
      rw [HT.lexLt_nil_cons] at h
      exact PySem.W.kat_nil h
  | cons n t hx' ih =>
    rename_i xs' c'
    cases hy with
    | nil =>
      rw [HT.lexLt_cons_nil] at h
      exact PySem.W.kat_nil h
    | cons m u hy' =>
      rename_i ys' d'
      rw [HT.lexLt_cons] at h
      rw [List.zip_cons_cons]
      refine PySem.W.kat_cons (SeqAt.EqAt.int_int n t m u prog w _ _ ?_)
      refine PySem.W.kat_go (fun e => ?_) (fun e => ?_)
      · have ex : n = m := by simpa using e
        rw [if_pos ex] at h
        have q := ih (i + 1) hy' h
        refine PySem.W.kat_yes ?_
        have e2 : decide ((Value.int n t :: xs').length < (Value.int m u :: ys').length) = decide (xs'.length < ys'.length) := decide_eq_decide.mpr (by rw [List.length_cons, List.length_cons]; omega)
        rw [e2]
        exact q
      · have ex : ¬ n = m := by simpa using e
        rw [if_neg ex] at h
        refine PySem.W.kat_no ?_
        cases hb : (true && i == 0) with
        | true => exact oneLt_int h
        | false => exact PySem.W.kat_one _ _ (PyProof.Rows.lt_int h)
/-- the three ways in which tuples are told apart -/
def Way (κ : SortKind) : Prop := κ = tuples' true ∨ κ = general' ∨ κ = oneType'
theorem lt_way {κ : SortKind} (wy : Way κ) {v u : Value} {c d : List Int} {Q : Bool → Shared → Prop} (hu : A.units < cLine) (hv : IsC s.heap v c) (hw : IsC s.heap u d) (h : Q (HT.lexLt c d) s) : wpAny (model prog w) A (keyLt' κ v u) Q E s := by
  obtain ⟨a, xs, rfl, ta, ia⟩ := hv
  obtain ⟨b, ys, rfl, tb, ib⟩ := hw
  rcases wy with rfl | rfl | rfl
  · obtain ⟨o, ho, _, n, hd⟩ := ta
    obtain ⟨o', ho', _, n', hd'⟩ := tb
    refine PySem.W.kat_lt ho hd ho' hd' ?_
    have q := lex_go (prog := prog) (w := w) (A := A) (Q := Q) 0 ia ib h
    rw [Array.length_toList, Array.length_toList] at q
    exact q
  · exact PySem.W.kat_one _ _ (HT.lt_tupInts ta tb ia ib hu h)
  · obtain ⟨⟨cls, dd, data, sl⟩, ho, hc, n, hd⟩ := ta
    obtain ⟨⟨cls2, dd2, data2, sl2⟩, ho2, hc2, n2, hd2⟩ := tb
    simp only at hc hd hc2 hd2
    subst hc hd hc2 hd2
    rw [keyLt'_oneType, oneLt'_eq]
    simp only [if_true]
    refine wpAny_bind (wpAny_cRoomFor hu ?_)
    refine wpAny_bind (wpAny_callSpecialIfBound?_slot (name := "__lt__") (T := "tuple") ⟨_, ho, rfl⟩ PySem.F.slot_tuple_lt ?_)
    exact call_meets PySem.F.slot_tuple_lt ⟨_, ho, rfl⟩ PySem.F.entry_tuple_lt (PySem.F.args_tuple_lt_2 _ _) (HT.tuple_lt_ints a b xs ys n n2 dd dd2 sl sl2 c d ia ib) ⟨ho, ho2, wpAny_truthy_bool h⟩
theorem firsts_any {M : Model} {E : Value → Shared → Prop} : ∀ (vs : List Value) (cs : List (List Int)) {Q : List (Option Value) → Shared → Prop}, Lr.All2 (IsC s.heap) vs cs →
    (∀ fs : List (Option Value), fs.length = vs.length → (∀ (i : Nat) f c, fs[i]? = some f → cs[i]? = some c → (f = none ↔ c = [])) → Q fs s) → wpAny M A (vs.mapM firstOfTuple') Q E s
  | [], _, Q, _, h => by
    rw [List.mapM_nil]
    exact wpAny_pure (h [] rfl fun i f c e => by simp at e)
  | v :: vs, [], _, a, _ => absurd a.1 (by simp)
  | v :: vs, c :: cs, Q, a, h => by
    obtain ⟨x, xs, rfl, ⟨o, ho, hc, n, hd⟩, ix⟩ := a.2 0 v c rfl rfl
    have a' : Lr.All2 (IsC s.heap) vs cs := ⟨by have := a.1; simpa using this, fun i y d h1 h2 => a.2 (i + 1) y d h1 h2⟩
    rw [List.mapM_cons]
    refine wpAny_bind ?_
    rw [PySem.W.kas_first_eq]
    refine wpAny_bind (PySem.W.Looks.here (show PySem.W.Looks M s.heap (typeOf (.ref x)) o.cls from (PySem.W.Looks.ld ho).andThen .now) ?_)
    rw [hc, if_neg (by decide)]
    refine wpAny_bind (listItems_at ho hd (wpAny_pure ?_))
    refine wpAny_bind (firsts_any vs cs a' fun fs l e => wpAny_pure (h (xs[0]? :: fs) (by rw [List.length_cons, List.length_cons, l]) fun i f d h1 h2 => ?_))
    cases i with
    | zero =>
      obtain rfl : xs[0]? = f := Option.some.inj h1
      obtain rfl : c = d := Option.some.inj h2
      rw [← Array.getElem?_toList]
      generalize xs.toList = l at ix ⊢
      cases ix with
      | nil => simp
      | cons n t _ => simp
    | succ i => exact e i f d h1 h2
theorem kind_any {vs : List Value} {cs : List (List Int)} (h2 : 2 ≤ vs.length) (a : Lr.All2 (IsC s.heap) vs cs) : ∃ κ, Way κ ∧ ∀ (Q : SortKind → Shared → Prop) (E : Value → Shared → Prop), Q κ s → wpAny (model prog w) A (keyKind' vs.toArray) Q E s := by
  by_cases ne : ∀ c ∈ cs, c ≠ []
  · refine ⟨_, .inl rfl, fun Q E q => ?_⟩
    have key : ∀ (vs : List Value) (cs : List (List Int)), Lr.All2 (IsC s.heap) vs cs → (∀ c ∈ cs, c ≠ []) → ∃ fs, PySem.W.KatTups s.heap vs fs ∧ fs.length = vs.length ∧ ∀ f ∈ fs, ∃ x t, f = Value.int x t := by
      intro vs
      induction vs with
      | nil => exact fun cs _ _ => ⟨[], PySem.W.KatTups.nil, rfl, fun _ h => nomatch h⟩
      | cons v vs ih =>
        intro cs a ne
        cases cs with
        | nil => exact absurd a.1 (by simp)
        | cons c cs =>
          obtain ⟨x, xs, rfl, ⟨o, ho, hc, n, hd⟩, ix⟩ := a.2 0 v c rfl rfl
          obtain ⟨fs, h1, h2, h3⟩ := ih cs ⟨by have := a.1; simpa using this, fun i y d h1 h2 => a.2 (i + 1) y d h1 h2⟩ fun c hc => ne c (List.mem_cons_of_mem _ hc)
          have := ne c List.mem_cons_self
          generalize hl : xs.toList = l at ix
          cases ix with
          | nil => exact absurd rfl this
          | cons m t _ =>
            refine ⟨.int m t :: fs, PySem.W.KatTups.cons ho hc hd ?_ h1, by rw [List.length_cons, List.length_cons, h2], fun f hf => ?_⟩
            · rw [← Array.getElem?_toList, hl]
              rfl
            · rcases List.mem_cons.mp hf with rfl | z
              · exact ⟨m, t, rfl⟩
              · exact h3 f z
    obtain ⟨fs, h1, h3, h4⟩ := key vs cs a ne
    refine PySem.W.kat_kind (T := .type "int") h1 (by omega) (fun f hm => ?_) (by rfl) ?_
    · obtain ⟨x, t, rfl⟩ := h4 f hm
      exact PySem.W.Looks.now
    · have e : (Value.type "int" != Value.type "tuple") = true := by first | decide +kernel | rfl | decide
      rw [e]
      exact q
  · obtain ⟨c0, hc0⟩ := Classical.not_forall.mp ne
    obtain ⟨m0, e0⟩ := Classical.not_imp.mp hc0
    have e0 : c0 = [] := Classical.not_not.mp e0
    obtain ⟨i0, hi0⟩ := List.getElem?_of_mem m0
    have lv := a.1
    cases hc : cs with
    | nil =>
      have : vs.length = 0 := by rw [lv, hc]; rfl
      omega
    | cons d0 ds =>
      rw [hc] at a hi0
      have notall : ∀ fs : List (Option Value), fs.length = vs.length → (∀ (i : Nat) f c, fs[i]? = some f → (d0 :: ds)[i]? = some c → (f = none ↔ c = [])) → (fs.toArray.all fun x => x.isSome) = false := fun fs l e => by
        rw [List.all_toArray]
        have li : i0 < fs.length := by
          have := (List.getElem?_eq_some_iff.mp hi0).1
          have := a.1
          omega
        have hf := List.getElem?_eq_getElem li
        have n := (e i0 _ _ hf hi0).mpr e0
        rw [Bool.eq_false_iff]
        intro z
        have := List.all_eq_true.mp z _ (List.mem_of_getElem? hf)
        rw [n] at this
        cases this
      by_cases hd : d0 = []
      · refine ⟨oneType', .inr (.inr rfl), fun Q E q => ?_⟩
        rw [kat_kind_eq, List.mapM_toArray, map_eq_pure_bind]
        refine wpAny_bind (wpAny_bind (firsts_any vs _ a fun fs l e => wpAny_pure ?_))
        rw [if_neg (by rw [notall fs l e]; simp)]
        have f0 : (fs.toArray[0]?.bind id).isSome = false := by
          have lf : 0 < fs.length := by omega
          have h0 : fs[0]? = some fs[0] := List.getElem?_eq_getElem lf
          have n := (e 0 _ d0 h0 rfl).mpr hd
          rw [List.getElem?_toArray, h0, n]
          rfl
        rw [if_neg (by rw [f0]; simp)]
        rw [oneTypeOnly'_eq, List.mapM_toArray, map_eq_pure_bind]
        refine wpAny_bind (wpAny_bind (wpAny_bind (PySem.W.kas_mapM (r := Value.type "tuple") _ (fun v hv Q' hq => ?_) (wpAny_pure ?_))))
        · obtain ⟨j, hj⟩ := List.getElem?_of_mem hv
          obtain ⟨c, _, x, xs, rfl, ⟨o, ho, hcl, _⟩, _⟩ := a.at hj
          have lk : PySem.W.Looks (model prog w) s.heap (typeOf (.ref x)) o.cls := (PySem.W.Looks.ld ho).andThen .now
          rw [hcl] at lk
          exact lk.here hq
        · have hall : ((List.map (fun _ => Value.type "tuple") vs).toArray.all fun x => x == Value.type "tuple") = true := by
            simp only [List.all_toArray, List.all_map, List.all_eq_true]
            intro _ _
            rfl
          have h0 : (List.map (fun _ => Value.type "tuple") vs).toArray[0]? = some (Value.type "tuple") := by
            cases vs with
            | nil => simp at h2
            | cons v vs => simp
          rw [h0]
          simp only [hall, if_true]
          exact wpAny_pure (wpAny_pure q)
      · refine ⟨general', .inr (.inl rfl), fun Q E q => ?_⟩
        rw [kat_kind_eq, List.mapM_toArray, map_eq_pure_bind]
        refine wpAny_bind (wpAny_bind (firsts_any vs _ a fun fs l e => wpAny_pure ?_))
        rw [if_neg (by rw [notall fs l e]; simp)]
        have f0 : (fs.toArray[0]?.bind id).isSome = true := by
          have lf : 0 < fs.length := by omega
          have h0 : fs[0]? = some fs[0] := List.getElem?_eq_getElem lf
          rw [List.getElem?_toArray, h0]
          cases z : fs[0] with
          | none => exact absurd ((e 0 _ d0 h0 rfl).mp z) hd
          | some y => rfl
        rw [if_pos f0]
        exact wpAny_pure q
noncomputable def kOf (h : Heap) (v : Value) : List Int := open Classical in if x : ∃ c, IsC h v c then x.choose else []
theorem IsC.one {h : Heap} {v : Value} {c d : List Int} (a : IsC h v c) (b : IsC h v d) : c = d := by
  obtain ⟨x, xs, rfl, ⟨o, ho, _, n, hd⟩, ix⟩ := a
  obtain ⟨y, ys, e, ⟨o', ho', _, n', hd'⟩, iy⟩ := b
  cases e
  rw [ho] at ho'
  cases ho'
  rw [hd] at hd'
  cases hd'
  have one : ∀ {l : List Value} {c d : List Int}, IntsAre l c → IntsAre l d → c = d := by
    intro l c d h
    induction h generalizing d with
    | nil => intro g; cases g; rfl
    | cons n t _ ih => intro g; cases g with | cons _ _ g' => rw [ih g']
  exact one ix iy
theorem kOf_is {h : Heap} {v : Value} {c : List Int} (a : IsC h v c) : kOf h v = c := by
  unfold kOf
  have x : ∃ c, IsC h v c := ⟨c, a⟩
  rw [dif_pos x]
  exact x.choose_spec.one a
theorem sortableO {a : Addr} {vs : List Value} {cs : List (List Int)} (h2 : 2 ≤ vs.length) (hu : A.units < cLine) (al : Lr.All2 (IsC s.heap) vs cs) (ha : ∀ v ∈ vs, v ≠ .ref a) : SrtO.SortableO prog w A s a vs fun v u => HT.lexLt (kOf s.heap v) (kOf s.heap u) := by
  intro h' keep
  have al' : Lr.All2 (IsC h') vs cs := ⟨al.1, fun i v c h1 h2 => (al.2 i v c h1 h2).keeps fun b o e g => keep b o (fun z => ha v (List.mem_of_getElem? h1) (by rw [e, z])) g⟩
  obtain ⟨κ, wy, hk⟩ := kind_any (prog := prog) (w := w) (A := A) (s := { s with heap := h' }) h2 al'
  refine ⟨κ, hk, fun p q hp hq => ?_⟩
  obtain ⟨i, hi⟩ := List.getElem?_of_mem hp
  obtain ⟨j, hj⟩ := List.getElem?_of_mem hq
  obtain ⟨c, hc, ic⟩ := al.at hi
  obtain ⟨d, hd, id⟩ := al.at hj
  refine lt_way (s := { s with heap := h' }) wy hu (al'.2 i _ c hi hc) (al'.2 j _ d hj hd) ⟨rfl, ?_⟩
  show _ = HT.lexLt (kOf s.heap p.1) (kOf s.heap q.1)
  rw [kOf_is ic, kOf_is id]
end
/-- in order -/
def UpL (cs : List (List Int)) : Prop := cs.Pairwise fun x y => HT.lexLt y x = false
theorem cr_sortedDT {X : Cx} (hc : X.calm = true) (hu : X.A.units + 70 < cLine) : CallR X (.builtin "sorted") (fun xs H Q => ∃ (d : Addr) (kvs : List (List Key × V)) (ks : List (List Int)), xs = [.ref d] ∧ Rd H d (.dT kvs) ∧ kvs.map (·.1) = ks.map To.kT ∧
    ∀ (p : Addr) (as : List Addr) (cs : List (List Int)) (H2 : Hp), H p = none → Same H H2 → H2 p = some (.lst (as.map V.ref)) → Lr.All2 (fun a c => H2 a = some (.tup (c.map V.int))) as cs → cs.Perm ks → UpL cs → Q (.ref p) H2) := by
  intro pins s σ H xs us Q I r ask
  obtain ⟨d, kvs, ks, rfl, hd, hks, q⟩ := ask
  rw [Vals.ref1 r]
  obtain ⟨z, hs, ys, pr, o, es, ep, ho, hx, hdt, he, hn⟩ := (show ObjOk X.prog X.w H s.heap d (.dT kvs) from hd.ok I.hok)
  have l1 : es.size = ys.length := size_of_entries he
  have l2 : kvs.length = ys.length := Paired.length pr
  refine Calls.call_function_entry kind_sorted plain_sorted entry_sorted (args_sorted1 _) ?_
  unfold Builtin.«sorted»
  refine wpAny_bind (m := checkCount "sorted" 1 1 _) (wpAny_pure (wpAny_bind (PySem.W.kdu_collect (A := X.A.in1) (kdl_raw hs hx hdt) (I.ok.hd hc) ho (by omega) fun h' tk acc hk hacc => ?_)))
  have ea : acc.toList = ys.map fun x => Value.ref x.2.1 := by
    have hl : acc.toList.length = ys.length := by rw [Array.length_toList, hacc.1]; exact l1
    apply List.ext_getElem?
    intro j
    rw [List.getElem?_map]
    cases hj : acc.toList[j]? with
    | none =>
      have h1 := List.getElem?_eq_none_iff.mp hj
      rw [List.getElem?_eq_none (by omega)]
      rfl
    | some v =>
      obtain ⟨en, hen, hv⟩ := hacc.2 j v (by rw [← Array.getElem?_toList]; exact hj)
      have qe := entry_at he j
      rw [hen] at qe
      cases hb : ys[j]? with
      | none =>
        rw [hb] at qe
        exact nomatch (show some en = none from qe)
      | some b =>
        rw [hb] at qe
        have e2 : en = entryOfKey (tupleKind (mixKind X.prog X.w)) b := Option.some.inj qe
        rw [hv, e2]
        rfl
  generalize hvs : acc.toList = vs at ea
  have lv : vs.length = ks.length := by
    rw [ea, List.length_map, ← l2]
    have := congrArg List.length hks
    rwa [List.length_map, List.length_map] at this
  have lz : vs.length ≤ sizeLine := by rw [ea, List.length_map, ← l2]; exact z
  have keyAt : ∀ (i : Nat) (v : Value) (c : List Int), vs[i]? = some v → ks[i]? = some c → ∃ b, v = .ref b ∧ H b = some (.tup (c.map V.int)) := fun i v c h1 h2 => by
    have ik := isKeys_of pr
    rw [ea, List.getElem?_map] at h1
    obtain ⟨y, hy, rfl⟩ := Option.map_eq_some_iff.mp h1
    have hy2 : (ys.map fun x => x.2.1)[i]? = some y.2.1 := by rw [List.getElem?_map, hy]; rfl
    have li : i < kvs.length := by
      have := (List.getElem?_eq_some_iff.mp hy).1
      omega
    have hkv := List.getElem?_eq_getElem li
    have e3 : (kvs.map (·.1))[i]? = some (kvs[i]).1 := by rw [List.getElem?_map, hkv]; rfl
    rw [hks, List.getElem?_map, h2] at e3
    have e4 : To.kT c = (kvs[i]).1 := Option.some.inj e3
    have pa : ∀ {l : List (List Key × V)} {m : List Addr} {i : Nat} {p : List Key × V} {b : Addr}, Paired (fun (p : List Key × V) b => H b = some (.tup (p.1.map kV))) l m → l[i]? = some p → m[i]? = some b → H b = some (.tup (p.1.map kV)) := by
      intro l m i p b h
      induction h generalizing i with
      | nil => intro h; simp at h
      | cons h t ih =>
        intro h1 h2
        cases i with
        | zero =>
          cases h1
          cases h2
          exact h
        | succ i => exact ih h1 h2
    have := pa ik hkv hy2
    rw [← e4, To.kT_v] at this
    exact ⟨y.2.1, rfl, this⟩
  have isC : ∀ {h : Heap}, HOk X.prog X.w H h → Lr.All2 (IsC h) vs ks := fun {h} ok => ⟨lv, fun i v c h1 h2 => by
    obtain ⟨b, rfl, hb⟩ := keyAt i v c h1 h2
    obtain ⟨_, its, rv, p⟩ := ok b _ hb
    exact ⟨b, its.toArray, rfl, p, intsAre_of rv⟩⟩
  have I1 : Inv X pins σ H { s with heap := h', toks := tk } := I.kept hk
  refine wpAny_bind (wpAny_newList ?_ lz)
  have at1 : (h'.push (seqObj "list" vs.toArray 0)).get? h'.objs.size = some (seqObj "list" vs.toArray 0) := Heap.get?_push_size _ rfl
  have al2 : Lr.All2 (IsC (h'.push (seqObj "list" vs.toArray 0))) vs ks := ⟨lv, fun i v c h1 h2 => ((isC I1.hok).2 i v c h1 h2).keeps fun b o _ e => Heap.get?_push_of_some _ e⟩
  have apart : ∀ v ∈ vs, v ≠ .ref h'.objs.size := fun v hv e => by
    obtain ⟨i, hi⟩ := List.getElem?_of_mem hv
    obtain ⟨c, hcc, b, xs, e2, ⟨ob, hob, _⟩, _⟩ := (isC I1.hok).at hi
    rw [e2] at e
    cases e
    exact Nat.lt_irrefl _ (Heap.lt_size hob)
  show wpAny _ _ _ _ _ { s with heap := h'.push (seqObj "list" vs.toArray 0), toks := tk }
  refine wpAny_bind (wpAny_holding (wpAny_call_entry slot_list_sort ⟨_, at1, rfl⟩ entry_list_sort (SrtO.list_sort_ord (s := { s with heap := h'.push (seqObj "list" vs.toArray 0), toks := tk }) (NtL.swo_lexL fun v => kOf (h'.push (seqObj "list" vs.toArray 0)) v) at1 lz (fun h2 => sortableO h2 (by have e : X.A.in1.in1.units = X.A.units + 1 + 1 := rfl; omega) al2 apart) fun out c1 c2 => ⟨_, rfl, ?_⟩) (args_list_sort _)))
  obtain ⟨c, hcc⟩ := sortedHeap_at (vs := vs) (out := out.toArray) at1
  have memv : ∀ v ∈ out, ∃ b cc, v = .ref b ∧ H b = some (.tup (cc.map V.int)) ∧ kOf (h'.push (seqObj "list" vs.toArray 0)) v = cc := fun v hv => by
    obtain ⟨i, hi⟩ := List.getElem?_of_mem (c2.perm.mem_iff.mp hv)
    obtain ⟨cc, hcc, ic⟩ := al2.at hi
    obtain ⟨b, e, hb⟩ := keyAt i v cc hi hcc
    exact ⟨b, cc, e, hb, kOf_is ic⟩
  have outAs : ∀ l : List Value, (∀ v ∈ l, v ∈ out) → ∃ as : List Addr, l = as.map Value.ref ∧ Lr.All2 (fun a cc => H a = some (.tup (cc.map V.int))) as (l.map (kOf (h'.push (seqObj "list" vs.toArray 0)))) := by
    intro l
    induction l with
    | nil => exact fun _ => ⟨[], rfl, .nil⟩
    | cons v l ih =>
      intro hl
      obtain ⟨as, e, a2⟩ := ih fun v hv => hl v (List.mem_cons_of_mem _ hv)
      obtain ⟨b, cc, rfl, hb, ek⟩ := memv v (hl v List.mem_cons_self)
      refine ⟨b :: as, by rw [List.map_cons, e], ⟨by rw [List.length_cons, List.map_cons, List.length_cons, a2.1], fun i x y h1 h2 => ?_⟩⟩
      cases i with
      | zero =>
        cases h1
        have h2 : kOf (h'.push (seqObj "list" vs.toArray 0)) (.ref b) = y := Option.some.inj h2
        rw [← h2, ek]
        exact hb
      | succ i => exact a2.2 i x y h1 h2
  obtain ⟨as, eo, a2⟩ := outAs out fun _ h => h
  have hlen : (as.map V.ref).length ≤ sizeLine := by
    have : as.length = out.length := by rw [eo, List.length_map]
    rw [List.length_map, this, c2.perm.length_eq]
    exact lz
  have emap : ∀ {l : List Value} {m : List (List Int)}, Lr.All2 (IsC (h'.push (seqObj "list" vs.toArray 0))) l m → l.map (kOf (h'.push (seqObj "list" vs.toArray 0))) = m := by
    intro l
    induction l with
    | nil =>
      intro m h
      cases m with
      | nil => rfl
      | cons _ _ => exact absurd h.1 (by simp)
    | cons v l ih =>
      intro m h
      cases m with
      | nil => exact absurd h.1 (by simp)
      | cons c m =>
        rw [List.map_cons, kOf_is (h.2 0 v c rfl rfl), ih ⟨by have := h.1; simpa using this, fun i x y h1 h2 => h.2 (i + 1) x y h1 h2⟩]
  have pn : (out.map (kOf (h'.push (seqObj "list" vs.toArray 0)))).Perm ks := by
    have := c2.perm.map (kOf (h'.push (seqObj "list" vs.toArray 0)))
    rwa [emap al2] at this
  have up : UpL (out.map (kOf (h'.push (seqObj "list" vs.toArray 0)))) := List.pairwise_map.mpr c1
  have np := I1.hok.fresh (Nat.le_refl h'.objs.size)
  refine wpAny_pure ⟨_, rfl, .ref h'.objs.size, upd H h'.objs.size (.lst (as.map V.ref)), I1.laid (t' := tk) (fun b u e => ?_) (Nat.le_refl _) (show ObjOk X.prog X.w _ _ _ (.lst (as.map V.ref)) from ⟨hlen, out, c, by rw [eo]; exact vals_refs as, hcc⟩), rfl, q _ as _ _ np (Nw.same_new np) upd_same ⟨a2.1, fun i x y h1 h2 => Nw.same_new np _ _ (a2.2 i x y h1 h2)⟩ pn up⟩
  have hlt : b < h'.objs.size := Heap.lt_size e
  rw [sortedHeap_old (Nat.ne_of_lt hlt) (by rw [size_push']; exact Nat.lt_succ_of_lt hlt)]
  exact Heap.get?_push_of_some _ e
end Srd
namespace Lwf
open PySem PySem.Spec PyProof.Rows L2 GxR Nw Dr Kp Cl
abbrev sFew : Stmt := topS 60
theorem scFew : FnScope ["pen", "most", "many", "found", "turn", "claim"] ["pen"] (defScope sFew) := ⟨rfl, rfl, rfl, by decide +kernel, rfl, by decide +kernel, by decide +kernel⟩
section
variable {P : Program} {w : World} {K : PySem.W.Frag} {mg : Str → Option Value} {base : Heap} {fD : Addr} {fdD : FuncData}
/-- a book of few things, drawn -/
def spFew : Sp := fun vs H Q _ => ∃ (f c : Addr) (B : Nat), vs = [.ref f] ∧ Feed H f c B ∧ B ≤ 2 ^ 26 ∧
  ∀ (css : List (List Int)) (p : Addr) (m : Int) (H' : Hp), Feed H' f c (B + 600) → Ke (· = f) H H' → Frs H p → Bk H' (.ref p) css → 1 ≤ m → m ≤ 4 → (∀ cs ∈ css, Of m cs) → 1 ≤ css.length → css.length ≤ 16 → Q (.ref p) H'
theorem ok_few {f fC : Addr} {fd fdC : FuncData} {k : Nat} (F : Fun K "_law_e_few" "_law_e_few" sFew f fd) (T : Zs mg) (FD : Fun K "_law_e_take" "_law_e_take" sDrw fD fdD) (bD : Binds K fdD ["pen", "many"] []) (gD : mg "_law_e_take" = some (.ref fD)) (GD : FnOk P w K mg base CX0 2 fD fdD ["pen", "many"] spDrw)
    (FC : Fun K "_law_e_claim" "_law_e_claim" sClm fC fdC) (bC : Binds K fdC ["pen", "most", "wide"] []) (gC : mg "_law_e_claim" = some (.ref fC)) (GC : FnOk P w K mg base CX0 3 fC fdC ["pen", "most", "wide"] spClm) :
    FnOk P w K mg base CX0 (k + 4) f fd ["pen"] spFew := by
  refine F.ok scFew (fun vs H Q E h => ?_) (fun cdv A outer s H vs Q E hr h => ?_)
  · obtain ⟨f, c, B, rfl, _⟩ := h
    rfl
  · obtain ⟨f, c, B, rfl, hF, hB, q⟩ := h
    have hr2 : Room 2 _ := hr.mono (by omega)
    have hr3 : Room 3 _ := hr.mono (by omega)
    refine ⟨_, (Evl.pss_cut (ps_set (i := 1) scFew.nd rfl (.inl rfl) (pe_ix ix_list (pe_lstN (pa_cons pe_int (pa_cons pe_int (pa_cons pe_int (pa_cons pe_int (pa_cons pe_int (pa_cons pe_int pa_nil))))))) (pe_call GD hr2 (by rfl) gD FD.kp bD .nil pass0 (pa_cons (pv 0) (pa_cons pe_int pa_nil))) (fun _ _ => rfl)))
      (Evl.pss_cut (ps_set (i := 2) scFew.nd rfl (.inl rfl) (pe_ix ix_list (pe_lstN (pa_cons pe_int (pa_cons pe_int (pa_cons pe_int pa_nil)))) (pe_call GD hr2 (by rfl) gD FD.kp bD .nil pass0 (pa_cons (pv 0) (pa_cons pe_int pa_nil))) (fun _ _ => rfl)))
      (pss_cons (ps_set (i := 3) scFew.nd rfl (.inl rfl) (pe_lstN pa_nil))
      (Evl.pss_cut (ps_for PassesOwn.never rfl (pi_range1 (by rfl) T.z_range (pa_cons (pe_op op_add pe_int (pe_call GD hr2 (by rfl) gD FD.kp bD .nil pass0 (pa_cons (pv 0) (pa_cons (pv 2) pa_nil)))) pa_nil)) (pg_name (i := 4) scFew.nd rfl (.inl rfl)) (Evl.pss_cut (ps_set (i := 5) scFew.nd rfl (.inl rfl) (pe_call GC hr3 (by rfl) gC FC.kp bC .nil pass0 (pa_cons (pv 0) (pa_cons (pv 1) (pa_cons (pe_ix ix_list (pe_lstN (pa_cons pe_int (pa_cons pe_int (pa_cons pe_int pa_nil)))) (pe_call GD hr2 (by rfl) gD FD.kp bD .nil pass0 (pa_cons (pv 0) (pa_cons pe_int pa_nil))) (fun _ _ => rfl)) pa_nil)))))
      (Evl.pss_cut (ps_if (PW.pt (pw_and (pt_cmpR (op_eqD hr.units) (pv 5) (pe_tupN pa_nil) (nomark _)) (pw_and1 (pt_cmpR op_gt (pe_call GD hr2 (by rfl) gD FD.kp bD .nil pass0 (pa_cons (pv 0) (pa_cons pe_int pa_nil))) pe_int (nomark _))))) (pss_one (ps_set (i := 5) scFew.nd rfl (.inl rfl) (pe_tupN (pa_cons (pe_op op_add pe_int (pe_call GD hr2 (by rfl) gD FD.kp bD .nil pass0 (pa_cons (pv 0) (pa_cons (pv 1) pa_nil)))) pa_nil)))) pss_nil)
      (pss_one (ps_expr (pe_bm PySem.F.plainAttrs_list PySem.F.slot_list_append PySem.F.type_list_append mt_append (pv 3) (pa_cons (pv 5) pa_nil)))))))
      (pss_one (ps_ret (pe_callTy call_tuple_ofN (by rfl) T.z_tuple (by decide +kernel) (pa_cons (pv 3) pa_nil)))))))), ?_⟩
    -- most
    refine Evl.q_cut (M := fun σ' H' => ∃ m : Int, σ' = [some (.ref f), some (.int m), none, none, none, none] ∧ 1 ≤ m ∧ m ≤ 4 ∧ Feed H' f c (B + 1) ∧ Ke (· = f) H H') ?_ ?_
    · refine ⟨by show 6 ≤ sizeLine; decide, fun p4 H4 np4 s4 hp4 _ => ⟨_, rfl, f, c, 6, _, rfl, by decide, by decide, hF.same s4, by omega, fun e H5 e0 e1 F5 b5 => ?_⟩⟩
      have pk : ∃ mm : Int, 1 ≤ mm ∧ mm ≤ 4 ∧ atI [V.int 4, V.int 3, V.int 4, V.int 2, V.int 1, V.int 4] e = some (.int mm) := by
        have four : e = 0 ∨ e = 1 ∨ e = 2 ∨ e = 3 ∨ e = 4 ∨ e = 5 := by omega
        rcases four with rfl | rfl | rfl | rfl | rfl | rfl <;> exact ⟨_, by decide, by decide, rfl⟩
      obtain ⟨mm, mm0, mm1, ha⟩ := pk
      exact ⟨p4, _, e, .int mm, rfl, rfl, .of (b5.lst hp4 (hF.nf np4)), ha, mm, rfl, mm0, mm1, F5, (Ke.same s4).trans b5⟩
    rintro σ' H1 ⟨m, rfl, m0, m4, F1, k1⟩
    have m8 : m ≤ 8 := by omega
    -- many
    refine Evl.q_cut (M := fun σ' H' => ∃ ma : Int, σ' = [some (.ref f), some (.int m), some (.int ma), none, none, none] ∧ 1 ≤ ma ∧ ma ≤ 16 ∧ Feed H' f c (B + 2) ∧ Ke (· = f) H H') ?_ ?_
    · refine ⟨by show 3 ≤ sizeLine; decide, fun p4 H4 np4 s4 hp4 _ => ⟨_, rfl, f, c, 3, _, rfl, by decide, by decide, F1.same s4, by omega, fun e H5 e0 e1 F5 b5 => ?_⟩⟩
      have pk : ∃ mm : Int, 1 ≤ mm ∧ mm ≤ 16 ∧ atI [V.int 10, V.int 16, V.int 10] e = some (.int mm) := by
        have four : e = 0 ∨ e = 1 ∨ e = 2 := by omega
        rcases four with rfl | rfl | rfl <;> exact ⟨_, by decide, by decide, rfl⟩
      obtain ⟨mm, mm0, mm1, ha⟩ := pk
      exact ⟨p4, _, e, .int mm, rfl, rfl, .of (b5.lst hp4 (F1.nf np4)), ha, mm, rfl, mm0, mm1, F5, k1.trans ((Ke.same s4).trans b5)⟩
    rintro σ' H2 ⟨ma, rfl, ma1, ma16, F2, k2⟩
    refine ⟨Nat.zero_le _, fun L H1 nL s1 hL _ => ?_⟩
    have nLf : L ≠ f := F2.nf nL
    have nLc : L ≠ c := F2.nc nL
    have frL : Frs H L := .ke k2 F2 (.of nL)
    have frL2 : Frs H2 L := .of nL
    refine Evl.q_cut (M := fun σ' H' => ∃ (y4 y5 : Option V) (css : List (List Int)), σ' = [some (.ref f), some (.int m), some (.int ma), some (.ref L), y4, y5] ∧ Feed H' f c (B + 600) ∧ Ke (· = f) H2 H' ∧ Ls H' L css ∧ (∀ cs ∈ css, Of m cs) ∧ 1 ≤ css.length ∧ css.length ≤ 16) ?_ ?_
    · have F1 : Feed H1 f c (B + 2) := F2.same s1
      refine ⟨_, rfl, _, rfl, f, c, _, B + 2, rfl, by omega, by omega, F1, by omega, fun d H2' d0 d1 F2' b2 => ?_⟩
      refine ⟨_, _, rfl, rfl, 1 + d, rfl, by omega, by omega, for_range (Pv := fun i σ H' => ∃ (y4 y5 : Option V) (css : List (List Int)), σ = [some (.ref f), some (.int m), some (.int ma), some (.ref L), y4, y5] ∧ Feed H' f c (B + 3 + 30 * i) ∧ Ke (· = f) H2 H' ∧ Ls H' L css ∧ (∀ cs ∈ css, Of m cs) ∧ css.length = i) ?_ ?_ ?_⟩
      · exact ⟨none, none, [], rfl, F2', (Ke.same s1).trans b2, ⟨[], b2.lst hL nLf, rfl, fun i x cs h => by simp at h⟩, fun cs h => (nomatch h), rfl⟩
      · rintro i σ H3 hi ⟨y4, y5, css, rfl, F3, k3, ⟨vs, hL3, lv, hv⟩, oc, lc⟩
        have hi : i < (1 + d).toNat := hi
        refine Evl.q_cut (M := fun σ' H' => ∃ (p : Addr) (cs : List Int), σ' = [some (.ref f), some (.int m), some (.int ma), some (.ref L), some (.int (0 + (i : Int))), some (.ref p)] ∧ Feed H' f c (B + 3 + 30 * i + 22) ∧ Ke (· = f) H3 H' ∧ H' p = some (.tup (cs.map V.int)) ∧ Of m cs) ?_ ?_
        · refine ⟨_, rfl, _, rfl, by show 3 ≤ sizeLine; decide, fun p4 H4 np4 s4 hp4 _ => ⟨_, rfl, f, c, 3, _, rfl, by decide, by decide, F3.same s4, by omega, fun e H5 e0 e1 F5 b5 => ?_⟩⟩
          have pk : ∃ mm : Int, 0 ≤ mm ∧ mm ≤ 8 ∧ atI [V.int 2, V.int 3, V.int 4] e = some (.int mm) := by
            have four : e = 0 ∨ e = 1 ∨ e = 2 := by omega
            rcases four with rfl | rfl | rfl <;> exact ⟨_, by decide, by decide, rfl⟩
          obtain ⟨mm, mm0, mm1, ha⟩ := pk
          refine ⟨p4, _, e, .int mm, rfl, rfl, .of (b5.lst hp4 (F3.nf np4)), ha, f, c, m, mm, _, rfl, m0, m8, mm0, mm1, F5, by omega, fun cs p H6 F6 k6 _ hp h1 h2 _ => ?_⟩
          exact ⟨p, cs, rfl, F6.mono (by omega), ((Ke.same s4).trans b5).trans k6, hp, h1, h2⟩
        rintro σ' H4 ⟨p, cs, rfl, F4, k4, hp, hc⟩
        -- if claim == () and ..
        refine Evl.q_cut (M := fun σ' H' => ∃ (p : Addr) (cs : List Int), σ' = [some (.ref f), some (.int m), some (.int ma), some (.ref L), some (.int (0 + (i : Int))), some (.ref p)] ∧ Feed H' f c (B + 3 + 30 * i + 25) ∧ Ke (· = f) H3 H' ∧ H' p = some (.tup (cs.map V.int)) ∧ Of m cs) ?_ ?_
        · refine ⟨_, rfl, Nat.zero_le _, fun p5 H5 np5 s5 hp5 _ => ?_⟩
          have F5 := F4.same s5
          have k5 : Ke (· = f) H3 H5 := k4.trans (.same s5)
          refine ⟨_, _, .tup (.of (s5 _ _ hp)) (dp_ints cs), .tup (.of hp5) .nil, shaped_tuple (flat_ints _), shaped_tuple rfl, _, rfl, ite2 (fun e => ?_) (fun e => ?_)⟩
          · refine ⟨_, rfl, f, c, 6, _, rfl, by decide, by decide, F5, by omega, fun g H6 g0 g1 F6 b6 => ?_⟩
            have k6 : Ke (· = f) H3 H6 := k5.trans b6
            refine ⟨_, _, rfl, rfl, _, rfl, ite2 (fun e => ?_) (fun e => ?_)⟩
            · refine ⟨_, rfl, _, rfl, f, c, m, _, rfl, by omega, by omega, F6, by omega, fun g H7 g0 g1 F7 b7 => ?_⟩
              refine ⟨_, _, rfl, rfl, by show 1 ≤ sizeLine; decide, fun p8 H8 np8 s8 hp8 _ => ?_⟩
              exact ⟨p8, [1 + g], rfl, (F7.same s8).mono (by omega), (k6.trans b7).trans (.same s8), hp8, of_one (by omega) (by omega) m8⟩
            · exact ⟨p, cs, rfl, F6.mono (by omega), k6, b6.tups _ _ (s5 _ _ hp), hc⟩
          · exact ⟨p, cs, rfl, F5.mono (by omega), k5, s5 _ _ hp, hc⟩
        rintro σ' H5 ⟨p, cs, rfl, F5, k5, hp, hc⟩
        -- found.append(claim)
        have hL5 : H5 L = some (.lst vs) := k5.lst hL3 nLf
        refine ⟨_, rfl, .inl ⟨rfl, _, .of hL5⟩, _, rfl, L, _, _, rfl, rfl, hL5, small1000 (by omega), ?_⟩
        have k6 : Ke (· = f) H2 (upd H5 L (.lst (vs ++ [.ref p]))) := (k3.trans k5).write frL2 hL5
        have tp : ∀ {x : V} {ds : List Int}, TupI H5 x ds → TupI (upd H5 L (.lst (vs ++ [.ref p]))) x ds := fun {x ds} ⟨a, e, h⟩ => ⟨a, e, by
          have n : a ≠ L := fun z => by
            rw [z, hL5] at h
            cases h
          rw [upd_ne n]
          exact h⟩
        refine ⟨_, _, css ++ [cs], rfl, (F5.upd nLf nLc).mono (by omega), k6, ⟨vs ++ [.ref p], upd_same, by rw [List.length_append, List.length_append, lv]; rfl, ix_append lv (fun i x ds h1 h2 => tp ((hv i x ds h1 h2).ke k5)) (tp ⟨p, rfl, hp⟩)⟩, fun ds hd => ?_, by rw [List.length_append, lc]; rfl⟩
        rcases List.mem_append.mp hd with z | z
        · exact oc ds z
        · rw [List.mem_singleton.mp z]
          exact hc
      · rintro σ H3 ⟨y4, y5, css, rfl, F3, k3, ls, oc, lc⟩
        have lc' : css.length = (1 + d).toNat := lc
        exact ⟨y4, y5, css, rfl, F3.mono (by omega), k3, ls, oc, by omega, by omega⟩
    rintro σ' H3 ⟨y4, y5, css, rfl, F3, k3, ⟨vs, hL2, lv, hv⟩, oc, l1, l2⟩
    refine ⟨_, rfl, L, vs, rfl, .of hL2, fun p H4 np s4 hp _ => ?_⟩
    have k4 : Ke (· = f) H3 H4 := .same s4
    exact q css p m H4 (F3.same s4) (k2.trans (k3.trans k4)) (.ke k2 F2 (.ke k3 F3 (.of np))) ⟨p, vs, rfl, hp, lv, fun i x cs h1 h2 => (hv i x cs h1 h2).ke k4⟩ m0 m4 oc l1 l2
end
end Lwf
namespace Ecb
open PySem PySem.Spec PyProof.Rows L2 GxR Nw Dr Kp Se Ct Lr
/-! ### the law's own cut -/
structure Zec (mg : Str → Option Value) : Prop where
  z_any : mg "any" = none
  z_tuple : mg "tuple" = none
  z_sorted : mg "sorted" = none
def restB (cs ds : List Int) (k : Int) : List Int := (cs.filter fun s => decide (s ≠ k)) ++ ds.filter fun s => decide (s ≠ 0 - k) && decide (s ∉ cs)
theorem rest_iff {cs ds : List Int} {k : Int} (hc : IsCl cs) (hd : IsCl ds) (kc : k ∈ cs) (kd : 0 - k ∈ ds) (k1 : 1 ≤ k) (j : Int) : j ∈ restB cs ds k ↔ Bes cs ds k j := by
  have kd' : -k ∈ ds := by
    rw [show -k = 0 - k by omega]
    exact kd
  rw [← says_iff hc hd kc kd' k1]
  unfold restB saysB
  rw [List.mem_append, List.mem_append, List.mem_filter, List.mem_filter, List.mem_filter, List.mem_filter, not_int, not_int, decide_eq_true_iff, Bool.and_eq_true, decide_eq_true_iff, decide_eq_true_iff]
  constructor
  · rintro (h | ⟨h1, h2, h3⟩)
    · exact .inl h
    · exact .inr ⟨h1, by omega⟩
  · rintro (h | ⟨h1, h2⟩)
    · exact .inl h
    · by_cases z : j ∈ cs
      · refine .inl ⟨z, fun e => ?_⟩
        rw [e] at h1
        exact hd.opp k h1 kd'
      · exact .inr ⟨h1, by omega, z⟩
theorem rest_nd {cs ds : List Int} {k : Int} (hc : IsCl cs) (hd : IsCl ds) : (restB cs ds k).Nodup := by
  have nd : ∀ {l : List Int}, l.Pairwise (· < ·) → l.Nodup := fun h => h.imp fun {a b} z => by omega
  unfold restB
  rw [List.nodup_append]
  refine ⟨(nd hc.up).sublist List.filter_sublist, (nd hd.up).sublist List.filter_sublist, fun a ha b hb e => ?_⟩
  obtain ⟨h1, _⟩ := List.mem_filter.mp ha
  obtain ⟨_, h2⟩ := List.mem_filter.mp hb
  rw [Bool.and_eq_true, decide_eq_true_iff, decide_eq_true_iff] at h2
  exact h2.2 (e ▸ h1)
section
variable {P : Program} {w : World} {K : PySem.W.Frag} {mg : Str → Option Value} {base : Heap}
abbrev sEcb : Stmt := topS 61
abbrev nEcb : List Str := ["one", "other", "k", "rest", "say"]
theorem scEcb : FnScope nEcb ["one", "other", "k"] (defScope sEcb) := ⟨rfl, rfl, rfl, by decide +kernel, rfl, by decide +kernel, by decide +kernel⟩
def spEcb : Sp := fun vs H Q _ => ∃ (v u : V) (k : Int) (cs ds : List Int), vs = [v, u, .int k] ∧ TupI H v cs ∧ TupI H u ds ∧ IsCl cs ∧ IsCl ds ∧ 1 ≤ k ∧
  (∀ H', Same H H' → NoCome cs ds k → Q .non H') ∧ ∀ (ns : List Int) (p : Addr) (H' : Hp), Same H H' → Comes cs ds k ns → H' p = some (.tup (ns.map V.int)) → Q (.ref p) H'
theorem ok_ecb {f : Addr} {fd : FuncData} {k : Nat} (F : Fun K "_law_e_cut_by" "_law_e_cut_by" sEcb f fd) (T : Zec mg) : FnOk P w K mg base CX0 (k + 1) f fd ["one", "other", "k"] spEcb := by
  refine F.ok scEcb (fun vs H Q E h => ?_) (fun cdv A outer s H vs Q E hr h => ?_)
  · obtain ⟨v, u, k, cs, ds, rfl, _⟩ := h
    rfl
  · obtain ⟨v, u, k, cs, ds, rfl, ⟨a, rfl, ha⟩, ⟨b, rfl, hb⟩, hc, hd, k1, q1, q2⟩ := h
    refine ⟨_, (Evl.pss_cut (ps_if (PW.pt (pw_or (pt_cmpR op_notIn_seq (pv 2) (pv 0) (by rfl)) (pw_or1 (pt_cmpR op_notIn_seq (pe_op op_sub pe_int (pv 2)) (pv 1) (by rfl))))) (pss_one (ps_ret pe_non)) pss_nil)
      (Evl.pss_cut (ps_set (i := 3) scEcb.nd rfl (.inr rfl) (pe_op op_catN (pe_lc (own := [("say", 4)]) (g := (gName 4))  rfl scEcb.nd (pi_tup (pv 0)) (blkOk_by (N := nEcb) (sc := defScope sEcb) (by decide +kernel)) (fun _ _ _ _ _ => (pg_name (i := 4) scEcb.nd rfl (.inl rfl))) (fun _ _ _ _ _ => (pts_one (pt_cmpR op_ne (pv 4) (pv 2) (nomark _)))) (fun _ _ _ _ _ => (pv 4))) (pe_lc (own := [("say", 4)]) (g := (gName 4))  rfl scEcb.nd (pi_tup (pv 1)) (blkOk_by (N := nEcb) (sc := defScope sEcb) (by decide +kernel)) (fun _ _ _ _ _ => (pg_name (i := 4) scEcb.nd rfl (.inl rfl))) (fun _ _ _ _ _ => (pts_one (PW.pt (pw_and (pt_cmpR op_ne (pv 4) (pe_op op_sub pe_int (pv 2)) (nomark _)) (pw_and1 (pt_cmpR (op_notIn_seqB (K := K) rfl) (pv 4) (pv 0) (by rfl))))))) (fun _ _ _ _ _ => (pv 4)))))
      (Evl.pss_cut (ps_if (pt_val (pe_callB (cr_any rfl) (by rfl) T.z_any (by decide +kernel) (pa_cons (pe_lc (own := [("say", 4)]) (g := (gName 4)) (tt := tYes) rfl scEcb.nd (pi_list (pv 3)) (blkOk_by (N := nEcb) (sc := defScope sEcb) (by decide +kernel)) (fun _ _ _ _ _ => (pg_name (i := 4) scEcb.nd rfl (.inl rfl))) (fun _ _ _ _ _ => pts_nil) (fun _ _ _ _ _ => (pe_cmpR (op_in_seqB (K := K) rfl) (pe_op op_sub pe_int (pv 4)) (pv 3) (by rfl)))) pa_nil))) (pss_one (ps_ret pe_non)) pss_nil)
      (pss_one (ps_ret (pe_callTy call_tuple_ofN (by rfl) T.z_tuple (by decide +kernel) (pa_cons (pe_callB cr_sortedN (by rfl) T.z_sorted (by decide +kernel) (pa_cons (pv 3) pa_nil)) pa_nil))))))), ?_⟩
    have lc := hc.len
    have ld := hd.len
    by_cases kc : k ∈ cs
    · by_cases kd : 0 - k ∈ ds
      · refine Evl.q_cut (M := fun σ' H' => σ' = [some (.ref a), some (.ref b), some (.int k), none, none] ∧ H' = H) ?_ ?_
        · refine ⟨_, rfl, _, rfl, a, _, rfl, .inr (.of ha), rfl, ints_flat cs, false, by rw [(Un.in_ints k cs).mpr kc]; rfl, ?_⟩
          exact ⟨_, rfl, _, _, rfl, rfl, _, rfl, b, _, rfl, .inr (.of hb), rfl, ints_flat ds, false, by rw [(Un.in_ints (0 - k) ds).mpr kd]; rfl, rfl, rfl⟩
        rintro σ' H0 ⟨rfl, rfl⟩
        refine Evl.q_cut (M := fun σ' H' => ∃ p : Addr, σ' = [some (.ref a), some (.ref b), some (.int k), some (.ref p), none] ∧ Same H0 H' ∧ H' p = some (.lst ((restB cs ds k).map V.int))) ?_ ?_
        · refine ⟨_, rfl, a, rfl, ⟨_, .of ha⟩, fun D nD => ?_⟩
          refine lc_tup (xs := cs.map V.int) (Pv := fun i H' => Same H0 H' ∧ H' D = some (.lst (((cs.take i).filter fun s => decide (s ≠ k)).map V.int))) ⟨same_new nD, upd_same⟩ (fun i H' _ p => .of (p.1 _ _ ha)) ?_ ?_
          · rintro i x H' hx ⟨s1, hD⟩
            obtain ⟨z, hz, rfl⟩ := at_int hx
            have ft := filt_take (f := fun s => decide (s ≠ k)) hz
            refine ⟨rfl, _, rfl, _, rfl, rfl, _, rfl, ite2 (fun y1 => ?_) (fun y1 => ?_)⟩
            · have y1 : decide (z ≠ k) = true := decide_eq_true (not_int.mp y1)
              refine ⟨_, rfl, _, hD, ?_, fun c o y => ?_, ?_⟩
              · rw [List.length_map]
                exact small1000 (Nat.le_trans (List.length_filter_le _ _) (by rw [List.length_take]; omega))
              · rw [upd_ne (ne_of_none y nD)]
                exact s1 _ _ y
              · rw [upd_same, ft, if_pos y1, List.map_append]
                rfl
            · have y1 : ¬ decide (z ≠ k) = true := fun e => y1 (not_int.mpr (of_decide_eq_true e))
              refine ⟨s1, ?_⟩
              rw [ft, if_neg y1, List.append_nil]
              exact hD
          rintro H1 ⟨s1, hD⟩
          rw [List.length_map, List.take_length] at hD
          refine ⟨_, rfl, b, rfl, ⟨_, .of (s1 _ _ hb)⟩, fun D2 nD2 => ?_⟩
          refine lc_tup (xs := ds.map V.int) (Pv := fun i H' => Same H1 H' ∧ H' D2 = some (.lst (((ds.take i).filter fun s => decide (s ≠ 0 - k) && decide (s ∉ cs)).map V.int))) ⟨same_new nD2, upd_same⟩ (fun i H' _ p => .of (p.1 _ _ (s1 _ _ hb))) ?_ ?_
          · rintro i x H' hx ⟨s2, hD2⟩
            obtain ⟨z, hz, rfl⟩ := at_int hx
            have ft := filt_take (f := fun s => decide (s ≠ 0 - k) && decide (s ∉ cs)) hz
            have no : ¬ (decide (z ≠ 0 - k) && decide (z ∉ cs)) = true → Same H1 H' ∧ H' D2 = some (.lst (((ds.take (i + 1)).filter fun s => decide (s ≠ 0 - k) && decide (s ∉ cs)).map V.int)) := fun y => ⟨s2, by rw [ft, if_neg y, List.append_nil]; exact hD2⟩
            refine ⟨rfl, _, rfl, _, rfl, _, _, rfl, rfl, rfl, decide (z ≠ 0 - k), ?_, ?_⟩
            · show V.bl (!decide (V.int z = V.int (0 - k))) = V.bl (decide (z ≠ 0 - k))
              congr 1
              rw [Bool.eq_iff_iff, not_int, decide_eq_true_iff]
            cases e1 : decide (z ≠ 0 - k) with
            | false => exact no (by rw [e1]; simp)
            | true =>
              refine ⟨_, rfl, _, rfl, a, _, rfl, .inr (.of (s2 _ _ (s1 _ _ ha))), rfl, ints_flat cs, decide (z ∉ cs), ?_, ?_⟩
              · show V.bl (!inV (.int z) (cs.map V.int)) = V.bl (decide (z ∉ cs))
                congr 1
                rw [Bool.eq_iff_iff, decide_eq_true_iff, Bool.not_eq_true', ← Un.in_ints z cs, Bool.not_eq_true]
              cases e2 : decide (z ∉ cs) with
              | false => exact no (by rw [e1, e2]; simp)
              | true =>
                refine ⟨_, rfl, _, hD2, ?_, fun c o y => ?_, ?_⟩
                · rw [List.length_map]
                  exact small1000 (Nat.le_trans (List.length_filter_le _ _) (by rw [List.length_take]; omega))
                · rw [upd_ne (ne_of_none y nD2)]
                  exact s2 _ _ y
                · rw [upd_same, ft, if_pos (by rw [e1, e2]; rfl), List.map_append]
                  rfl
          rintro H2 ⟨s2, hD2⟩
          rw [List.length_map, List.take_length] at hD2
          refine ⟨D, D2, _, _, rfl, rfl, s2 _ _ hD, hD2, ?_, fun p H3 np s3 hp _ => ?_⟩
          · rw [List.length_map, List.length_map]
            have h1 := List.length_filter_le (fun s => decide (s ≠ k)) cs
            have h2 := List.length_filter_le (fun s => decide (s ≠ 0 - k) && decide (s ∉ cs)) ds
            exact Nat.le_trans (by omega : _ ≤ 1000) (by decide)
          · rw [← List.map_append] at hp
            exact ⟨p, rfl, (s1.trans s2).trans s3, hp⟩
        rintro σ' H1 ⟨p, rfl, s1, hp⟩
        have ri := rest_iff hc hd kc kd k1
        have rn := rest_nd (k := k) hc hd
        have lr : (restB cs ds k).length ≤ 16 := by
          unfold restB
          rw [List.length_append]
          have h1 := List.length_filter_le (fun s => decide (s ≠ k)) cs
          have h2 := List.length_filter_le (fun s => decide (s ≠ 0 - k) && decide (s ∉ cs)) ds
          omega
        generalize restB cs ds k = rs at hp ri rn lr
        have kd' : -k ∈ ds := by
          rw [show -k = 0 - k by omega]
          exact kd
        have tr : ∀ b : Bool, b = rs.any (fun s => decide (0 - s ∈ rs)) → (b = true → NoCome cs ds k) ∧ (b = false → ∀ j, Bes cs ds k j → ¬ Bes cs ds k (-j)) := fun b e => by
          refine ⟨fun h => ?_, fun h j h1 h2 => ?_⟩
          · rw [h] at e
            obtain ⟨s, hs, h2⟩ := List.any_eq_true.mp e.symm
            have h2 := of_decide_eq_true h2
            exact .inr (.inr (.inr ⟨s, (ri s).mp hs, by rw [show -s = 0 - s by omega]; exact (ri _).mp h2⟩))
          · rw [h] at e
            have := List.any_eq_false.mp e.symm j ((ri j).mpr h1)
            exact this (decide_eq_true (by rw [show 0 - j = -j by omega]; exact (ri _).mpr h2))
        refine Evl.q_cut (M := fun σ' H' => σ' = [some (.ref a), some (.ref b), some (.int k), some (.ref p), none] ∧ Same H1 H' ∧ ∀ j, Bes cs ds k j → ¬ Bes cs ds k (-j)) ?_ ?_
        · refine ⟨_, rfl, p, rfl, ⟨_, .of hp⟩, fun D nD => ?_⟩
          refine lc_list (xs := rs.map V.int) (Pv := fun i H' => Same H1 H' ∧ H' D = some (.lst (((rs.take i).map fun s => decide (0 - s ∈ rs)).map V.bl))) ⟨same_new nD, upd_same⟩ (fun i H' _ p => .of (p.1 _ _ hp)) ?_ ?_
          · rintro i x H' hx ⟨s2, hD⟩
            obtain ⟨z, hz, rfl⟩ := at_int hx
            refine ⟨rfl, _, rfl, _, _, rfl, rfl, _, rfl, p, _, rfl, .inl (.of (s2 _ _ hp)), rfl, ints_flat rs, _, hD, ?_, fun c o y => ?_, ?_⟩
            · rw [List.length_map, List.length_map, List.length_take]
              exact small1000 (by omega)
            · rw [upd_ne (ne_of_none y nD)]
              exact s2 _ _ y
            · rw [upd_same, Lp.take_snoc hz, List.map_append, List.map_append]
              have e : inV (.int (0 - z)) (rs.map V.int) = decide (0 - z ∈ rs) := by rw [Bool.eq_iff_iff, Un.in_ints, decide_eq_true_iff]
              rw [e]
              rfl
          rintro H2 ⟨s2, hD⟩
          rw [List.length_map, List.take_length] at hD
          refine ⟨D, _, rfl, .of hD, _, rfl, ite2 (fun e => ?_) (fun e => ?_)⟩
          · have e : (rs.map fun s => decide (0 - s ∈ rs)).any id = true := e
            rw [List.any_map] at e
            exact q1 H2 (s1.trans s2) ((tr true e.symm).1 rfl)
          · have e : ¬ (rs.map fun s => decide (0 - s ∈ rs)).any id = true := e
            rw [List.any_map] at e
            exact ⟨rfl, s2, (tr false (Bool.eq_false_iff.mpr e).symm).2 rfl⟩
        rintro σ' H2 ⟨rfl, s2, no⟩
        refine ⟨_, rfl, p, _, rfl, .of (s2 _ _ hp), fun ns pn so S H3 nS s3 hS _ => ?_⟩
        refine ⟨S, _, rfl, .of hS, fun t H4 nt s4 ht _ => q2 ns t H4 (((s1.trans s2).trans s3).trans s4) ⟨k1, kc, kd', no, ?_, fun j => (pn.mem_iff).trans (ri j)⟩ ht⟩
        have nn : ns.Nodup := pn.nodup_iff.mpr rn
        exact (so.and nn).imp fun {x y} h => by omega
      · refine Evl.q_cut (M := fun _ _ => False) ?_ (fun _ _ h => h.elim)
        refine ⟨_, rfl, _, rfl, a, _, rfl, .inr (.of ha), rfl, ints_flat cs, false, by rw [(Un.in_ints k cs).mpr kc]; rfl, ?_⟩
        refine ⟨_, rfl, _, _, rfl, rfl, _, rfl, b, _, rfl, .inr (.of hb), rfl, ints_flat ds, true, ?_, q1 H (Same.refl _) (.inr (.inr (.inl ?_)))⟩
        · have e : inV (.int (0 - k)) (ds.map V.int) = false := Bool.eq_false_iff.mpr fun z => kd ((Un.in_ints _ _).mp z)
          rw [e]
          rfl
        · rw [show -k = 0 - k by omega]
          exact kd
    · refine Evl.q_cut (M := fun _ _ => False) ?_ (fun _ _ h => h.elim)
      refine ⟨_, rfl, _, rfl, a, _, rfl, .inr (.of ha), rfl, ints_flat cs, true, ?_, q1 H (Same.refl _) (.inr (.inl kc))⟩
      have e : inV (.int k) (cs.map V.int) = false := Bool.eq_false_iff.mpr fun z => kc ((Un.in_ints _ _).mp z)
      rw [e]
      rfl
end
end Ecb
namespace Grn
open PySem PySem.Spec PyProof.Rows L2 GxR Nw Dr Kp Se Ct Lr Cl Ecb
open Tr (T At)
/-! ### trees grown by the law -/
structure Zgr (mg : Str → Option Value) : Prop where
  z_len : mg "len" = none
  z_range : mg "range" = none
  z_max : mg "max" = none
abbrev It := T × List Int
/-- trees and their claims -/
def TrL (H : Hp) (L : Addr) (its : List It) : Prop := ∃ vs, H L = some (.lst vs) ∧ All2 (fun v (x : It) => At H x.1 v) vs its
def KnA (H : Hp) (v : V) (x : It) : Prop := ∃ a b, v = .ref a ∧ H a = some (.tup [.ref b, .int ((x.1.cuts : Nat) : Int)]) ∧ H b = some (.tup (x.2.map V.int))
def KnL (H : Hp) (L : Addr) (its : List It) : Prop := ∃ vs, H L = some (.lst vs) ∧ All2 (KnA H) vs its
/-- a way to cut: what comes, of which, by which -/
abbrev En := List Int × Nat × Nat × Int
def EnA (H : Hp) (v : V) (e : En) : Prop := ∃ a b, v = .ref a ∧ H a = some (.tup [.ref b, .int ((e.2.1 : Nat) : Int), .int ((e.2.2.1 : Nat) : Int), .int e.2.2.2]) ∧ H b = some (.tup (e.1.map V.int))
def EnL (H : Hp) (L : Addr) (es : List En) : Prop := ∃ vs, H L = some (.lst vs) ∧ All2 (EnA H) vs es
def Good (its : List It) (es : List En) : Prop := ∀ e ∈ es, ∃ x y, its[e.2.1]? = some x ∧ its[e.2.2.1]? = some y ∧ Comes x.2 y.2 e.2.2.2 e.1
def Small (its : List It) (es : List En) : Prop := ∀ e ∈ es, ∃ x y, its[e.2.1]? = some x ∧ its[e.2.2.1]? = some y ∧ Comes x.2 y.2 e.2.2.2 e.1 ∧ x.1.cuts + y.1.cuts < 40
structure Gw (css : List (List Int)) (m : Nat) (its : List It) : Prop where
  cl : ∀ x ∈ its, Tr.Cl css x.1 x.2
  cu : ∀ x ∈ its, x.1.cuts ≤ 40
  de : ∀ x ∈ its, x.1.depth ≤ m
variable {F : Addr → Prop} {H H' : Hp}
theorem KnA.tp {v : V} {x : It} (h : KnA H v x) (t : ∀ a xs, H a = some (.tup xs) → H' a = some (.tup xs)) : KnA H' v x := by
  obtain ⟨a, b, e, h1, h2⟩ := h
  exact ⟨a, b, e, t _ _ h1, t _ _ h2⟩
theorem EnA.tp {v : V} {x : En} (h : EnA H v x) (t : ∀ a xs, H a = some (.tup xs) → H' a = some (.tup xs)) : EnA H' v x := by
  obtain ⟨a, b, e, h1, h2⟩ := h
  exact ⟨a, b, e, t _ _ h1, t _ _ h2⟩
theorem atTp (t : ∀ a xs, H a = some (.tup xs) → H' a = some (.tup xs)) : ∀ {s : T} {v : V}, At H s v → At H' s v
  | .leaf n, v, h => by
    obtain ⟨a, e, h⟩ := h
    exact ⟨a, e, t _ _ h⟩
  | .cut s u k, v, h => by
    obtain ⟨a, x, y, e, h, h1, h2⟩ := h
    exact ⟨a, x, y, e, t _ _ h, atTp t h1, atTp t h2⟩
theorem TrL.tp {L : Addr} {its : List It} (h : TrL H L its) (t : ∀ a xs, H a = some (.tup xs) → H' a = some (.tup xs)) (l : H' L = H L) : TrL H' L its := by
  obtain ⟨vs, h1, h2⟩ := h
  exact ⟨vs, l.trans h1, h2.imp fun _ _ r => atTp t r⟩
theorem KnL.tp {L : Addr} {its : List It} (h : KnL H L its) (t : ∀ a xs, H a = some (.tup xs) → H' a = some (.tup xs)) (l : H' L = H L) : KnL H' L its := by
  obtain ⟨vs, h1, h2⟩ := h
  exact ⟨vs, l.trans h1, h2.imp fun _ _ r => r.tp t⟩
theorem EnL.tp {L : Addr} {es : List En} (h : EnL H L es) (t : ∀ a xs, H a = some (.tup xs) → H' a = some (.tup xs)) (l : H' L = H L) : EnL H' L es := by
  obtain ⟨vs, h1, h2⟩ := h
  exact ⟨vs, l.trans h1, h2.imp fun _ _ r => r.tp t⟩
theorem tp_upd {D : Addr} {ys : List V} {o : HO} (h : H D = some (.lst ys)) : ∀ a xs, H a = some (.tup xs) → upd H D o a = some (.tup xs) := fun a xs e => by
  rw [upd_ne (fun z => by rw [z, h] at e; cases e)]
  exact e
theorem lst_ke {L : Addr} {vs : List V} (k : Ke F H H') (h : H L = some (.lst vs)) (n : ¬ F L) : H' L = H L := (k.lst h n).trans h.symm
theorem at_lst {α : Type} {xs : List α} {x : α} (h : xs[xs.length - 1]? = some x) : atI xs (-1) = some x := by
  have l := (List.getElem?_eq_some_iff.mp h).1
  unfold atI
  have e : ixN xs.length (-1) = some (xs.length - 1) := by
    unfold ixN
    rw [if_neg (by decide), if_pos (by omega)]
    congr 1
    omega
  rw [e]
  exact h
theorem at_nat {xs : List V} {n : Nat} {x : V} (h : xs[n]? = some x) : atI xs ((n : Nat) : Int) = some x := at_of (j := n) rfl h
/-! what it tells when compared with [] -/
def edat (e : En) : PyData := .tuple [.tuple (e.1.map PyData.int), .int ((e.2.1 : Nat) : Int), .int ((e.2.2.1 : Nat) : Int), .int e.2.2.2]
theorem dp_ens {K : PySem.W.Frag} : ∀ {vs : List V} {es : List En}, All2 (EnA H) vs es → DpAll K H vs (es.map edat)
  | [], [], _ => .nil
  | [], _ :: _, h => absurd h.1 (by simp)
  | _ :: _, [], h => absurd h.1 (by simp)
  | v :: t, e :: u, h => by
    obtain ⟨a, b, rfl, h1, h2⟩ := h.2 0 v e rfl rfl
    exact .cons (.tup (.of h1) (.cons (.tup (.of h2) (dp_ints _)) (.cons (.int _) (.cons (.int _) (.cons (.int _) .nil))))) (dp_ens ⟨by have := h.1; simpa using this, fun i x y g1 g2 => h.2 (i + 1) x y g1 g2⟩)
theorem lay_ens : ∀ es : List En, PyData.canLayAll0 (es.map edat) = true ∧ PyData.depthAll (es.map edat) ≤ 5
  | [] => ⟨rfl, by decide⟩
  | e :: t => by
    obtain ⟨h1, h2⟩ := lay_ens t
    refine ⟨?_, ?_⟩
    · show ((PyData.canLayAll0 (e.1.map PyData.int) && true) && PyData.canLayAll0 (t.map edat)) = true
      rw [h1, flat_lay _ (flat_ints _)]
      rfl
    · show Nat.max (PyData.depthAll [PyData.tuple (e.1.map PyData.int), .int ((e.2.1 : Nat) : Int), .int ((e.2.2.1 : Nat) : Int), .int e.2.2.2] + 1) (PyData.depthAll (t.map edat)) ≤ 5
      have := flat_depth _ (flat_ints e.1)
      have d1 : PyData.depthAll [PyData.tuple (e.1.map PyData.int), .int ((e.2.1 : Nat) : Int), .int ((e.2.2.1 : Nat) : Int), .int e.2.2.2] = Nat.max (PyData.depthAll (e.1.map PyData.int) + 1) 0 := by
        show Nat.max (PyData.depthAll (e.1.map PyData.int) + 1) (Nat.max 0 (Nat.max 0 (Nat.max 0 0))) = _
        rfl
      rw [d1]
      have : Nat.max (PyData.depthAll (e.1.map PyData.int) + 1) 0 ≤ 2 := Nat.max_le.mpr ⟨by omega, by omega⟩
      exact Nat.max_le.mpr ⟨by omega, h2⟩
theorem shaped_ens (es : List En) : SeqAt.shaped (.list (es.map edat)) = true := by
  obtain ⟨h1, h2⟩ := lay_ens es
  show (PyData.canLayAll0 (es.map edat) && decide (PyData.depthAll (es.map edat) + 1 ≤ 64)) = true
  rw [h1, decide_eq_true (by omega)]
  rfl
theorem ne_ens (es : List En) : (!PyData.eqv (.list (es.map edat)) (.list [])) = decide (es ≠ []) := by
  cases es with
  | nil =>
    have : PyData.eqv (.list []) (.list []) = true := eqv_self (shaped_list rfl)
    show (!PyData.eqv (.list []) (.list [])) = _
    rw [this]
    rfl
  | cons e t =>
    have : PyData.eqv (.list (List.map edat (e :: t))) (.list []) = false := by
      rw [List.map_cons]
      simp [PyData.eqv, PyData.eqvAll]
    rw [this]
    simp
section
variable {P : Program} {w : World} {K : PySem.W.Frag} {mg : Str → Option Value} {base : Heap} {fD : Addr} {fdD : FuncData}
abbrev sDep : Stmt := topS 65
theorem scDep : FnScope ["tree"] ["tree"] (defScope sDep) := ⟨rfl, rfl, rfl, by decide +kernel, rfl, by decide +kernel, by decide +kernel⟩
def spDep (d : Nat) : Sp := fun vs H Q _ => ∃ (v : V) (t : T), vs = [v] ∧ At H t v ∧ t.depth ≤ d ∧ Q (.int ((t.depth : Nat) - 1 : Int)) H
theorem ok_dep {f : Addr} {fd : FuncData} (F : Fun K "_law_e_deep" "_law_e_deep" sDep f fd) (T : Zgr mg) (bS : Binds K fd ["tree"] []) (gS : mg "_law_e_deep" = some (.ref f)) : ∀ d, FnOk P w K mg base CX0 (d + 1) f fd ["tree"] (spDep d) := by
  intro d
  induction d with
  | zero =>
    refine F.ok scDep (fun vs H Q E h => ?_) (fun cdv A outer s H vs Q E hr h => ?_)
    · obtain ⟨v, t, rfl, _⟩ := h
      rfl
    · obtain ⟨v, t, rfl, _, h0, _⟩ := h
      have := t.pos
      omega
  | succ d ih =>
    refine F.ok scDep (fun vs H Q E h => ?_) (fun cdv A outer s H vs Q E hr h => ?_)
    · obtain ⟨v, t, rfl, _⟩ := h
      rfl
    · obtain ⟨v, t, rfl, ht, hd, q⟩ := h
      have hrd : Room (d + 1) _ := hr
      refine ⟨_, (pss_cons (ps_if (pt_cmpR op_eq (pe_ix ix_tup (pv 0) pe_int (fun _ _ => rfl)) pe_str (nomark _)) (pss_one (ps_ret pe_int)) pss_nil)
      (pss_one (ps_ret (pe_op op_add pe_int (pe_callB (call_max2 rfl) (by rfl) T.z_max (by decide +kernel) (pa_cons (pe_call ih hrd (by rfl) gS F.kp bS .nil pass0 (pa_cons (pe_ix ix_tup (pv 0) pe_int (fun _ _ => rfl)) pa_nil)) (pa_cons (pe_call ih hrd (by rfl) gS F.kp bS .nil pass0 (pa_cons (pe_ix ix_tup (pv 0) pe_int (fun _ _ => rfl)) pa_nil)) pa_nil))))))), ?_⟩
      cases t with
      | leaf n =>
        obtain ⟨a, rfl, ha⟩ := id ht
        exact ⟨_, rfl, a, _, 0, .str "book", rfl, rfl, .of ha, rfl, rfl, true, by simp, q⟩
      | cut tl tr k0 =>
        obtain ⟨a, x, y, rfl, ha, h1, h2⟩ := id ht
        have dp : (Tr.T.cut tl tr k0).depth = 1 + max tl.depth tr.depth := rfl
        refine ⟨_, rfl, a, _, 0, .str "cut", rfl, rfl, .of ha, rfl, rfl, false, by simp; decide, ?_⟩
        refine ⟨_, rfl, a, _, 1, x, rfl, rfl, .of ha, rfl, x, tl, rfl, h1, by omega, ?_⟩
        refine ⟨_, rfl, a, _, 2, y, rfl, rfl, .of ha, rfl, y, tr, rfl, h2, by omega, _, _, rfl, _, _, rfl, rfl, ?_⟩
        have p1 := tl.pos
        have p2 := tr.pos
        have e : (((Tr.T.cut tl tr k0).depth : Nat) - 1 : Int) = 1 + (if ((tr.depth : Nat) - 1 : Int) > ((tl.depth : Nat) - 1 : Int) then ((tr.depth : Nat) - 1 : Int) else ((tl.depth : Nat) - 1 : Int)) := by
          rw [dp]
          split <;> omega
        rw [e] at q
        exact q
abbrev sGrn : Stmt := topS 64
abbrev nGrn : List Str := ["pen", "book", "trees", "claim", "known", "turn", "here", "some", "there", "k", "more", "one", "two", "number"]
theorem scGrn : FnScope nGrn ["pen", "book"] (defScope sGrn) := ⟨rfl, rfl, rfl, by decide +kernel, rfl, by decide +kernel, by decide +kernel⟩
def spGrn : Sp := fun vs H Q _ => ∃ (f c : Addr) (v : V) (css : List (List Int)) (B : Nat), vs = [.ref f, v] ∧ Feed H f c B ∧ B ≤ 2 ^ 26 ∧ Bk H v css ∧ (∀ c ∈ css, IsCl c) ∧ 1 ≤ css.length ∧ css.length ≤ 16 ∧
  ∀ (p b : Addr) (tv : V) (t : T) (cl : List Int) (H' : Hp), Feed H' f c (B + 50) → Ke (· = f) H H' → H' p = some (.tup [tv, .ref b, .int ((t.cuts : Nat) : Int)]) → At H' t tv → H' b = some (.tup (cl.map V.int)) → Tr.Cl css t cl → t.cuts ≤ 40 → t.depth ≤ 13 → Q (.ref p) H'
theorem ok_grn {f fE : Addr} {fd fdE : FuncData} {k : Nat} (F : Fun K "_law_e_grown" "_law_e_grown" sGrn f fd) (T : Zgr mg) (FD : Fun K "_law_e_take" "_law_e_take" sDrw fD fdD) (bD : Binds K fdD ["pen", "many"] []) (gD : mg "_law_e_take" = some (.ref fD)) (GD : FnOk P w K mg base CX0 2 fD fdD ["pen", "many"] spDrw)
    (FE : Fun K "_law_e_cut_by" "_law_e_cut_by" sEcb fE fdE) (bE : Binds K fdE ["one", "other", "k"] []) (gE : mg "_law_e_cut_by" = some (.ref fE)) (GE : FnOk P w K mg base CX0 1 fE fdE ["one", "other", "k"] spEcb) :
    FnOk P w K mg base CX0 (k + 3) f fd ["pen", "book"] spGrn := by
  refine F.ok scGrn (fun vs H Q E h => ?_) (fun cdv A outer s H vs Q E hr h => ?_)
  · obtain ⟨f, c, v, css, B, rfl, _⟩ := h
    rfl
  · obtain ⟨f, c, v, css, B, rfl, hF, hB, hb, ib, l1, l16, q⟩ := h
    have hr1 : Room 1 _ := hr.mono (by omega)
    have hr2 : Room 2 _ := hr.mono (by omega)
    refine ⟨_, (Evl.pss_cut (ps_setLc (i := 2) (own := [("number", 13)]) (g := (gName 13)) (tt := tYes) rfl scGrn.nd rfl rfl (sw_true rfl rfl rfl (by decide +kernel)) (pi_range1 (by rfl) T.z_range (pa_cons (pe_callB call_len_seq (by rfl) T.z_len (by decide +kernel) (pa_cons (pv 1) pa_nil)) pa_nil)) (blkOk_by (N := nGrn) (sc := defScope sGrn) (by decide +kernel)) (fun _ _ _ _ _ => (pg_name (i := 13) scGrn.nd rfl (.inl rfl))) (fun _ _ _ _ _ => pts_nil) (fun _ _ _ _ _ => (pe_tupN (pa_cons pe_str (pa_cons (pv 13) pa_nil)))))
      (Evl.pss_cut (ps_set (i := 4) scGrn.nd rfl (.inr rfl) (pe_lc (own := [("claim", 3)]) (g := (gName 3)) (tt := tYes) rfl scGrn.nd (pi_tup (pv 1)) (blkOk_by (N := nGrn) (sc := defScope sGrn) (by decide +kernel)) (fun _ _ _ _ _ => (pg_name (i := 3) scGrn.nd rfl (.inl rfl))) (fun _ _ _ _ _ => pts_nil) (fun _ _ _ _ _ => (pe_tupN (pa_cons (pv 3) (pa_cons pe_int pa_nil))))))
      (Evl.pss_cut (ps_for PassesOwn.never rfl (pi_range1 (by rfl) T.z_range (pa_cons (pe_call GD hr2 (by rfl) gD FD.kp bD .nil pass0 (pa_cons (pv 0) (pa_cons pe_int pa_nil))) pa_nil)) (pg_name (i := 5) scGrn.nd rfl (.inl rfl)) (Evl.pss_cut (ps_set (i := 6) scGrn.nd rfl (.inl rfl) (pe_ix ix_list (pe_lstN (pa_cons (pe_op op_sub (pe_callB call_len_seq (by rfl) T.z_len (by decide +kernel) (pa_cons (pv 2) pa_nil)) pe_int) (pa_cons (pe_call GD hr2 (by rfl) gD FD.kp bD .nil pass0 (pa_cons (pv 0) (pa_cons (pe_callB call_len_seq (by rfl) T.z_len (by decide +kernel) (pa_cons (pv 2) pa_nil)) pa_nil))) pa_nil))) (pe_call GD hr2 (by rfl) gD FD.kp bD .nil pass0 (pa_cons (pv 0) (pa_cons pe_int pa_nil))) (fun _ _ => rfl)))
      (Evl.pss_cut (ps_set (i := 7) scGrn.nd rfl (.inl rfl) (pe_lstN pa_nil))
      (Evl.pss_cut (ps_for PassesOwn.never rfl (pi_range1 (by rfl) T.z_range (pa_cons (pe_callB call_len_seq (by rfl) T.z_len (by decide +kernel) (pa_cons (pv 2) pa_nil)) pa_nil)) (pg_name (i := 8) scGrn.nd rfl (.inl rfl)) (pss_one (ps_for PassesOwn.never rfl (pi_range2 (by rfl) T.z_range (pa_cons pe_int (pa_cons pe_int pa_nil))) (pg_name (i := 9) scGrn.nd rfl (.inl rfl)) (Evl.pss_cut (ps_set (i := 3) scGrn.nd rfl (.inl rfl) (pe_call GE hr1 (by rfl) gE FE.kp bE .nil pass0 (pa_cons (pe_ix ix_tup (pe_ix ix_list (pv 4) (pv 6) (fun _ _ => rfl)) pe_int (fun _ _ => rfl)) (pa_cons (pe_ix ix_tup (pe_ix ix_list (pv 4) (pv 8) (fun _ _ => rfl)) pe_int (fun _ _ => rfl)) (pa_cons (pv 9) pa_nil)))))
      (Evl.pss_cut (ps_set (i := 10) scGrn.nd rfl (.inl rfl) (pe_call GE hr1 (by rfl) gE FE.kp bE .nil pass0 (pa_cons (pe_ix ix_tup (pe_ix ix_list (pv 4) (pv 8) (fun _ _ => rfl)) pe_int (fun _ _ => rfl)) (pa_cons (pe_ix ix_tup (pe_ix ix_list (pv 4) (pv 6) (fun _ _ => rfl)) pe_int (fun _ _ => rfl)) (pa_cons (pv 9) pa_nil)))))
      (Evl.pss_cut (ps_if (pt_cmpR op_notN (pv 3) pe_non (nomark _)) (pss_one (ps_expr (pe_bm PySem.F.plainAttrs_list PySem.F.slot_list_append PySem.F.type_list_append mt_append (pv 7) (pa_cons (pe_tupN (pa_cons (pv 3) (pa_cons (pv 6) (pa_cons (pv 8) (pa_cons (pv 9) pa_nil))))) pa_nil)))) pss_nil)
      (pss_one (ps_if (pt_cmpR op_notN (pv 10) pe_non (nomark _)) (pss_one (ps_expr (pe_bm PySem.F.plainAttrs_list PySem.F.slot_list_append PySem.F.type_list_append mt_append (pv 7) (pa_cons (pe_tupN (pa_cons (pv 10) (pa_cons (pv 8) (pa_cons (pv 6) (pa_cons (pv 9) pa_nil))))) pa_nil)))) pss_nil))))))))
      (Evl.pss_cut (ps_setLc (i := 7) (own := [("one", 11)]) (g := (gName 11))  rfl scGrn.nd rfl rfl (sw_true rfl rfl rfl (by decide +kernel)) (pi_list (pv 7)) (blkOk_by (N := nGrn) (sc := defScope sGrn) (by decide +kernel)) (fun _ _ _ _ _ => (pg_name (i := 11) scGrn.nd rfl (.inl rfl))) (fun _ _ _ _ _ => (pts_one (pt_cmpR op_lt (pe_op op_add (pe_ix (ix_tupB (K := K) rfl) (pe_ix (ix_listB (K := K) rfl) (pv 4) (pe_ix (ix_tupB (K := K) rfl) (pv 11) pe_int (fun _ _ => rfl)) (fun _ _ => rfl)) pe_int (fun _ _ => rfl)) (pe_ix (ix_tupB (K := K) rfl) (pe_ix (ix_listB (K := K) rfl) (pv 4) (pe_ix (ix_tupB (K := K) rfl) (pv 11) pe_int (fun _ _ => rfl)) (fun _ _ => rfl)) pe_int (fun _ _ => rfl))) pe_int (nomark _)))) (fun _ _ _ _ _ => (pv 11)))
      (pss_one (ps_if (pt_cmpR (op_neD hr.units) (pv 7) (pe_lstN pa_nil) (nomark _)) (Evl.pss_cut (ps_asg (pe_ix ix_list (pv 7) (pe_call GD hr2 (by rfl) gD FD.kp bD .nil pass0 (pa_cons (pv 0) (pa_cons (pe_callB call_len_seq (by rfl) T.z_len (by decide +kernel) (pa_cons (pv 7) pa_nil)) pa_nil))) (fun _ _ => rfl)) (pg_tup rfl (pgs_cons (pg_name (i := 3) scGrn.nd rfl (.inl rfl)) (pgs_cons (pg_name (i := 11) scGrn.nd rfl (.inl rfl)) (pgs_cons (pg_name (i := 12) scGrn.nd rfl (.inl rfl)) (pgs_cons (pg_name (i := 9) scGrn.nd rfl (.inl rfl)) pgs_nil))))))
      (Evl.pss_cut (ps_expr (pe_bm PySem.F.plainAttrs_list PySem.F.slot_list_append PySem.F.type_list_append mt_append (pv 2) (pa_cons (pe_tupN (pa_cons pe_str (pa_cons (pe_ix ix_list (pv 2) (pv 11) (fun _ _ => rfl)) (pa_cons (pe_ix ix_list (pv 2) (pv 12) (fun _ _ => rfl)) (pa_cons (pv 9) pa_nil))))) pa_nil)))
      (pss_one (ps_expr (pe_bm PySem.F.plainAttrs_list PySem.F.slot_list_append PySem.F.type_list_append mt_append (pv 4) (pa_cons (pe_tupN (pa_cons (pv 3) (pa_cons (pe_op op_add (pe_op op_add (pe_ix ix_tup (pe_ix ix_list (pv 4) (pv 11) (fun _ _ => rfl)) pe_int (fun _ _ => rfl)) (pe_ix ix_tup (pe_ix ix_list (pv 4) (pv 12) (fun _ _ => rfl)) pe_int (fun _ _ => rfl))) pe_int) pa_nil))) pa_nil)))))) pss_nil)))))))
      (pss_one (ps_ret (pe_tupN (pa_cons (pe_ix ix_list (pv 2) (pe_un un_neg pe_int) (fun _ _ => rfl)) (pa_cons (pe_ix ix_tup (pe_ix ix_list (pv 4) (pe_un un_neg pe_int) (fun _ _ => rfl)) pe_int (fun _ _ => rfl)) (pa_cons (pe_ix ix_tup (pe_ix ix_list (pv 4) (pe_un un_neg pe_int) (fun _ _ => rfl)) pe_int (fun _ _ => rfl)) pa_nil))))))))), ?_⟩
    obtain ⟨a, bvs, rfl, ha, al⟩ := bk_all hb
    have lb := al.1
    -- trees
    refine Evl.q_cut (M := fun σ' H' => ∃ Z : Addr, σ' = [some (.ref f), some (.ref a), some (.ref Z), none, none, none, none, none, none, none, none, none, none, none] ∧ H Z = none ∧ Same H H' ∧ ∃ vs, H' Z = some (.lst vs) ∧ All2 (fun v (n : Nat) => At H' (.leaf n) v) vs (List.range css.length)) ?_ ?_
    · refine ⟨_, rfl, a, _, rfl, .inr (.of ha), ((bvs.length : Nat) : Int), rfl, by omega, by omega, fun Z nZ => ?_⟩
      refine lc_it walk_range (Pv := fun i H' => Same H H' ∧ ∃ vs, H' Z = some (.lst vs) ∧ All2 (fun v (n : Nat) => At H' (.leaf n) v) vs (List.range i)) ⟨same_new nZ, [], upd_same, .nil⟩ (fun i H' _ _ => trivial) ?_ ?_
      · rintro i x H1 H2 hi ⟨s1, vs, hZ, a2⟩ ⟨rfl, rfl⟩
        have la := a2.1
        rw [List.length_range] at la
        refine ⟨rfl, _, rfl, by show 2 ≤ sizeLine; decide, fun t H3 nt s3 ht _ => ?_⟩
        have hZ3 := s3 _ _ hZ
        refine ⟨_, hZ3, small1000 (by omega), fun b o e => ?_, _, upd_same, ?_⟩
        · rw [upd_ne (ne_of_none e nZ)]
          exact s3 _ _ (s1 _ _ e)
        · rw [List.range_succ]
          refine All2.snoc (a2.imp fun _ _ r => (r.ke (Ke.same (F := Nof) s3)).wr hZ3) ⟨t, rfl, ?_⟩
          have ht : H3 t = some (.tup [.str "book", .int ((0 : Int) + ((i : Nat) : Int))]) := ht
          rw [show (0 : Int) + ((i : Nat) : Int) = ((i : Nat) : Int) by omega] at ht
          exact tp_upd hZ3 _ _ ht
      · rintro H1 ⟨s1, vs, hZ, a2⟩
        rw [show ((bvs.length : Nat) : Int).toNat = css.length by omega] at a2
        exact ⟨Z, rfl, nZ, s1, vs, hZ, a2⟩
    rintro σ' H1 ⟨Tz, rfl, nT, s1, tvs, hT1, aT1⟩
    -- known
    refine Evl.q_cut (M := fun σ' H' => ∃ Z : Addr, σ' = [some (.ref f), some (.ref a), some (.ref Tz), none, some (.ref Z), none, none, none, none, none, none, none, none, none] ∧ H1 Z = none ∧ Same H1 H' ∧ ∃ vs, H' Z = some (.lst vs) ∧ All2 (fun v (cl : List Int) => ∃ a b, v = .ref a ∧ H' a = some (.tup [.ref b, .int 0]) ∧ H' b = some (.tup (cl.map V.int))) vs css) ?_ ?_
    · refine ⟨_, rfl, a, rfl, ⟨_, .of (s1 _ _ ha)⟩, fun Z nZ => ?_⟩
      refine lc_tup (xs := bvs) (Pv := fun i H' => Same H1 H' ∧ ∃ vs, H' Z = some (.lst vs) ∧ All2 (fun v (cl : List Int) => ∃ a b, v = .ref a ∧ H' a = some (.tup [.ref b, .int 0]) ∧ H' b = some (.tup (cl.map V.int))) vs (css.take i)) ⟨same_new nZ, [], upd_same, .nil⟩ (fun i H' _ p => .of (p.1 _ _ (s1 _ _ ha))) ?_ ?_
      · rintro i x H2 hx ⟨s2, vs, hZ, a2⟩
        obtain ⟨cs, hcs, b, rfl, hb1⟩ := al.at hx
        have la := a2.1
        rw [List.length_take] at la
        refine ⟨rfl, _, rfl, by show 2 ≤ sizeLine; decide, fun t H3 nt s3 ht _ => ?_⟩
        have hZ3 := s3 _ _ hZ
        refine ⟨_, hZ3, small1000 (by omega), fun b o e => ?_, _, upd_same, ?_⟩
        · rw [upd_ne (ne_of_none e nZ)]
          exact s3 _ _ (s2 _ _ e)
        · rw [Lp.take_snoc hcs]
          refine All2.snoc (a2.imp fun _ _ r => ?_) ⟨t, b, rfl, tp_upd hZ3 _ _ ht, tp_upd hZ3 _ _ (s3 _ _ (s2 _ _ (s1 _ _ hb1)))⟩
          obtain ⟨a', b', e, h1, h2⟩ := r
          exact ⟨a', b', e, tp_upd hZ3 _ _ (s3 _ _ h1), tp_upd hZ3 _ _ (s3 _ _ h2)⟩
      · rintro H2 ⟨s2, vs, hZ, a2⟩
        rw [lb, List.take_length] at a2
        exact ⟨Z, rfl, nZ, s2, vs, hZ, a2⟩
    rintro σ' H2 ⟨Kn, rfl, nK, s2, kvs, hK2, aK2⟩
    have s02 := s1.trans s2
    have hT2 := s2 _ _ hT1
    have aT2 : All2 (fun v (n : Nat) => At H2 (.leaf n) v) tvs (List.range css.length) := aT1.imp fun _ _ r => r.ke (Ke.same (F := Nof) s2)
    have nTK : Tz ≠ Kn := ne_of_none hT1 nK
    have frT : Frs H Tz := .of nT
    have frK : Frs H Kn := .ke0 (.same s1) (.of nK)
    have k02 : Ke (· = f) H H2 := .same s02
    have F2 : Feed H2 f c B := hF.same s02
    have nTf : Tz ≠ f := hF.nf nT
    have nTc : Tz ≠ c := hF.nc nT
    have nKf : Kn ≠ f := (hF.same s1).nf nK
    have nKc : Kn ≠ c := (hF.same s1).nc nK
    -- the first items: the book's claims
    obtain ⟨its0, g0, t0, n0, e0⟩ : ∃ its : List It, Gw css 1 its ∧ TrL H2 Tz its ∧ KnL H2 Kn its ∧ its.length = css.length := by
      refine ⟨(List.range css.length).map fun n => (Tr.T.leaf n, css.getD n []), ⟨fun x hx => ?_, fun x hx => ?_, fun x hx => ?_⟩, ⟨tvs, hT2, by rw [aT2.1, List.length_map], fun i v x h1 h2 => ?_⟩, ⟨kvs, hK2, by rw [aK2.1, List.length_map, List.length_range], fun i v x h1 h2 => ?_⟩, by rw [List.length_map, List.length_range]⟩
      · obtain ⟨n, hn, rfl⟩ := List.mem_map.mp hx
        have ln := List.mem_range.mp hn
        show css[n]? = some (css.getD n [])
        rw [List.getD_eq_getElem?_getD, List.getElem?_eq_getElem ln]
        rfl
      · obtain ⟨n, hn, rfl⟩ := List.mem_map.mp hx
        exact Nat.zero_le _
      · obtain ⟨n, hn, rfl⟩ := List.mem_map.mp hx
        exact Nat.le_refl _
      · rw [List.getElem?_map] at h2
        obtain ⟨n, hn, rfl⟩ := Option.map_eq_some_iff.mp h2
        exact aT2.2 i v n h1 hn
      · rw [List.getElem?_map] at h2
        obtain ⟨n, hn, rfl⟩ := Option.map_eq_some_iff.mp h2
        have li := (List.getElem?_eq_some_iff.mp hn).1
        rw [List.length_range] at li
        rw [List.getElem?_range li] at hn
        obtain rfl : i = n := Option.some.inj hn
        have hc := List.getElem?_eq_getElem li
        obtain ⟨a', b', e, h3, h4⟩ := aK2.2 i v _ h1 hc
        refine ⟨a', b', e, h3, ?_⟩
        show H2 b' = some (.tup ((css.getD i []).map V.int))
        rw [List.getD_eq_getElem?_getD, hc]
        exact h4
    clear aT2 aK2 hT2 hK2 aT1 hT1
    -- the turns
    refine Evl.q_cut (M := fun σ' H' => ∃ (y3 y5 y6 y7 y8 y9 y10 y11 y12 : Option V) (its : List It), σ' = [some (.ref f), some (.ref a), some (.ref Tz), y3, some (.ref Kn), y5, y6, y7, y8, y9, y10, y11, y12, none] ∧ Feed H' f c (B + 50) ∧ Ke (· = f) H H' ∧ TrL H' Tz its ∧ KnL H' Kn its ∧ Gw css 13 its ∧ 1 ≤ its.length) ?_ ?_
    · refine ⟨_, rfl, f, c, 12, _, rfl, by decide, by decide, F2, by omega, fun d H3 d0 d1 F3 b3 => ?_⟩
      have cT : ∀ {x : Hp} {ts : List It}, TrL x Tz ts → ∃ vs, x Tz = some (.lst vs) := fun h => ⟨h.choose, h.choose_spec.1⟩
      have cK : ∀ {x : Hp} {ts : List It}, KnL x Kn ts → ∃ vs, x Kn = some (.lst vs) := fun h => ⟨h.choose, h.choose_spec.1⟩
      have goT : ∀ {G : Addr → Prop} {x y : Hp} {ts : List It}, Ke G x y → ¬ G Tz → TrL x Tz ts → TrL y Tz ts := fun {G x y ts} k n h => h.tp k.tups (by obtain ⟨vs, e⟩ := cT h; exact lst_ke k e n)
      have goK : ∀ {G : Addr → Prop} {x y : Hp} {ts : List It}, Ke G x y → ¬ G Kn → KnL x Kn ts → KnL y Kn ts := fun {G x y ts} k n h => h.tp k.tups (by obtain ⟨vs, e⟩ := cK h; exact lst_ke k e n)
      refine ⟨d, rfl, by omega, by omega, for_range (n := d.toNat) (Pv := fun i σ H' => ∃ (y3 y5 y6 y7 y8 y9 y10 y11 y12 : Option V) (its : List It), σ = [some (.ref f), some (.ref a), some (.ref Tz), y3, some (.ref Kn), y5, y6, y7, y8, y9, y10, y11, y12, none] ∧ Feed H' f c (B + 1 + 3 * i) ∧ Ke (· = f) H H' ∧ TrL H' Tz its ∧ KnL H' Kn its ∧ Gw css (i + 1) its ∧ 1 ≤ its.length ∧ its.length ≤ css.length + i) ?_ ?_ ?_⟩
      · exact ⟨none, none, none, none, none, none, none, none, none, its0, rfl, F3, k02.trans b3, goT b3 nTf t0, goK b3 nKf n0, g0, by omega, by omega⟩
      · clear g0 t0 n0 e0 its0 F3 b3 F2 k02 s2 s02 H3 H2
        rintro i σ H4 hi ⟨y3, y5, y6, y7, y8, y9, y10, y11, y12, its, rfl, F4, k4, t4, n4, g4, l4, m4⟩
        have hi12 : i < 12 := by omega
        have il28 : its.length ≤ 28 := by omega
        obtain ⟨tvs, hT4, aT4⟩ := id t4
        obtain ⟨kvs, hK4, aK4⟩ := id n4
        have lt4 := aT4.1
        have lk4 := aK4.1
        -- here
        refine Evl.q_cut (M := fun σ' H' => ∃ h : Nat, σ' = [some (.ref f), some (.ref a), some (.ref Tz), y3, some (.ref Kn), some (.int (0 + (i : Int))), some (.int ((h : Nat) : Int)), y7, y8, y9, y10, y11, y12, none] ∧ h < its.length ∧ Feed H' f c (B + 1 + 3 * i + 2) ∧ Ke (· = f) H4 H') ?_ ?_
        · refine ⟨_, rfl, Tz, _, rfl, .inl (.of hT4), _, _, rfl, rfl, _, rfl, _, rfl, Tz, _, rfl, .inl (.of hT4), f, c, _, _, rfl, by omega, by omega, F4, by omega, fun e H5 e0 e1 F5 b5 => ?_⟩
          refine ⟨by show 2 ≤ sizeLine; decide, fun p4 H6 np4 s6 hp4 _ => ⟨_, rfl, f, c, 2, _, rfl, by decide, by decide, F5.same s6, by omega, fun g H7 g0 g1 F7 b7 => ?_⟩⟩
          have k47 := (b5.trans (.same s6)).trans b7
          have hp7 := b7.lst hp4 (F5.nf np4)
          rcases (show g = 0 ∨ g = 1 by omega) with rfl | rfl
          · refine ⟨p4, _, 0, .int (((tvs.length : Nat) : Int) - 1), rfl, rfl, .of hp7, rfl, its.length - 1, ?_, by omega, F7, k47⟩
            rw [← show (((tvs.length : Nat) : Int) - 1) = ((its.length - 1 : Nat) : Int) by omega]
            rfl
          · refine ⟨p4, _, 1, .int e, rfl, rfl, .of hp7, rfl, e.toNat, ?_, by omega, F7, k47⟩
            rw [show ((e.toNat : Nat) : Int) = e by omega]
            rfl
        rintro σ' H5 ⟨h, rfl, lh, F5, k45⟩
        have k5 := k4.trans k45
        have t5 := goT k45 nTf t4
        have n5 := goK k45 nKf n4
        -- some = []
        refine Evl.q_cut (M := fun σ' H' => ∃ S : Addr, σ' = [some (.ref f), some (.ref a), some (.ref Tz), y3, some (.ref Kn), some (.int (0 + (i : Int))), some (.int ((h : Nat) : Int)), some (.ref S), y8, y9, y10, y11, y12, none] ∧ H5 S = none ∧ Same H5 H' ∧ H' S = some (.lst [])) ?_ ?_
        · exact ⟨Nat.zero_le _, fun S H6 nS s6 hS _ => ⟨S, rfl, nS, s6, hS⟩⟩
        rintro σ' H6 ⟨S, rfl, nS, s56, hS6⟩
        -- all ways
        refine Evl.q_cut (M := fun σ' H' => ∃ (y3 y8 y9 y10 : Option V) (es : List En), σ' = [some (.ref f), some (.ref a), some (.ref Tz), y3, some (.ref Kn), some (.int (0 + (i : Int))), some (.int ((h : Nat) : Int)), some (.ref S), y8, y9, y10, y11, y12, none] ∧ Ke Nof H5 H' ∧ EnL H' S es ∧ Good its es ∧ es.length ≤ 8 * its.length) ?_ ?_
        · have hT6 : ∃ vs, H6 Tz = some (.lst vs) ∧ vs.length = its.length := by
            obtain ⟨vs, h1, h2⟩ := t5
            exact ⟨vs, s56 _ _ h1, h2.1⟩
          obtain ⟨tv6, hT6, lt6⟩ := hT6
          refine ⟨_, rfl, Tz, _, rfl, .inl (.of hT6), _, rfl, by omega, by omega, for_range (n := ((tv6.length : Nat) : Int).toNat) (Pv := fun j σ H' => ∃ (y3 y8 y9 y10 : Option V) (es : List En), σ = [some (.ref f), some (.ref a), some (.ref Tz), y3, some (.ref Kn), some (.int (0 + (i : Int))), some (.int ((h : Nat) : Int)), some (.ref S), y8, y9, y10, y11, y12, none] ∧ Ke Nof H5 H' ∧ EnL H' S es ∧ Good its es ∧ es.length ≤ 8 * j) ?_ ?_ ?_⟩
          · exact ⟨y3, y8, y9, y10, [], rfl, .same s56, ⟨[], hS6, .nil⟩, fun e h => (nomatch h), Nat.zero_le _⟩
          · rintro j σ H7 hj ⟨y3, y8, y9, y10, es, rfl, k7, e7, ge, le⟩
            have lj : j < its.length := by omega
            refine ⟨1, 5, rfl, ⟨by decide, by decide, by decide, by decide⟩, for_range (n := ((5 : Int) - 1).toNat) (Pv := fun kk σ H' => ∃ (y3 y9 y10 : Option V) (es : List En), σ = [some (.ref f), some (.ref a), some (.ref Tz), y3, some (.ref Kn), some (.int (0 + (i : Int))), some (.int ((h : Nat) : Int)), some (.ref S), some (.int (0 + (j : Int))), y9, y10, y11, y12, none] ∧ Ke Nof H5 H' ∧ EnL H' S es ∧ Good its es ∧ es.length ≤ 8 * j + 2 * kk) ?_ ?_ ?_⟩
            · exact ⟨y3, y9, y10, es, rfl, k7, e7, ge, by omega⟩
            · clear e7 ge le k7 es H7
              rintro kk σ H7 hkk ⟨y3, y9, y10, es, rfl, k7, e7, ge, le⟩
              have lkk : kk < 4 := by omega
              have n7 := goK k7 (fun z => z) n5
              obtain ⟨kv7, hK7, aK7⟩ := id n7
              have hx := List.getElem?_eq_getElem lh
              have hy := List.getElem?_eq_getElem lj
              obtain ⟨vx, hvx, a1, b1, rfl, hb1, hc1⟩ := aK7.atR hx
              obtain ⟨vy, hvy, a2, b2, rfl, hb2, hc2⟩ := aK7.atR hy
              generalize its[h] = x at hx hb1 hc1
              generalize its[j] = y at hy hb2 hc2
              have ix := Tr.Cl.isCl ib (g4.cl x (List.mem_of_getElem? hx))
              have iy := Tr.Cl.isCl ib (g4.cl y (List.mem_of_getElem? hy))
              rw [show (0 : Int) + (j : Int) = ((j : Nat) : Int) by omega]
              have K : ∀ {L : List (Option V)}, True := trivial
              -- claim
              refine Evl.q_cut (M := fun σ' H' => ∃ z : V, σ' = [some (.ref f), some (.ref a), some (.ref Tz), some z, some (.ref Kn), some (.int (0 + (i : Int))), some (.int ((h : Nat) : Int)), some (.ref S), some (.int ((j : Nat) : Int)), some (.int (1 + (kk : Int))), y10, y11, y12, none] ∧ Same H7 H' ∧ (z = .non ∨ ∃ p ns, z = .ref p ∧ H' p = some (.tup (ns.map V.int)) ∧ Comes x.2 y.2 (1 + (kk : Int)) ns)) ?_ ?_
              · refine ⟨_, rfl, _, rfl, Kn, _, _, .ref a1, rfl, rfl, .of hK7, at_nat hvx, a1, _, 0, .ref b1, rfl, rfl, .of hb1, rfl, _, rfl, _, rfl, Kn, _, _, .ref a2, rfl, rfl, .of hK7, at_nat hvy, a2, _, 0, .ref b2, rfl, rfl, .of hb2, rfl, _, rfl, .ref b1, .ref b2, _, x.2, y.2, rfl, ⟨b1, rfl, hc1⟩, ⟨b2, rfl, hc2⟩, ix, iy, by omega, fun G s no => ⟨.non, rfl, s, .inl rfl⟩, fun ns p G s cm hp => ⟨.ref p, rfl, s, .inr ⟨p, ns, rfl, hp, cm⟩⟩⟩
              rintro σ' H8 ⟨z1, rfl, s78, w1⟩
              -- more
              refine Evl.q_cut (M := fun σ' H' => ∃ z : V, σ' = [some (.ref f), some (.ref a), some (.ref Tz), some z1, some (.ref Kn), some (.int (0 + (i : Int))), some (.int ((h : Nat) : Int)), some (.ref S), some (.int ((j : Nat) : Int)), some (.int (1 + (kk : Int))), some z, y11, y12, none] ∧ Same H8 H' ∧ (z = .non ∨ ∃ p ns, z = .ref p ∧ H' p = some (.tup (ns.map V.int)) ∧ Comes y.2 x.2 (1 + (kk : Int)) ns)) ?_ ?_
              · refine ⟨_, rfl, _, rfl, Kn, _, _, .ref a2, rfl, rfl, .of (s78 _ _ hK7), at_nat hvy, a2, _, 0, .ref b2, rfl, rfl, .of (s78 _ _ hb2), rfl, _, rfl, _, rfl, Kn, _, _, .ref a1, rfl, rfl, .of (s78 _ _ hK7), at_nat hvx, a1, _, 0, .ref b1, rfl, rfl, .of (s78 _ _ hb1), rfl, _, rfl, .ref b2, .ref b1, _, y.2, x.2, rfl, ⟨b2, rfl, s78 _ _ hc2⟩, ⟨b1, rfl, s78 _ _ hc1⟩, iy, ix, by omega, fun G s no => ⟨.non, rfl, s, .inl rfl⟩, fun ns p G s cm hp => ⟨.ref p, rfl, s, .inr ⟨p, ns, rfl, hp, cm⟩⟩⟩
              rintro σ' H9 ⟨z2, rfl, s89, w2⟩
              have s79 := s78.trans s89
              have e9 : EnL H9 S es := e7.tp (fun _ _ h => s79 _ _ h) (by obtain ⟨vs, h1, _⟩ := e7; rw [h1]; exact s79 _ _ h1)
              have k9 : Ke Nof H5 H9 := k7.trans (.same s79)
              have w1 : z1 = .non ∨ ∃ p ns, z1 = .ref p ∧ H9 p = some (.tup (ns.map V.int)) ∧ Comes x.2 y.2 (1 + (kk : Int)) ns := w1.imp id fun ⟨p, ns, e, hp, cm⟩ => ⟨p, ns, e, s89 _ _ hp, cm⟩
              -- one more way
              have more : ∀ {G : Hp} {es : List En} {p : Addr} {e : En} {t : Addr} {G' : Hp}, EnL G S es → Ke Nof H5 G → Same G G' → G' t = some (.tup [.ref p, .int ((e.2.1 : Nat) : Int), .int ((e.2.2.1 : Nat) : Int), .int e.2.2.2]) → G p = some (.tup (e.1.map V.int)) → es.length ≤ 230 → ∃ vs, G' S = some (.lst vs) ∧ vs.length < sizeLine ∧ Ke Nof H5 (upd G' S (.lst (vs ++ [.ref t]))) ∧ EnL (upd G' S (.lst (vs ++ [.ref t]))) S (es ++ [e]) ∧ ∀ z xs, G z = some (.tup xs) → (upd G' S (.lst (vs ++ [.ref t]))) z = some (.tup xs) := fun {G es p e t G'} he kG s ht hp le => by
                obtain ⟨vs, h1, h2⟩ := he
                have h1' := s _ _ h1
                have tu := tp_upd (o := .lst (vs ++ [.ref t])) h1'
                refine ⟨vs, h1', small1000 (by rw [h2.1]; omega), (kG.trans (.same s)).upd nS, ⟨_, upd_same, All2.snoc (h2.imp fun _ _ r => r.tp fun _ _ h => tu _ _ (s _ _ h)) ⟨t, p, rfl, tu _ _ ht, tu _ _ (s _ _ hp)⟩⟩, fun z xs h => tu _ _ (s _ _ h)⟩
              -- if claim is not None
              refine Evl.q_cut (M := fun σ' H' => ∃ es : List En, σ' = [some (.ref f), some (.ref a), some (.ref Tz), some z1, some (.ref Kn), some (.int (0 + (i : Int))), some (.int ((h : Nat) : Int)), some (.ref S), some (.int ((j : Nat) : Int)), some (.int (1 + (kk : Int))), some z2, y11, y12, none] ∧ Ke Nof H5 H' ∧ EnL H' S es ∧ Good its es ∧ es.length ≤ 8 * j + 2 * kk + 1 ∧ (z2 = .non ∨ ∃ p ns, z2 = .ref p ∧ H' p = some (.tup (ns.map V.int)) ∧ Comes y.2 x.2 (1 + (kk : Int)) ns)) ?_ ?_
              · rcases w1 with rfl | ⟨p, ns, rfl, hp, cm⟩
                · exact ⟨_, rfl, rfl, _, rfl, ite2 (fun e => absurd e (by simp)) fun _ => ⟨es, rfl, k9, e9, ge, by omega, w2⟩⟩
                · refine ⟨_, rfl, rfl, _, rfl, ite2 (fun _ => ?_) fun e => absurd rfl e⟩
                  refine ⟨_, rfl, .inl ⟨rfl, _, .of e9.choose_spec.1⟩, _, rfl, _, rfl, _, rfl, _, rfl, by show 4 ≤ sizeLine; decide, fun t G nt s ht _ => ?_⟩
                  obtain ⟨vs, m1, m2, m3, m5, m6⟩ := more (e := (ns, h, j, 1 + (kk : Int))) e9 k9 s ht hp (by omega)
                  refine ⟨S, vs, _, rfl, rfl, m1, m2, es ++ [(ns, h, j, 1 + (kk : Int))], rfl, m3, m5, fun e he => ?_, by rw [List.length_append, List.length_singleton]; omega, w2.imp id fun ⟨p, ns, e, hp, cm⟩ => ⟨p, ns, e, m6 _ _ hp, cm⟩⟩
                  rcases List.mem_append.mp he with z | z
                  · exact ge e z
                  · rw [List.mem_singleton.mp z]
                    exact ⟨x, y, hx, hy, cm⟩
              clear e9 k9 ge le e7 w2
              rintro σ' H10 ⟨es2, rfl, k10, e10, ge10, le10, w2⟩
              rcases w2 with rfl | ⟨p, ns, rfl, hp, cm⟩
              · exact ⟨_, rfl, rfl, _, rfl, ite2 (fun e => absurd e (by simp)) fun _ => ⟨_, _, _, es2, rfl, k10, e10, ge10, by omega⟩⟩
              · refine ⟨_, rfl, rfl, _, rfl, ite2 (fun _ => ?_) fun e => absurd rfl e⟩
                refine ⟨_, rfl, .inl ⟨rfl, _, .of e10.choose_spec.1⟩, _, rfl, _, rfl, _, rfl, _, rfl, by show 4 ≤ sizeLine; decide, fun t G nt s ht _ => ?_⟩
                obtain ⟨vs, m1, m2, m3, m5, m6⟩ := more (e := (ns, j, h, 1 + (kk : Int))) e10 k10 s ht hp (by omega)
                refine ⟨S, vs, _, rfl, rfl, m1, m2, _, _, _, es2 ++ [(ns, j, h, 1 + (kk : Int))], rfl, m3, m5, fun e he => ?_, by rw [List.length_append, List.length_singleton]; omega⟩
                rcases List.mem_append.mp he with z | z
                · exact ge10 e z
                · rw [List.mem_singleton.mp z]
                  exact ⟨y, x, hy, hx, cm⟩
            · rintro σ G ⟨y3, y9, y10, es, rfl, k7, e7, ge, le⟩
              exact ⟨y3, _, y9, y10, es, rfl, k7, e7, ge, by have : ((5 : Int) - 1).toNat = 4 := rfl; omega⟩
          · rintro σ G ⟨y3, y8, y9, y10, es, rfl, k7, e7, ge, le⟩
            exact ⟨y3, y8, y9, y10, es, rfl, k7, e7, ge, by omega⟩
        rintro σ' H7 ⟨y3', y8', y9', y10', es, rfl, k57, e7, ge, le⟩
        have k7 := k5.trans k57.all
        have t7 := goT k57 (fun z => z) t5
        have n7 := goK k57 (fun z => z) n5
        have F7 := k57.feed F5
        obtain ⟨evs, hS7, aE7⟩ := id e7
        have ls7 := aE7.1
        -- those that stay small
        refine Evl.q_cut (M := fun σ' H' => ∃ (S2 : Addr) (es2 : List En), σ' = [some (.ref f), some (.ref a), some (.ref Tz), y3', some (.ref Kn), some (.int (0 + (i : Int))), some (.int ((h : Nat) : Int)), some (.ref S2), y8', y9', y10', y11, y12, none] ∧ H7 S2 = none ∧ Same H7 H' ∧ EnL H' S2 es2 ∧ Small its es2 ∧ es2.length ≤ 230) ?_ ?_
        · obtain ⟨kv7, hK7, aK7⟩ := id n7
          refine ⟨_, rfl, S, rfl, ⟨_, .of hS7⟩, fun Z nZ => ?_⟩
          refine lc_list (xs := evs) (Pv := fun j H' => Same H7 H' ∧ ∃ es2, EnL H' Z es2 ∧ Small its es2 ∧ es2.length ≤ j) ⟨same_new nZ, [], ⟨[], upd_same, .nil⟩, fun e h => (nomatch h), Nat.zero_le _⟩ (fun j H' _ p => .of (p.1 _ _ hS7)) ?_ ?_
          · rintro j xv H8 hxv ⟨s8, es2, ⟨zvs, hZ, aZ⟩, sm, le2⟩
            have lj := (List.getElem?_eq_some_iff.mp hxv).1
            obtain ⟨e, he, ea, eb, rfl, hea, heb⟩ := aE7.at hxv
            obtain ⟨x, y, hx, hy, cm⟩ := ge e (List.mem_of_getElem? he)
            obtain ⟨vx, hvx, a1, b1, rfl, hb1, hc1⟩ := aK7.atR hx
            obtain ⟨vy, hvy, a2, b2, rfl, hb2, hc2⟩ := aK7.atR hy
            have hK8 := s8 _ _ hK7
            have hea8 := s8 _ _ hea
            refine ⟨rfl, _, rfl, _, rfl, ea, _, 1, _, rfl, rfl, .of hea8, rfl, Kn, _, _, .ref a1, rfl, rfl, .of hK8, at_nat hvx, a1, _, 1, _, rfl, rfl, .of (s8 _ _ hb1), rfl, _, rfl, _, rfl, ea, _, 2, _, rfl, rfl, .of hea8, rfl, Kn, _, _, .ref a2, rfl, rfl, .of hK8, at_nat hvy, a2, _, 1, _, rfl, rfl, .of (s8 _ _ hb2), rfl, _, _, rfl, rfl, _, _, rfl, rfl, _, rfl, ite2 (fun z => ?_) (fun z => ?_)⟩
            · have z := of_decide_eq_true z
              have la := aZ.1
              refine ⟨_, rfl, zvs, hZ, small1000 (by omega), fun b o w => ?_, es2 ++ [e], ⟨_, upd_same, All2.snoc (aZ.imp fun _ _ r => r.tp (tp_upd hZ)) ⟨ea, eb, rfl, tp_upd hZ _ _ hea8, tp_upd hZ _ _ (s8 _ _ heb)⟩⟩, fun e' he' => ?_, by rw [List.length_append, List.length_singleton]; omega⟩
              · rw [upd_ne (ne_of_none w nZ)]
                exact s8 _ _ w
              · rcases List.mem_append.mp he' with w | w
                · exact sm e' w
                · rw [List.mem_singleton.mp w]
                  exact ⟨x, y, hx, hy, cm, by omega⟩
            · exact ⟨s8, es2, ⟨zvs, hZ, aZ⟩, sm, by omega⟩
          · rintro H8 ⟨s8, es2, eZ, sm, le2⟩
            exact ⟨Z, es2, rfl, nZ, s8, eZ, sm, by omega⟩
        clear e7 ge le hS7 aE7 ls7 evs es
        rintro σ' H8 ⟨S2, es2, rfl, nS2, s78, ⟨evs, hS8, aE8⟩, sm, le2⟩
        have kk : Ke Nof H7 H8 := .same s78
        have k8 := k7.trans kk.all
        have t8 := goT kk (fun z => z) t7
        have n8 := goK kk (fun z => z) n7
        have F8 := F7.same s78
        have ls8 := aE8.1
        -- if some != []
        refine ⟨_, rfl, Nat.zero_le _, fun p5 H9 np5 s9 hp5 _ => ?_⟩
        have kk9 : Ke Nof H8 H9 := .same s9
        have k9 := k8.trans kk9.all
        have t9 := goT kk9 (fun z => z) t8
        have n9 := goK kk9 (fun z => z) n8
        have F9 := F8.same s9
        have hS9 := s9 _ _ hS8
        have aE9 : All2 (EnA H9) evs es2 := aE8.imp fun _ _ r => r.tp fun _ _ h => s9 _ _ h
        refine ⟨_, _, .lst (.of hS9) (dp_ens aE9), .lst (.of hp5) .nil, shaped_ens es2, shaped_list rfl, _, rfl, ite2 (fun z => ?_) (fun z => ?_)⟩
        · rw [ne_ens] at z
          have ne := of_decide_eq_true z
          have pos : 0 < es2.length := List.length_pos_iff.mpr ne
          -- one of them
          refine Evl.q_cut (M := fun σ' H' => ∃ (e : En) (eb : Addr), σ' = [some (.ref f), some (.ref a), some (.ref Tz), some (.ref eb), some (.ref Kn), some (.int (0 + (i : Int))), some (.int ((h : Nat) : Int)), some (.ref S2), y8', some (.int e.2.2.2), y10', some (.int ((e.2.1 : Nat) : Int)), some (.int ((e.2.2.1 : Nat) : Int)), none] ∧ e ∈ es2 ∧ H' eb = some (.tup (e.1.map V.int)) ∧ Feed H' f c (B + 1 + 3 * i + 3) ∧ Ke (· = f) H9 H') ?_ ?_
          · refine ⟨_, rfl, _, rfl, _, rfl, S2, _, rfl, .inl (.of hS9), f, c, _, _, rfl, by omega, by omega, F9, by omega, fun g H10 g0 g1 F10 b10 => ?_⟩
            have lg : g.toNat < evs.length := by omega
            have hv := List.getElem?_eq_getElem lg
            obtain ⟨e, he, ea, eb, ev, hea, heb⟩ := aE9.at hv
            rw [ev] at hv
            have nSf : S2 ≠ f := F7.nf nS2
            refine ⟨S2, evs, g, .ref ea, rfl, rfl, .of (b10.lst hS9 nSf), at_of (j := g.toNat) (by omega) hv, ea, _, rfl, .of (b10.tups _ _ hea), rfl, _, _, rfl, _, _, rfl, _, _, rfl, _, _, rfl, rfl, e, eb, rfl, List.mem_of_getElem? he, b10.tups _ _ heb, F10, b10⟩
          rintro σ' H10 ⟨e, eb, rfl, me, heb, F10, b10⟩
          obtain ⟨x, y, hx, hy, cm, c40⟩ := sm e me
          have k10 := k9.trans b10
          have t10 := goT b10 nTf t9
          have n10 := goK b10 nKf n9
          obtain ⟨tv10, hT10, aT10⟩ := id t10
          obtain ⟨kv10, hK10, aK10⟩ := id n10
          obtain ⟨tx, htx, atx⟩ := aT10.atR hx
          obtain ⟨ty, hty, aty⟩ := aT10.atR hy
          obtain ⟨vx, hvx, a1, b1, rfl, hb1, hc1⟩ := aK10.atR hx
          obtain ⟨vy, hvy, a2, b2, rfl, hb2, hc2⟩ := aK10.atR hy
          have mx := List.mem_of_getElem? hx
          have my := List.mem_of_getElem? hy
          -- trees.append
          refine Evl.q_cut (M := fun σ' H' => σ' = [some (.ref f), some (.ref a), some (.ref Tz), some (.ref eb), some (.ref Kn), some (.int (0 + (i : Int))), some (.int ((h : Nat) : Int)), some (.ref S2), y8', some (.int e.2.2.2), y10', some (.int ((e.2.1 : Nat) : Int)), some (.int ((e.2.2.1 : Nat) : Int)), none] ∧ Feed H' f c (B + 1 + 3 * i + 3) ∧ Ke (· = f) H H' ∧ TrL H' Tz (its ++ [(Tr.T.cut x.1 y.1 e.2.2.2, e.1)]) ∧ KnL H' Kn its ∧ H' eb = some (.tup (e.1.map V.int)) ∧ H' a1 = some (.tup [.ref b1, .int ((x.1.cuts : Nat) : Int)]) ∧ H' a2 = some (.tup [.ref b2, .int ((y.1.cuts : Nat) : Int)])) ?_ ?_
          · refine ⟨_, rfl, .inl ⟨rfl, _, .of hT10⟩, _, rfl, _, rfl, Tz, _, _, tx, rfl, rfl, .of hT10, at_nat htx, _, rfl, _, rfl, Tz, _, _, ty, rfl, rfl, .of hT10, at_nat hty, _, rfl, by show 4 ≤ sizeLine; decide, fun t G nt s ht _ => ?_⟩
            have hTG := s _ _ hT10
            have hKG := s _ _ hK10
            have la := aT10.1
            have tu := tp_upd (o := .lst (tv10 ++ [.ref t])) hTG
            have tg : ∀ z xs, H10 z = some (.tup xs) → (upd G Tz (.lst (tv10 ++ [.ref t]))) z = some (.tup xs) := fun z xs h => tu _ _ (s _ _ h)
            refine ⟨Tz, tv10, _, rfl, rfl, hTG, small1000 (by omega), rfl, (F10.same s).upd nTf nTc, (k10.trans (.same s)).write frT hTG, ⟨_, upd_same, All2.snoc (aT10.imp fun _ _ r => atTp tg r) ⟨t, tx, ty, rfl, tu _ _ ht, atTp tg atx, atTp tg aty⟩⟩, n10.tp tg (by rw [upd_ne (Ne.symm nTK), hKG, hK10]), tg _ _ heb, tg _ _ hb1, tg _ _ hb2⟩
          rintro σ' H11 ⟨rfl, F11, k11, t11, n11, heb11, hb11, hb12⟩
          obtain ⟨kv11, hK11, aK11⟩ := id n11
          obtain ⟨vx', hvx', a1', b1', rfl, hb1', _⟩ := aK11.atR hx
          obtain ⟨vy', hvy', a2', b2', rfl, hb2', _⟩ := aK11.atR hy
          -- known.append
          refine ⟨_, rfl, .inl ⟨rfl, _, .of hK11⟩, _, rfl, _, rfl, _, rfl, Kn, _, _, .ref a1', rfl, rfl, .of hK11, at_nat hvx', a1', _, 1, _, rfl, rfl, .of hb1', rfl, _, rfl, _, rfl, Kn, _, _, .ref a2', rfl, rfl, .of hK11, at_nat hvy', a2', _, 1, _, rfl, rfl, .of hb2', rfl, _, _, rfl, rfl, _, _, rfl, rfl, by show 2 ≤ sizeLine; decide, fun t G nt s ht _ => ?_⟩
          have hKG := s _ _ hK11
          have la := aK11.1
          have tu := tp_upd (o := .lst (kv11 ++ [.ref t])) hKG
          have tg : ∀ z xs, H11 z = some (.tup xs) → (upd G Kn (.lst (kv11 ++ [.ref t]))) z = some (.tup xs) := fun z xs h => tu _ _ (s _ _ h)
          have hsum : ((x.1.cuts : Nat) : Int) + ((y.1.cuts : Nat) : Int) + 1 = (((Tr.T.cut x.1 y.1 e.2.2.2).cuts : Nat) : Int) := by
            show _ = ((1 + x.1.cuts + y.1.cuts : Nat) : Int)
            omega
          have ht : G t = some (.tup [.ref eb, .int (((x.1.cuts : Nat) : Int) + ((y.1.cuts : Nat) : Int) + 1)]) := ht
          rw [hsum] at ht
          refine ⟨Kn, kv11, _, rfl, rfl, hKG, small1000 (by omega), _, _, _, _, _, _, _, _, _, its ++ [(Tr.T.cut x.1 y.1 e.2.2.2, e.1)], rfl, ((F11.same s).upd nKf nKc).mono (by omega), (k11.trans (.same s)).write frK hKG, t11.tp tg (by obtain ⟨vs, h1, _⟩ := t11; rw [upd_ne nTK, s _ _ h1, h1]), ⟨_, upd_same, All2.snoc (aK11.imp fun _ _ r => r.tp tg) ⟨t, eb, rfl, tu _ _ ht, tg _ _ heb11⟩⟩, ⟨fun z hz => ?_, fun z hz => ?_, fun z hz => ?_⟩, by rw [List.length_append]; omega, by rw [List.length_append, List.length_singleton]; omega⟩
          · rcases List.mem_append.mp hz with w | w
            · exact g4.cl z w
            · rw [List.mem_singleton.mp w]
              exact ⟨x.2, y.2, g4.cl x mx, g4.cl y my, cm⟩
          · rcases List.mem_append.mp hz with w | w
            · exact g4.cu z w
            · rw [List.mem_singleton.mp w]
              show 1 + x.1.cuts + y.1.cuts ≤ 40
              omega
          · rcases List.mem_append.mp hz with w | w
            · exact Nat.le_trans (g4.de z w) (by omega)
            · rw [List.mem_singleton.mp w]
              have d1 := g4.de x mx
              have d2 := g4.de y my
              show 1 + max x.1.depth y.1.depth ≤ i + 1 + 1
              omega
        · exact ⟨_, _, _, _, _, _, _, _, _, its, rfl, F9.mono (by omega), k9, t9, n9, ⟨g4.cl, g4.cu, fun x hx => Nat.le_trans (g4.de x hx) (by omega)⟩, l4, by omega⟩
      · rintro σ G ⟨y3, y5, y6, y7, y8, y9, y10, y11, y12, its, rfl, F5, k5, t5, n5, g5, l5, m5⟩
        exact ⟨y3, y5, y6, y7, y8, y9, y10, y11, y12, its, rfl, F5.mono (by omega), k5, t5, n5, ⟨g5.cl, g5.cu, fun x hx => Nat.le_trans (g5.de x hx) (by omega)⟩, l5⟩
    rintro σ' H3 ⟨y3, y5, y6, y7, y8, y9, y10, y11, y12, its, rfl, F3, k3, ⟨tvs, hT3, aT3⟩, ⟨kvs, hK3, aK3⟩, g3, l3⟩
    have hx := List.getElem?_eq_getElem (show its.length - 1 < its.length by omega)
    obtain ⟨tv, htv, at3⟩ := aT3.atR hx
    obtain ⟨kv, hkv, ka, kb, rfl, hka, hkb⟩ := aK3.atR hx
    have m := List.mem_of_getElem? hx
    generalize its[its.length - 1] = x at m at3 hka hkb
    have e1 : tvs[tvs.length - 1]? = some tv := by rw [aT3.1]; exact htv
    have e2 : kvs[kvs.length - 1]? = some (.ref ka) := by rw [aK3.1]; exact hkv
    refine ⟨_, rfl, _, rfl, Tz, _, _, tv, rfl, rfl, .of hT3, at_lst e1, _, rfl, _, rfl, Kn, _, _, .ref ka, rfl, rfl, .of hK3, at_lst e2, ka, _, 0, .ref kb, rfl, rfl, .of hka, rfl, _, rfl, _, rfl, Kn, _, _, .ref ka, rfl, rfl, .of hK3, at_lst e2, ka, _, 1, _, rfl, rfl, .of hka, rfl, by show 3 ≤ sizeLine; decide, fun p H4 np s4 hp _ => ?_⟩
    exact q p kb tv x.1 x.2 H4 (F3.same s4) (k3.trans (.same s4)) hp (at3.ke (Ke.same (F := Nof) s4)) (s4 _ _ hkb) (g3.cl x m) (g3.cu x m) (g3.de x m)
end
end Grn
namespace Trr
open PySem PySem.Spec PyProof.Rows L2 GxR Nw Dr Kp Se Ct Lr Dj Wtc To Ptc Lam Lwa Chk Ltr Lbc Tby Tsp Grn Cl Wd
open Tr (At)
/-! ### the law's trees -/
theorem pieces_cuts : ∀ t : Tr.T, t.pieces = 2 * t.cuts + 1
  | .leaf _ => rfl
  | .cut t s _ => by
    have h1 := pieces_cuts t
    have h2 := pieces_cuts s
    show 1 + t.pieces + s.pieces = 2 * (1 + t.cuts + s.cuts) + 1
    omega
theorem feed_pt {H H' : Hp} {f c Pt : Addr} {B : Nat} {qn : Str} (F : Feed H f c B) (tx : TabX H Pt qn) (k : Ke (· = Pt) H H') : Feed H' f c B := by
  obtain ⟨ns, n, r, h1, h2, h3, h4⟩ := F
  obtain ⟨ps, hP, _⟩ := tx
  have ne : ∀ {b : Addr} {xs : List V}, H b = some (.lst xs) → b ≠ Pt := fun {b xs} h z => by
    rw [z, hP] at h
    unfold TbX at h
    cases h
  exact ⟨ns, n, r, k.lst h1 (ne h1), k.lst h2 (ne h2), h3, h4⟩
theorem tx_feed {H H' : Hp} {f c Pt : Addr} {B : Nat} {qn : Str} (F : Feed H f c B) (tx : TabX H Pt qn) (k : Ke (· = f) H H') : TabX H' Pt qn := by
  obtain ⟨ns, n, r, h1, _⟩ := F
  refine tx.ke k (fun z => ?_) fun cc h z => ?_
  · obtain ⟨ps, hP, _⟩ := tx
    rw [z, h1] at hP
    unfold TbX at hP
    cases hP
  · rw [z, h1] at h
    cases h
theorem wt_ke {W : Type} {M : Wk W} (o : M.Ok) {F : Addr → Prop} {H H' : Hp} {D : Addr} {ks : List C} {ws : C → Option W} (h : WtT M H D ks ws) (k : Ke F H H') (n : ¬ F D) : WtT M H' D ks ws := h.tp o k.tups (by
  obtain ⟨⟨kvs, hD, _⟩, _⟩ := h
  rw [hD]
  exact k.keep D _ hD (fun ps z => by cases z) n)
theorem nf_dT {H : Hp} {f c D : Addr} {B : Nat} {kvs : List (List Key × V)} (F : Feed H f c B) (h : H D = some (.dT kvs)) : D ≠ f := fun z => by
  obtain ⟨ns, n, r, h1, _⟩ := F
  rw [z, h1] at h
  cases h
theorem npt_dT {H : Hp} {Pt D : Addr} {qn : Str} {kvs : List (List Key × V)} (tx : TabX H Pt qn) (h : H D = some (.dT kvs)) : D ≠ Pt := fun z => by
  obtain ⟨ps, hP, _⟩ := tx
  rw [z, hP] at h
  unfold TbX at h
  cases h
section
variable {P : Program} {w : World} {K : PySem.W.Frag} {mg : Str → Option Value} {base : Heap}
abbrev sTrr : Stmt := topS 66
abbrev nTrr : List Str := ["pen", "book", "numbers", "levels", "turn", "tree", "claim", "many", "less", "one"]
theorem scTrr : FnScope nTrr ["pen", "book", "numbers", "levels"] (defScope sTrr) := ⟨rfl, rfl, rfl, by decide +kernel, rfl, by decide +kernel, by decide +kernel⟩
structure Ztr (mg : Str → Option Value) : Prop where
  z_min : mg "min" = none
  z_range : mg "range" = none
structure TbT (H : Hp) (Po Pc Pw Pt : Addr) : Prop where
  o : TabG H Po
  c : TabG H Pc
  w : TabG H Pw
  t : TabX H Pt qLwa
theorem TbT.ke {H H' : Hp} {F : Addr → Prop} {Po Pc Pw Pt : Addr} (t : TbT H Po Pc Pw Pt) (k : Ke F H H') (x : TabX H' Pt qLwa) : TbT H' Po Pc Pw Pt := ⟨k.tabs _ t.o, k.tabs _ t.c, k.tabs _ t.w, x⟩
def spTrr (Po Pc Pw Pt : Addr) : Sp := fun vs H Q _ => ∃ (f c D E : Addr) (v : V) (css ks ks' : List C) (ws : C → Option (Nat × Nat)) (rs rh : C → Option Rc) (wh : C → Option Nat) (B : Nat), vs = [.ref f, v, .ref D, .ref E] ∧ Feed H f c B ∧ B ≤ 2 ^ 25 ∧ FewB H v css ∧ 1 ≤ css.length ∧ css.length ≤ 16 ∧
  WtT mH H D ks (fun c => (ws c).map (·.1)) ∧ Fin aC css ws rs ∧ WtT mH H E ks' wh ∧ Fin aH css wh rh ∧ ks.length ≤ 81 ∧ TbT H Po Pc Pw Pt ∧ ∀ H', TabX H' Pt qLwa → Q (.bl true) H'
theorem ok_trr {f f1 f2 f3 f4 f5 f6 f7 Po Pc Pw Pt : Addr} {fd fd1 fd2 fd3 fd4 fd5 fd6 fd7 : FuncData} {k : Nat} (F : Fun K "_law_e_trees_right" "_law_e_trees_right" sTrr f fd) (T : Ztr mg)
    (F1 : Fun K "_law_e_grown" "_law_e_grown" sGrn f1 fd1) (b1 : Binds K fd1 ["pen", "book"] []) (g1 : mg "_law_e_grown" = some (.ref f1)) (G1 : FnOk P w K mg base CX0 3 f1 fd1 ["pen", "book"] spGrn)
    (F2 : Fun K "is_tree" "is_tree" Tp.sIst f2 fd2) (b2 : Binds K fd2 ["book", "thing"] []) (g2 : mg "is_tree" = some (.ref f2)) (G2 : FnOk P w K mg base CX0 46 f2 fd2 ["book", "thing"] (Tp.spIst Po))
    (F3 : Fun K "claim_of_tree" "claim_of_tree" Tp.sCot f3 fd3) (b3 : Binds K fd3 ["book", "tree"] []) (g3 : mg "claim_of_tree" = some (.ref f3)) (G3 : FnOk P w K mg base CX0 46 f3 fd3 ["book", "tree"] (Tp.spCn Po 40))
    (F4 : Fun K "cuts_of_tree" "cuts_of_tree" Tp.sCts f4 fd4) (b4 : Binds K fd4 ["tree"] []) (g4 : mg "cuts_of_tree" = some (.ref f4)) (G4 : FnOk P w K mg base CX0 41 f4 fd4 ["tree"] (Tp.spCts 40))
    (F5 : Fun K "_law_e_deep" "_law_e_deep" sDep f5 fd5) (b5 : Binds K fd5 ["tree"] []) (g5 : mg "_law_e_deep" = some (.ref f5)) (G5 : FnOk P w K mg base CX0 14 f5 fd5 ["tree"] (spDep 13))
    (F6 : Fun K "is_wide" "is_wide" sWid f6 fd6) (b6 : Binds K fd6 ["one", "other"] []) (g6 : mg "is_wide" = some (.ref f6)) (G6 : FnOk P w K mg base CX0 3 f6 fd6 ["one", "other"] (spWid Pw))
    (F7 : Fun K "to_spare" "to_spare" sTsp f7 fd7) (b7 : Binds K fd7 ["book", "tree"] []) (g7 : mg "to_spare" = some (.ref f7)) (G7 : FnOk P w K mg base CX0 47 f7 fd7 ["book", "tree"] (spTsp Po Pc Pw Pt)) :
    FnOk P w K mg base CX0 (k + 48) f fd ["pen", "book", "numbers", "levels"] (spTrr Po Pc Pw Pt) := by
  refine F.ok scTrr (fun vs H Q E h => ?_) (fun cdv A outer s H vs Q E hr h => ?_)
  · obtain ⟨f, c, D, E, v, css, ks, ks', ws, rs, rh, wh, B, rfl, _⟩ := h
    rfl
  · obtain ⟨f, c, D, E', v, css, ks, ks', ws, rs, rh, wh, B, rfl, hF, hB, fb, l1, l16, wtD, fin, wtE, finh, l81, ts, q⟩ := h
    have hr3 : Room 3 _ := hr.mono (by omega)
    have hr14 : Room 14 _ := hr.mono (by omega)
    have hr41 : Room 41 _ := hr.mono (by omega)
    have hr46 : Room 46 _ := hr.mono (by omega)
    have hr47 : Room 47 _ := hr.mono (by omega)
    refine ⟨_, (Evl.pss_cut (ps_for PassesOwn.never rfl (pi_range1 (by rfl) T.z_range (pa_cons pe_int pa_nil)) (pg_name (i := 4) scTrr.nd rfl (.inl rfl)) (Evl.pss_cut (ps_asg (pe_call G1 hr3 (by rfl) g1 F1.kp b1 .nil pass0 (pa_cons (pv 0) (pa_cons (pv 1) pa_nil))) (pg_tup rfl (pgs_cons (pg_name (i := 5) scTrr.nd rfl (.inl rfl)) (pgs_cons (pg_name (i := 6) scTrr.nd rfl (.inr rfl)) (pgs_cons (pg_name (i := 7) scTrr.nd rfl (.inl rfl)) pgs_nil)))))
      (Evl.pss_cut (ps_if (PW.pt (pw_or (pt_cmpR Xb.op_notB (pe_call G2 hr46 (by rfl) g2 F2.kp b2 .nil pass0 (pa_cons (pv 1) (pa_cons (pv 5) pa_nil))) pe_bl (nomark _)) (pw_or (pt_cmpR (op_neD hr.units) (pe_call G3 hr46 (by rfl) g3 F3.kp b3 .nil pass0 (pa_cons (pv 1) (pa_cons (pv 5) pa_nil))) (pv 6) (nomark _)) (pw_or1 (pt_cmpR op_ne (pe_call G4 hr41 (by rfl) g4 F4.kp b4 .nil pass0 (pa_cons (pv 5) pa_nil)) (pv 7) (nomark _)))))) (pss_one (ps_ret pe_bl)) pss_nil)
      (Evl.pss_cut (ps_if (PW.pt (pw_or (pt_cmpR op_lt (pv 7) (pe_dget (Un.lt1 hr.units) (pv 2) (pv 6) (fun _ _ => rfl)) (nomark _)) (pw_or1 (pt_cmpR op_lt (pe_call G5 hr14 (by rfl) g5 F5.kp b5 .nil pass0 (pa_cons (pv 5) pa_nil)) (pe_dget (Un.lt1 hr.units) (pv 3) (pv 6) (fun _ _ => rfl)) (nomark _))))) (pss_one (ps_ret pe_bl)) pss_nil)
      (Evl.pss_cut (ps_lock (ps_set (i := 8) scTrr.nd rfl (.inl rfl) (pe_callB (cr_min rfl) (by rfl) T.z_min (by decide +kernel) (pa_cons (pe_lc (own := [("one", 9)]) (g := (gName 9))  rfl scTrr.nd (pi_keys (pv 2)) (blkOk_by (N := nTrr) (sc := defScope sTrr) (by decide +kernel)) (fun _ _ _ _ _ => (pg_name (i := 9) scTrr.nd rfl (.inl rfl))) (fun _ _ _ _ _ => (pts_one (pt_val (pe_call G6 hr3 (by rfl) g6 F6.kp b6 .nil pass0 (pa_cons (pv 9) (pa_cons (pv 6) pa_nil)))))) (fun _ _ _ _ _ => (pe_dget (Un.lt1 hr.units) (pv 2) (pv 9) (fun _ _ => rfl)))) pa_nil))))
      (pss_one (ps_if (pt_cmpR op_ne (pe_call G7 hr47 (by rfl) g7 F7.kp b7 .nil pass0 (pa_cons (pv 1) (pa_cons (pv 5) pa_nil))) (pe_op op_sub (pv 7) (pv 8)) (nomark _)) (pss_one (ps_ret pe_bl)) pss_nil)))))))
      (pss_one (ps_ret pe_bl))), ?_⟩
    have ib : ∀ c ∈ css, IsCl c := fun c hc => (fb.few c hc).1
    refine Evl.q_cut (M := fun _ G => TabX G Pt qLwa) ?_ ?_
    · refine ⟨4, rfl, by decide, by decide, for_range (n := (4 : Int).toNat) (Pv := fun i σ H' => ∃ y4 y5 y6 y7 y8 : Option V, σ = [some (.ref f), some v, some (.ref D), some (.ref E'), y4, y5, y6, y7, y8, none] ∧ Feed H' f c (B + 50 * i) ∧ FewB H' v css ∧ WtT mH H' D ks (fun c => (ws c).map (·.1)) ∧ WtT mH H' E' ks' wh ∧ TbT H' Po Pc Pw Pt) ?_ ?_ ?_⟩
      · exact ⟨none, none, none, none, none, rfl, hF, fb, wtD, wtE, ts⟩
      · clear hF fb wtD wtE ts
        rintro i σ H0 hi ⟨y4, y5, y6, y7, y8, rfl, F0, fb0, wD0, wE0, ts0⟩
        have hi4 : i < 4 := hi
        -- a tree
        refine Evl.q_cut (M := fun σ' H' => ∃ (tv : V) (b : Addr) (t : Tr.T) (cl : C), σ' = [some (.ref f), some v, some (.ref D), some (.ref E'), some (.int (0 + (i : Int))), some tv, some (.ref b), some (.int ((t.cuts : Nat) : Int)), y8, none] ∧ Feed H' f c (B + 50 * i + 50) ∧ FewB H' v css ∧ WtT mH H' D ks (fun c => (ws c).map (·.1)) ∧ WtT mH H' E' ks' wh ∧ TbT H' Po Pc Pw Pt ∧ At H' t tv ∧ H' b = some (.tup (cl.map V.int)) ∧ Tr.Cl css t cl ∧ t.cuts ≤ 40 ∧ t.depth ≤ 13) ?_ ?_
        · refine ⟨_, rfl, _, rfl, f, c, v, css, _, rfl, F0, by omega, fb0.bk, ib, l1, l16, fun p b tv t cl H1 F1' k1 hp at1 hb hcl hcu hde => ?_⟩
          have nD : D ≠ f := by obtain ⟨⟨kvs, h, _⟩, _⟩ := wD0; exact nf_dT F0 h
          have nE : E' ≠ f := by obtain ⟨⟨kvs, h, _⟩, _⟩ := wE0; exact nf_dT F0 h
          exact ⟨p, _, rfl, .of hp, rfl, _, _, rfl, _, _, rfl, _, _, rfl, rfl, tv, b, t, cl, rfl, F1', fb0.ke k1, wt_ke mH_ok wD0 k1 nD, wt_ke mH_ok wE0 k1 nE, ts0.ke k1 (tx_feed F0 ts0.t k1), at1, hb, hcl, hcu, hde⟩
        clear F0 fb0 wD0 wE0 ts0
        rintro σ' H1 ⟨tv, b, t, cl, rfl, F1', fb1, wD1, wE1, ts1, at1, hb1, hcl, hcu, hde⟩
        have keN : ∀ {G G' : Hp}, Ke Nof G G' → Feed G f c (B + 50 * i + 50) ∧ FewB G v css ∧ WtT mH G D ks (fun c => (ws c).map (·.1)) ∧ WtT mH G E' ks' wh ∧ TbT G Po Pc Pw Pt ∧ At G t tv ∧ G b = some (.tup (cl.map V.int)) → Feed G' f c (B + 50 * i + 50) ∧ FewB G' v css ∧ WtT mH G' D ks (fun c => (ws c).map (·.1)) ∧ WtT mH G' E' ks' wh ∧ TbT G' Po Pc Pw Pt ∧ At G' t tv ∧ G' b = some (.tup (cl.map V.int)) := fun {G G'} k ⟨h1, h2, h3, h4, h5, h6, h7⟩ =>
          ⟨k.feed h1, h2.ke k, wt_ke mH_ok h3 k (fun z => z), wt_ke mH_ok h4 k (fun z => z), h5.ke k (h5.t.ke k (fun z => z) fun _ _ z => z), h6.ke k, k.tups _ _ h7⟩
        -- is it one
        refine Evl.q_cut (M := fun σ' H' => σ' = [some (.ref f), some v, some (.ref D), some (.ref E'), some (.int (0 + (i : Int))), some tv, some (.ref b), some (.int ((t.cuts : Nat) : Int)), y8, none] ∧ Feed H' f c (B + 50 * i + 50) ∧ FewB H' v css ∧ WtT mH H' D ks (fun c => (ws c).map (·.1)) ∧ WtT mH H' E' ks' wh ∧ TbT H' Po Pc Pw Pt ∧ At H' t tv ∧ H' b = some (.tup (cl.map V.int))) ?_ ?_
        · have pc := pieces_cuts t
          refine ⟨_, rfl, _, rfl, v, tv, css, t, cl, rfl, fb1.bk, ib, at1, by omega, by omega, hcl, ts1.o, fun H2 k2 => ⟨true, true, rfl, rfl, false, rfl, ?_⟩⟩
          obtain ⟨e1, e2, e3, e4, e5, e6, e7⟩ := keN k2 ⟨F1', fb1, wD1, wE1, ts1, at1, hb1⟩
          refine ⟨_, rfl, _, rfl, v, tv, css, t, cl, rfl, e2.bk, ib, e6, by omega, hcl, e5.o, fun p H3 k3 hp => ?_⟩
          obtain ⟨e1, e2, e3, e4, e5, e6, e7⟩ := keN k3 ⟨e1, e2, e3, e4, e5, e6, e7⟩
          refine ⟨_, rfl, _, _, .tup (.of hp) (dp_ints cl), .tup (.of e7) (dp_ints cl), shaped_tuple (flat_ints _), shaped_tuple (flat_ints _), false, by rw [eqv_self (shaped_tuple (flat_ints cl))]; rfl, ?_⟩
          exact ⟨_, rfl, tv, t, rfl, e6, by omega, _, rfl, rfl, false, by simp, rfl, e1, e2, e3, e4, e5, e6, e7⟩
        clear F1' fb1 wD1 wE1 ts1 at1 hb1 H1
        rintro σ' H1 ⟨rfl, F1', fb1, wD1, wE1, ts1, at1, hb1⟩
        obtain ⟨u, hu, lu⟩ := fin.le t cl hcl
        obtain ⟨hh, hw, lh⟩ := finh.le t cl hcl
        have lcu := (fin.cuts hu).1 t hcl
        have lhh : hh ≤ wt aH t := lh
        have wth := (wt_high t).2
        obtain ⟨⟨kvs, hD, hk, hno, hat⟩, nd, me⟩ := id wD1
        obtain ⟨⟨kve, hE, hke, hnoe, hate⟩, nde, mee⟩ := id wE1
        obtain ⟨x1, gx1, r1⟩ := hat cl u.1 (by show (ws cl).map (·.1) = _; rw [hu]; rfl)
        obtain ⟨x2, gx2, r2⟩ := hate cl hh hw
        have r1 : x1 = .int ((u.1 : Nat) : Int) := r1
        have r2 : x2 = .int ((hh : Nat) : Int) := r2
        subst r1
        subst r2
        -- not below what is told
        refine Evl.q_cut (M := fun σ' H' => σ' = [some (.ref f), some v, some (.ref D), some (.ref E'), some (.int (0 + (i : Int))), some tv, some (.ref b), some (.int ((t.cuts : Nat) : Int)), y8, none] ∧ H' = H1) ?_ ?_
        · have gD := DGet.t (k := kT cl) hD (by rw [kT_v]; exact hb1)
          have gE := DGet.t (k := kT cl) hE (by rw [kT_v]; exact hb1)
          rw [gx1] at gD
          rw [gx2] at gE
          refine ⟨_, rfl, _, rfl, _, rfl, D, _, rfl, gD, _, _, rfl, rfl, false, ?_, ?_⟩
          · show V.bl (decide (((t.cuts : Nat) : Int) < ((u.1 : Nat) : Int))) = V.bl false
            rw [decide_eq_false (by omega)]
          refine ⟨_, rfl, tv, t, rfl, at1, hde, _, rfl, _, rfl, E', _, rfl, gE, _, _, rfl, rfl, false, ?_, rfl, rfl⟩
          show V.bl (decide (((t.depth : Nat) - 1 : Int) < ((hh : Nat) : Int))) = V.bl false
          rw [decide_eq_false (by omega)]
        rintro σ' H2 ⟨rfl, rfl⟩
        -- the least of those that are as wide
        refine Evl.q_cut (M := fun σ' H' => ∃ m : Nat, σ' = [some (.ref f), some v, some (.ref D), some (.ref E'), some (.int (0 + (i : Int))), some tv, some (.ref b), some (.int ((t.cuts : Nat) : Int)), some (.int ((m : Nat) : Int)), none] ∧ MinW (fun k => (ws k).map (·.1)) cl m ∧ Feed H' f c (B + 50 * i + 50) ∧ FewB H' v css ∧ WtT mH H' D ks (fun c => (ws c).map (·.1)) ∧ WtT mH H' E' ks' wh ∧ TbT H' Po Pc Pw Pt ∧ At H' t tv ∧ H' b = some (.tup (cl.map V.int))) ?_ ?_
        · have lk : kvs.length = ks.length := by
            have := congrArg List.length hk
            rwa [List.length_map, List.length_map] at this
          refine ⟨D, _, hD, trivial, fun od => ?_⟩
          have hDf : (upd H2 D (.frz od (.dT kvs))) D = some (.frz od (.dT kvs)) := upd_same
          have back : ∀ {G}, Ke Nof (upd H2 D (.frz od (.dT kvs))) G → Ke Nof H2 (upd G D (.dT kvs)) := fun k => Brs.unlockedT hD k
          have hbf : (upd H2 D (.frz od (.dT kvs))) b = some (.tup (cl.map V.int)) := by
            rw [upd_ne (fun w => by rw [w, hD] at hb1; cases hb1)]
            exact hb1
          have tw : TabG (upd H2 D (.frz od (.dT kvs))) Pw := (ke_wrT (Ke.refl (fun b => b = D) H2) rfl hD).tabs _ ts1.w
          generalize upd H2 D (.frz od (.dT kvs)) = Hf at hDf back hbf tw ⊢
          refine ⟨_, rfl, D, od, rfl, .inr ⟨kvs, hDf, fun Z nZ => ?_⟩⟩
          refine lc_it walk_keysT (Pv := fun i H' => Ke Nof Hf H' ∧ ∃ ns : List Int, H' Z = some (.lst (ns.map V.int)) ∧ Nms (fun k => (ws k).map (·.1)) cl (ks.take i) ns) ⟨.same (same_new nZ), [], upd_same, .nil⟩ (fun i H' _ z => z.1.keep D _ hDf (fun ps z => by cases z) fun z => z) ?_ ?_
          · rintro j x H3 H3' hj ⟨k3, ns, hZ, nm⟩ ⟨rfl, kx, v1, q0, hkv, rfl, hq⟩
            obtain ⟨ci, hci, rfl⟩ : ∃ ci, ks[j]? = some ci ∧ kx = kT ci := by
              have e : (kvs.map (·.1))[j]? = some kx := by rw [List.getElem?_map, hkv]; rfl
              rw [hk, List.getElem?_map] at e
              obtain ⟨ci, h1, h2⟩ := Option.map_eq_some_iff.mp e
              exact ⟨ci, h1, h2.symm⟩
            rw [kT_v] at hq
            have tk := Lp.take_snoc hci
            obtain ⟨n, hn⟩ := (me ci).mp (List.mem_of_getElem? hci)
            obtain ⟨xv, gx, hx⟩ := hat ci n hn
            have hx : xv = .int ((n : Nat) : Int) := hx
            subst hx
            have ln := nm.len
            rw [List.length_take] at ln
            refine ⟨rfl, _, rfl, _, rfl, .ref q0, .ref b, ci, cl, rfl, ⟨q0, rfl, hq⟩, ⟨b, rfl, k3.tups _ _ hbf⟩, k3.tabs _ tw, fun H4 k4 => ⟨_, rfl, ite2 (fun e => ?_) (fun e => ?_)⟩⟩
            · have k34 := k3.trans k4
              refine ⟨_, rfl, _, rfl, D, _, rfl, .inr ⟨kvs, kT ci, q0, .inr ⟨od, k34.keep D _ hDf (fun ps z => by cases z) fun z => z⟩, rfl, by rw [kT_v]; exact k4.tups _ _ hq, gx.symm⟩, ns.map V.int, k4.lst hZ fun z => z, small1000 (by rw [List.length_map]; omega), k34.upd nZ, ns ++ [((n : Nat) : Int)], by rw [upd_same, List.map_append]; rfl, ?_⟩
              rw [tk]
              exact nm.yes hn e
            · refine ⟨k3.trans k4, ns, k4.lst hZ fun z => z, ?_⟩
              rw [tk]
              exact nm.no (Bool.eq_false_iff.mpr e)
          · rintro H3 ⟨k3, ns, hZ, nm⟩
            rw [lk, List.take_length] at nm
            have uc : (fun k => (ws k).map (·.1)) cl = some u.1 := by show (ws cl).map (·.1) = _; rw [hu]; rfl
            have pos : ((u.1 : Nat) : Int) ∈ ns := nm.all cl ((me cl).mpr ⟨u.1, uc⟩) u.1 uc (wide_self cl)
            refine ⟨Z, ns, rfl, .of hZ, List.length_pos_of_mem pos, fun m hm le => ?_⟩
            obtain ⟨n, rfl, mw⟩ := nm.min me hm le
            have hD3 : H3 D = some (.frz od (.dT kvs)) := k3.keep D _ hDf (fun ps z => by cases z) fun z => z
            exact ⟨hD3, n, rfl, mw, keN (back k3) ⟨F1', fb1, wD1, wE1, ts1, at1, hb1⟩⟩
        clear F1' fb1 wD1 wE1 ts1 at1 hb1 hD hk hno hat nd me hE hke hnoe hate nde mee gx1 gx2
        rintro σ' H3 ⟨m, rfl, mw, F1', fb1, wD1, wE1, ts1, at1, hb1⟩
        -- what can be spared
        refine ⟨_, rfl, _, rfl, v, tv, css, t, cl, rfl, fb1, at1, hcl, by omega, ts1.o, ts1.c, ts1.w, ts1.t, fun m' H4 k4 tx4 mn => ?_⟩
        have em : m' = m := (mn ws rs fin).one mw
        subst em
        have nD : D ≠ Pt := by obtain ⟨⟨kvs, h, _⟩, _⟩ := wD1; exact npt_dT ts1.t h
        have nE : E' ≠ Pt := by obtain ⟨⟨kvs, h, _⟩, _⟩ := wE1; exact npt_dT ts1.t h
        refine ⟨_, rfl, _, rfl, _, _, rfl, rfl, rfl, false, by simp, ?_⟩
        exact ⟨_, _, _, _, _, rfl, (feed_pt F1' ts1.t k4).mono (by omega), fb1.ke k4, wt_ke mH_ok wD1 k4 nD, wt_ke mH_ok wE1 k4 nE, ts1.ke k4 tx4⟩
      · rintro σ H' ⟨_, _, _, _, _, _, _, _, _, _, ts⟩
        exact ts.t
    rintro σ' H' tx
    exact q H' tx
end
end Trr
namespace Gd
open PySem PySem.Spec PyProof.Rows L2
/-! ### a law that shows lists (repr): run where nothing is being shown -/
/-- a promise for calls made while nothing is being shown -/
structure FnG (P : Program) (w : World) (K : PySem.W.Frag) (mg : Str → Option Value) (base : Heap) (k : Nat) (f : Addr) (fd : FuncData) (ps : List Str) (sp : Sp) : Prop where
  len : ∀ us H Q E, sp us H Q E → us.length = ps.length
  run : ∀ (A : Around) (outer : List Env) (s : Shared) (H : Hp) (args : Args) (us : List Value) (vs : List V) (Q : VK) (E : XK), A.guards = some [] → Room k A → Env0 P w K mg base A outer s H → BindsTo s fd args (ps.zip us) → Vals vs us → sp vs H Q E → codeAny (model P w) A (.call (.ref f) args) (CR CX0 outer P w H s Q E) s
section
variable {P : Program} {w : World} {K : PySem.W.Frag} {mg : Str → Option Value} {base : Heap}
theorem okG {x qual : Str} {st : Stmt} {f : Addr} {fd : FuncData} {N ps : List Str} {k : Nat} {sp : Sp} (F : Fun K x qual st f fd) (S : FnScope N ps (defScope st)) (ln : ∀ us H Q E, sp us H Q E → us.length = ps.length)
    (body : ∀ (cdv : Value) (A : Around) (outer : List Env) (s : Shared) (H : Hp) (vs : List V) (Q : VK) (E : XK), A.guards = some [] → Room k (A.deeper (envOfC qual (defScope st) s.heap.objs.size f cdv)) → sp vs H Q E →
      ∃ t, PSs (cxOf CX0 P w K mg base N qual (defScope st) f cdv A outer s H E).nox (defBody st) t ∧ t { nx := fun _ H' => Q .non H', rt := Q } (start N vs) H) : FnG P w K mg base (k + 1) f fd ps sp := by
  obtain ⟨oc, od, kV, doc, pm, an, cdv, ct, osl, rfl, lk, hcd⟩ := F.ex
  refine ⟨ln, fun A outer s H args us vs Q E gd room env bind rel ask => ?_⟩
  have inS : K.In s.heap := env.mod.kin.keeps fun b o e => (env.bs b o e).1
  have noL : s.heap.NoLimit := env.mod.nolimit.keeps fun b o e => (env.bs b o e).1
  refine codeAny_call_function room.depth (inS _ _ lk) rfl S.co S.gen rfl (PySem.W.codeRec_of inS hcd) (bind _ _ _ _ (wpAny_newFunctionEnv_cells S.kind (fun y hy => ?_) fun env' he s1 z => ?_))
  · rcases S.par y.1 (List.of_mem_zip (a := y.1) (b := y.2) hy).1 with q | q
    · exact Or.inl q
    · exact Or.inr ⟨q, PySem.W.cellsFrom_some _ _ _ (Or.inl q)⟩
  · subst he
    obtain ⟨t, h1, h2⟩ := body cdv A outer s H vs Q E gd (room.deeper _) ask
    have J := inv_start (CX := CX0) (E := E) S room.hd env (ln _ _ _ _ ask) rel z
    refine ⟨noL.keeps z.toInCall.keep, codeAny_func (wpAny_mono (h1.nox.run [] s1 _ H _ J h2) (fun fl s' r => ?_) fun _ _ r => r)⟩
    match fl, r with
    | .ret u, r =>
      obtain ⟨v, σ', H', I, rv, q⟩ := r
      exact ⟨v, H', I.os, I.bare, I.base, I.hok, rv, q⟩
    | .next, r =>
      obtain ⟨σ', H', I, q⟩ := r
      exact ⟨.non, H', I.os, I.bare, I.base, I.hok, rfl, q⟩
    | .brk, r =>
      obtain ⟨_, _, _, q⟩ := r
      exact q.elim
    | .cont, r =>
      obtain ⟨_, _, _, q⟩ := r
      exact q.elim
/-- what the abstract heap knows at the law's call: the tables T, the script at a unless K holds it -/
def at0 (K : PySem.W.Frag) (T : List Addr) (a : Addr) (o : HO) : Hp := fun b => if b ∈ T then some (.tbl #[]) else if b = a ∧ (K.lookup a).isNone = true then some o else none
theorem at0_cases {T : List Addr} {a b : Addr} {o u : HO} (h : at0 K T a o b = some u) : (b ∈ T ∧ u = .tbl #[]) ∨ (b ∉ T ∧ b = a ∧ K.lookup a = none ∧ u = o) := by
  unfold at0 at h
  by_cases h1 : b ∈ T
  · rw [if_pos h1] at h
    exact .inl ⟨h1, (Option.some.inj h).symm⟩
  · rw [if_neg h1] at h
    by_cases h2 : b = a ∧ (K.lookup a).isNone = true
    · rw [if_pos h2] at h
      exact .inr ⟨h1, h2.1, Option.isNone_iff_eq_none.mp h2.2, (Option.some.inj h).symm⟩
    · rw [if_neg h2] at h
      cases h
theorem law_at {mb : Str → Option Value} {k : Nat} {fa a : Addr} {cs : List (Addr × Addr)} {fd : FuncData} {x : Str} {sp : Sp} {s1 : Shared} {us : List Value} {ns : List Int} (inK : K.In s1.heap) (ng : s1.heap.Ns mainGlobals mg) (nb : s1.heap.Ns builtinsNs mb)
    (bb : ∀ y : Str, y ≠ "__name__" → mb y = bootBuiltins y) (lim : s1.heap.NoLimit) (gens : s1.gens = #[]) (te : ∀ p ∈ cs, s1.heap.get? p.2 = some (PySem.W.tabObj #[])) (tk : ∀ p ∈ cs, K.lookup p.2 = none) (tc : ∀ p ∈ cs, PySem.W.CodeHd s1.heap p.1 p.2)
    (bm : ∃ (bm : Addr) (ob : Obj), mg "__builtins__" = some (.ref bm) ∧ bm ≠ builtinsNs ∧ s1.heap.get? bm = some ob ∧ ob.cls = .type "module" ∧ ob.dict = some builtinsNs ∧ ob.data = .plain) (la : s1.heap.get? a = some { cls := .type "list", data := .seq us.toArray }) (iu : IntsAre us ns) (lu : ns.length ≤ sizeLine) (room : Room k callerA)
    (F : ∀ base : Heap, K.In base → base.Ns mainGlobals mg → (∀ p ∈ cs, LamX.TabB base mg p.1 p.2) → FnG P w K mg base k fa fd [x] sp) (bind : ∀ (s : Shared) (u : Value), BindsTo s fd ⟨[u], []⟩ [(x, u)])
    (ask : ∀ H : Hp, (∀ p ∈ cs, H p.2 = some (.tbl #[])) → SqL K H a (ns.map V.int) → sp [.ref a] H (fun v _ => v = .bl true) fun _ _ _ => False) :
    codeAny (model P w) callerA (.call (.ref fa) ⟨[.ref a], []⟩) (fun r s' => r = .ok (.ret (.bool true)) ∧ OldK s1.heap s'.heap ∧ s'.os = s1.os ∧ AllBare s'.gens) s1 := by
  have lv := iu.length
  let T := cs.map (·.2)
  let O : HO := .frz { cls := .type "list", data := .seq us.toArray } (.lst (ns.map V.int))
  have tT : ∀ b ∈ T, s1.heap.get? b = some (PySem.W.tabObj #[]) := fun b hb => by
    obtain ⟨p, hp, rfl⟩ := List.mem_map.mp hb
    exact te p hp
  have inT : ∀ p ∈ cs, p.2 ∈ T := fun p hp => List.mem_map.mpr ⟨p, hp, rfl⟩
  have naT : a ∉ T := fun z => by
    have q := tT a z
    rw [la] at q
    cases congrArg Obj.data (Option.some.inj q)
  -- an object that is neither a list nor an empty table is not tracked
  have un0 : ∀ {b : Addr} {o : Obj}, s1.heap.get? b = some o → (∀ v n, o.data ≠ .seq v n) → o.data ≠ .fields #[] → at0 K T a O b = none := fun {b o} e d1 d2 => by
    cases q : at0 K T a O b with
    | none => rfl
    | some u =>
      rcases at0_cases q with ⟨h1, _⟩ | ⟨_, h1, _⟩
      · rw [tT b h1] at e
        cases e
        exact absurd rfl d2
      · rw [h1, la] at e
        cases e
        exact absurd rfl (d1 _ _)
  have ns0 : ∀ {b : Addr} {m : Str → Option Value}, s1.heap.Ns b m → (hidT s1.heap (at0 K T a O)).Ns b m := fun ⟨o, es, ep, e, d, r⟩ =>
    ⟨o, es, ep, hidT_get e (un0 e (fun _ _ z => by rw [d] at z; cases z) fun z => by rw [d] at z; cases z), d, r⟩
  have in0 : K.In (hidT s1.heap (at0 K T a O)) := fun b o e => by
    refine hidT_get (inK b o e) ?_
    cases q : at0 K T a O b with
    | none => rfl
    | some u =>
      rcases at0_cases q with ⟨h1, _⟩ | ⟨_, h1, h2, _⟩
      · obtain ⟨p, hp, rfl⟩ := List.mem_map.mp h1
        rw [tk p hp] at e
        cases e
      · rw [h1, h2] at e
        cases e
  have mod0 : L2.Mod K mg (hidT s1.heap (at0 K T a O)) := ⟨in0, ns0 ng, ⟨mb, ns0 nb, bb⟩, let ⟨mc, h1, h2⟩ := lim; ⟨mc, ns0 h1, h2⟩⟩
  have tab0 : ∀ p ∈ cs, LamX.TabB (hidT s1.heap (at0 K T a O)) mg p.1 p.2 := fun p hp => by
    obtain ⟨bmA, ob, b1, b2, b3, b4, b5, b6⟩ := bm
    obtain ⟨oc, oes, oep, oe, od, _⟩ := ng
    obtain ⟨c0, v0, f0, t0, g0, u0, i0, x0, y0, e1, r1, r2, r3, rest⟩ := tc p hp
    refine ⟨⟨c0, v0, f0, t0, g0, u0, i0, x0, y0, hidT_get e1 (un0 e1 (fun _ _ z => by rw [r2] at z; cases z) fun z => ?_), r1, r2, r3, rest⟩, ⟨bmA, ob, b1, b2, fun z => ?_, fun z => ?_, hidT_get b3 (un0 b3 (fun _ _ z => by rw [b6] at z; cases z) fun z => by rw [b6] at z; cases z), b4, b5, b6⟩, fun z => ?_⟩
    · rw [r2] at z
      cases z
      simp at r3
    · rw [z, oe] at b3
      cases b3
      rw [od] at b6
      cases b6
    · rw [z, te p hp] at b3
      cases b3
      cases b6
    · rw [z, te p hp] at oe
      cases oe
      cases od
  have hok0 : HOk P w (at0 K T a O) s1.heap := fun b u q => by
    rcases at0_cases q with ⟨h1, rfl⟩ | ⟨_, rfl, _, rfl⟩
    · exact tT b h1
    · exact ⟨la, by rw [List.length_map]; exact lu, us, _, vals_ints iu, la⟩
  have sq0 : SqL K (at0 K T a O) a (ns.map V.int) := by
    cases q : K.lookup a with
    | some o =>
      have e := inK a o q
      rw [la] at e
      cases e
      exact .inr ⟨_, us.toArray, _, q, rfl, rfl, rfl, by rw [List.size_toArray, lv]; exact lu, by simpa using vals_ints iu⟩
    | none => exact .inl (.inr ⟨_, (if_neg naT).trans (if_pos ⟨rfl, by rw [q]; rfl⟩)⟩)
  have env0 : Env0 P w K mg (hidT s1.heap (at0 K T a O)) callerA [] s1 (at0 K T a O) := ⟨rfl, mod0, fun b o e => of_hidT e, Nat.le_of_eq (hidT_size _ _), trivial, fun b z => absurd (show b ∈ ([] : List Addr) from z) (by simp), hok0, .of_eq gens⟩
  refine codeAny_mono ((F _ in0 (ns0 ng) tab0).run callerA [] s1 (at0 K T a O) ⟨[.ref a], []⟩ [.ref a] [.ref a] _ _ rfl room env0 (bind s1 (.ref a)) (.cons rfl .nil) (ask _ (fun p hp => if_pos (inT p hp)) sq0)) fun r s' h => ?_
  match r, h with
  | .error e, h => exact False.elim h
  | .ok .next, h => exact False.elim h
  | .ok .brk, h => exact False.elim h
  | .ok .cont, h => exact False.elim h
  | .ok (.ret u), h =>
    obtain ⟨v, H', os, bare, un, hok', rv, q⟩ := h
    obtain rfl : v = .bl true := q
    obtain rfl : u = Value.bool true := rv
    have kept : ∀ b o, b ∉ T → s1.heap.get? b = some o → s'.heap.get? b = some o := fun b o nt e => by
      cases z : at0 K T a O b with
      | none => exact un.keep b o e z (fun y => absurd (show b ∈ ([] : List Addr) from y) (by simp)) (by simp)
      | some u =>
        rcases at0_cases z with ⟨h1, _⟩ | ⟨_, rfl, _, rfl⟩
        · exact absurd h1 nt
        · obtain ⟨e2, _⟩ := hok' b _ (un.frzs b _ _ z)
          rw [la] at e
          cases e
          exact e2
    have tabs : ∀ b ∈ T, ∃ more : Array Value, s'.heap.get? b = some (PySem.W.tabObj more) := fun b hb => by
      obtain ⟨more, z⟩ := un.tbls b #[] (if_pos hb)
      exact ⟨_, hok' b _ z⟩
    refine ⟨rfl, ⟨fun b o e => ?_, fun b o e => ?_⟩, os, bare⟩
    · by_cases hb : b ∈ T
      · obtain ⟨more, z⟩ := tabs b hb
        obtain ⟨p, hp, rfl⟩ := List.mem_map.mp hb
        have e3 := te p hp
        rw [e] at e3
        cases e3
        exact .inr (.inl ⟨((tc p hp).tab (te p hp)).isCodeTable, rfl, #[], more, rfl, by rw [Array.empty_append]; exact z⟩)
      · exact .inl (kept b o hb e)
    · by_cases hb : b ∈ T
      · obtain ⟨more, z⟩ := tabs b hb
        exact ⟨_, z⟩
      · exact ⟨o, kept b o hb e⟩
end
end Gd
namespace Eg
open PySem PySem.Spec PyProof.Rows L2 GxR Nw Dr Kp
/-! ### the end of a law that shows lists: defs whose code objects have tables -/
/-- what stands where a def's code object has its table -/
abbrev Own (K : PySem.W.Frag) (h : Heap) (mg : Str → Option Value) (ys : List Str) : Prop := ∀ y ∈ ys, ∀ f, mg y = some (.ref f) → LamX.OwnTab K f h
/-- what is to be known of a law at the heap h -/
def LawG (l : PySem.W.OpenLaw) (w : World) (K : PySem.W.Frag) (k m : Nat) (x : Str) (mg : Str → Option Value) (g : Addr) (h : Heap) : Prop :=
  ∃ (fd : FuncData) (cs : List (Addr × Addr)) (sp : Sp), (∀ p ∈ cs, h.get? p.2 = some (PySem.W.tabObj #[])) ∧ (∀ p ∈ cs, K.lookup p.2 = none) ∧ (∀ p ∈ cs, PySem.W.CodeHd h p.1 p.2) ∧ (∀ (s : Shared) (u : Value), BindsTo s fd ⟨[u], []⟩ [(x, u)]) ∧
    (∀ (H : Hp) (a : Addr) (ns : List Int), ns.length ≤ m → (∀ p ∈ cs, H p.2 = some (.tbl #[])) → SqL K H a (ns.map V.int) → sp [.ref a] H (fun v _ => v = .bl true) fun _ _ _ => False) ∧
    ∀ base : Heap, K.In base → base.Ns mainGlobals mg → (∀ p ∈ cs, LamX.TabB base mg p.1 p.2) → Gd.FnG l.prog w K mg base k g fd [x] sp
theorem walk_own {l : PySem.W.OpenLaw} {m k : Nat} {pr : Program} {ls : List Str} {XP : (Str → Option Value) → Heap → Prop} {YP : World → Heap → Prop} {d : DefRec} {K : Params → PySem.W.Frag} {x : Str} (ys : List Str)
    (e1 : l.most = some m) (e2 : m ≤ sizeLine) (e3 : d.params.defaults = []) (room : Room k callerA) (named : ∀ y ∈ ys, ((recsOf pr).any fun e => e.name == y) = true) (inK : ∀ (w : World) (h : Heap), YP w h → (K w.params).In h)
    (go : ∀ (w : World) (mg : Str → Option Value) (g : Addr) (h : Heap), YP w h → (K w.params).In h → h.Ns mainGlobals mg → mg d.name = some (.ref g) → Own (K w.params) h mg ys → LawG l w (K w.params) k m x mg g h) :
    PySem.W.WalkO pr ls XP YP l.row.toRowW d [] (fun f vs => PySem.call f vs) := by
  refine Att.attach_callB e1 e3 fun w s0 s1 mg mb fa o pm cd doc a us ns G Y ho hd hcd hmg hobj hints hlen hbits hg => ?_
  have inH := inK w _ Y
  have tabs : Own (K w.params) s1.heap mg ys := fun y hy f hf c P ob fd e dd vs sl q1 q2 q3 q4 q5 => by
    obtain ⟨r, hr1, hr2⟩ := List.any_eq_true.mp (named y hy)
    obtain ⟨f', ob', fd', c', P', t1, t2, t3, t4, t5, ⟨⟨oc, vc, u1, _, u3, u4⟩, u5⟩⟩ := G.T.tab r hr1
    rw [show r.name = y from beq_iff_eq.mp hr2, hf] at t1
    cases t1
    rw [inH _ _ q1] at t2
    cases t2
    rw [q2] at t3
    cases t3
    rw [q3] at t4
    cases t4
    rw [inH _ _ q4] at u1
    cases u1
    cases u3
    rw [q5] at u4
    cases u4
    exact u5
  obtain ⟨fd, cs, sp, h1, h2, h3, h4, h5, h6⟩ := go w mg fa _ Y inH G.T.g hmg tabs
  exact Gd.law_at inH G.T.g G.T.b G.T.builtins G.T.nolimit hg h1 h2 h3 G.T.bmain hobj hints (Nat.le_trans hlen e2) room h6 h4 fun H z1 z2 => h5 H a ns hlen z1 z2
end Eg
namespace Egx
open PySem PySem.Spec PyProof.Rows L2 GxR Nw Dr Kp Gd Lam
/-! ### the end of a law whose program makes lambdas: their tables are known exactly -/
/-- what the abstract heap knows at the law's call -/
def atX (K : PySem.W.Frag) (T xs : List Addr) (a : Addr) (o : HO) : Hp := fun b => if b ∈ xs then some (TbX b #[]) else at0 K T a o b
theorem atX_cases {K : PySem.W.Frag} {T xs : List Addr} {a b : Addr} {o u : HO} (sub : ∀ b ∈ xs, b ∈ T) (h : atX K T xs a o b = some u) : (b ∈ T ∧ (u = .tbl #[] ∨ u = TbX b #[])) ∨ (b ∉ T ∧ b = a ∧ K.lookup a = none ∧ u = o) := by
  unfold atX at h
  by_cases hx : b ∈ xs
  · rw [if_pos hx] at h
    exact .inl ⟨sub b hx, .inr (Option.some.inj h).symm⟩
  · rw [if_neg hx] at h
    rcases at0_cases h with ⟨h1, h2⟩ | h
    · exact .inl ⟨h1, .inl h2⟩
    · exact .inr h
theorem atX_tab {K : PySem.W.Frag} {T xs : List Addr} {a b : Addr} {o : HO} (h : b ∈ T) : atX K T xs a o b = some (if b ∈ xs then TbX b #[] else .tbl #[]) := by
  unfold atX
  by_cases hx : b ∈ xs
  · rw [if_pos hx, if_pos hx]
  · rw [if_neg hx, if_neg hx]
    exact if_pos h
section
variable {P : Program} {w : World} {K : PySem.W.Frag} {mg : Str → Option Value} {base : Heap}
theorem law_atX {mb : Str → Option Value} {k : Nat} {fa a : Addr} {cs : List (Addr × Addr)} {xs : List Addr} {fd : FuncData} {x : Str} {sp : Sp} {s1 : Shared} {us : List Value} {ns : List Int} (inK : K.In s1.heap) (ng : s1.heap.Ns mainGlobals mg) (nb : s1.heap.Ns builtinsNs mb)
    (bb : ∀ y : Str, y ≠ "__name__" → mb y = bootBuiltins y) (lim : s1.heap.NoLimit) (gens : s1.gens = #[]) (sub0 : ∀ b ∈ xs, b ∈ cs.map (·.2)) (te : ∀ p ∈ cs, s1.heap.get? p.2 = some (PySem.W.tabObj #[])) (tk : ∀ p ∈ cs, K.lookup p.2 = none) (tc : ∀ p ∈ cs, PySem.W.CodeHd s1.heap p.1 p.2)
    (bm : ∃ (bm : Addr) (ob : Obj), mg "__builtins__" = some (.ref bm) ∧ bm ≠ builtinsNs ∧ s1.heap.get? bm = some ob ∧ ob.cls = .type "module" ∧ ob.dict = some builtinsNs ∧ ob.data = .plain) (la : s1.heap.get? a = some { cls := .type "list", data := .seq us.toArray }) (iu : IntsAre us ns) (lu : ns.length ≤ sizeLine) (room : Room k callerA)
    (F : ∀ base : Heap, K.In base → base.Ns mainGlobals mg → (∀ p ∈ cs, LamX.TabB base mg p.1 p.2) → FnG P w K mg base k fa fd [x] sp) (bind : ∀ (s : Shared) (u : Value), BindsTo s fd ⟨[u], []⟩ [(x, u)])
    (ask : ∀ H : Hp, (∀ p ∈ cs, H p.2 = some (if p.2 ∈ xs then TbX p.2 #[] else .tbl #[])) → SqL K H a (ns.map V.int) → sp [.ref a] H (fun v H2 => v = .bl true ∧ ∀ b ∈ xs, ∃ qs : Array Value, H2 b = some (TbX b qs)) fun _ _ _ => False) :
    codeAny (model P w) callerA (.call (.ref fa) ⟨[.ref a], []⟩) (fun r s' => r = .ok (.ret (.bool true)) ∧ OldK s1.heap s'.heap ∧ s'.os = s1.os ∧ AllBare s'.gens) s1 := by
  have lv := iu.length
  let T := cs.map (·.2)
  let O : HO := .frz { cls := .type "list", data := .seq us.toArray } (.lst (ns.map V.int))
  have sub : ∀ b ∈ xs, b ∈ T := sub0
  have tT : ∀ b ∈ T, s1.heap.get? b = some (PySem.W.tabObj #[]) := fun b hb => by
    obtain ⟨p, hp, rfl⟩ := List.mem_map.mp hb
    exact te p hp
  have inT : ∀ p ∈ cs, p.2 ∈ T := fun p hp => List.mem_map.mpr ⟨p, hp, rfl⟩
  have naT : a ∉ T := fun z => by
    have q := tT a z
    rw [la] at q
    cases congrArg Obj.data (Option.some.inj q)
  -- an object that is neither a list nor an empty table is not tracked
  have un0 : ∀ {b : Addr} {o : Obj}, s1.heap.get? b = some o → (∀ v n, o.data ≠ .seq v n) → o.data ≠ .fields #[] → atX K T xs a O b = none := fun {b o} e d1 d2 => by
    cases q : atX K T xs a O b with
    | none => rfl
    | some u =>
      rcases atX_cases sub q with ⟨h1, _⟩ | ⟨_, h1, _⟩
      · rw [tT b h1] at e
        cases e
        exact absurd rfl d2
      · rw [h1, la] at e
        cases e
        exact absurd rfl (d1 _ _)
  have ns0 : ∀ {b : Addr} {m : Str → Option Value}, s1.heap.Ns b m → (hidT s1.heap (atX K T xs a O)).Ns b m := fun ⟨o, es, ep, e, d, r⟩ =>
    ⟨o, es, ep, hidT_get e (un0 e (fun _ _ z => by rw [d] at z; cases z) fun z => by rw [d] at z; cases z), d, r⟩
  have in0 : K.In (hidT s1.heap (atX K T xs a O)) := fun b o e => by
    refine hidT_get (inK b o e) ?_
    cases q : atX K T xs a O b with
    | none => rfl
    | some u =>
      rcases atX_cases sub q with ⟨h1, _⟩ | ⟨_, h1, h2, _⟩
      · obtain ⟨p, hp, rfl⟩ := List.mem_map.mp h1
        rw [tk p hp] at e
        cases e
      · rw [h1, h2] at e
        cases e
  have mod0 : L2.Mod K mg (hidT s1.heap (atX K T xs a O)) := ⟨in0, ns0 ng, ⟨mb, ns0 nb, bb⟩, let ⟨mc, h1, h2⟩ := lim; ⟨mc, ns0 h1, h2⟩⟩
  have tab0 : ∀ p ∈ cs, LamX.TabB (hidT s1.heap (atX K T xs a O)) mg p.1 p.2 := fun p hp => by
    obtain ⟨bmA, ob, b1, b2, b3, b4, b5, b6⟩ := bm
    obtain ⟨oc, oes, oep, oe, od, _⟩ := ng
    obtain ⟨c0, v0, f0, t0, g0, u0, i0, x0, y0, e1, r1, r2, r3, rest⟩ := tc p hp
    refine ⟨⟨c0, v0, f0, t0, g0, u0, i0, x0, y0, hidT_get e1 (un0 e1 (fun _ _ z => by rw [r2] at z; cases z) fun z => ?_), r1, r2, r3, rest⟩, ⟨bmA, ob, b1, b2, fun z => ?_, fun z => ?_, hidT_get b3 (un0 b3 (fun _ _ z => by rw [b6] at z; cases z) fun z => by rw [b6] at z; cases z), b4, b5, b6⟩, fun z => ?_⟩
    · rw [r2] at z
      cases z
      simp at r3
    · rw [z, oe] at b3
      cases b3
      rw [od] at b6
      cases b6
    · rw [z, te p hp] at b3
      cases b3
      cases b6
    · rw [z, te p hp] at oe
      cases oe
      cases od
  have hok0 : HOk P w (atX K T xs a O) s1.heap := fun b u q => by
    rcases atX_cases sub q with ⟨h1, rfl | rfl⟩ | ⟨_, rfl, _, rfl⟩
    · exact tT b h1
    · exact tbX_ok (tT b h1)
    · exact ⟨la, by rw [List.length_map]; exact lu, us, _, vals_ints iu, la⟩
  have sq0 : SqL K (atX K T xs a O) a (ns.map V.int) := by
    cases q : K.lookup a with
    | some o =>
      have e := inK a o q
      rw [la] at e
      cases e
      exact .inr ⟨_, us.toArray, _, q, rfl, rfl, rfl, by rw [List.size_toArray, lv]; exact lu, by simpa using vals_ints iu⟩
    | none => exact .inl (.inr ⟨_, (if_neg fun z => naT (sub _ z)).trans ((if_neg naT).trans (if_pos ⟨rfl, by rw [q]; rfl⟩))⟩)
  have env0 : Env0 P w K mg (hidT s1.heap (atX K T xs a O)) callerA [] s1 (atX K T xs a O) := ⟨rfl, mod0, fun b o e => of_hidT e, Nat.le_of_eq (hidT_size _ _), trivial, fun b z => absurd (show b ∈ ([] : List Addr) from z) (by simp), hok0, .of_eq gens⟩
  refine codeAny_mono ((F _ in0 (ns0 ng) tab0).run callerA [] s1 (atX K T xs a O) ⟨[.ref a], []⟩ [.ref a] [.ref a] _ _ rfl room env0 (bind s1 (.ref a)) (.cons rfl .nil) (ask _ (fun p hp => atX_tab (inT p hp)) sq0)) fun r s' h => ?_
  match r, h with
  | .error e, h => exact False.elim h
  | .ok .next, h => exact False.elim h
  | .ok .brk, h => exact False.elim h
  | .ok .cont, h => exact False.elim h
  | .ok (.ret u), h =>
    obtain ⟨v, H', os, bare, un, hok', rv, q⟩ := h
    obtain ⟨rfl, qx⟩ := q
    obtain rfl : u = Value.bool true := rv
    have kept : ∀ b o, b ∉ T → s1.heap.get? b = some o → s'.heap.get? b = some o := fun b o nt e => by
      cases z : atX K T xs a O b with
      | none => exact un.keep b o e z (fun y => absurd (show b ∈ ([] : List Addr) from y) (by simp)) (by simp)
      | some u =>
        rcases atX_cases sub z with ⟨h1, _⟩ | ⟨_, rfl, _, rfl⟩
        · exact absurd h1 nt
        · obtain ⟨e2, _⟩ := hok' b _ (un.frzs b _ _ z)
          rw [la] at e
          cases e
          exact e2
    have tabs : ∀ b ∈ T, ∃ more : Array Value, s'.heap.get? b = some (PySem.W.tabObj more) := fun b hb => by
      by_cases hx : b ∈ xs
      · obtain ⟨qs, z⟩ := qx b hx
        exact ⟨qs, (hok' b _ z).1⟩
      · obtain ⟨more, z⟩ := un.tbls b #[] ((if_neg hx).trans (if_pos hb))
        exact ⟨_, hok' b _ z⟩
    refine ⟨rfl, ⟨fun b o e => ?_, fun b o e => ?_⟩, os, bare⟩
    · by_cases hb : b ∈ T
      · obtain ⟨more, z⟩ := tabs b hb
        obtain ⟨p, hp, rfl⟩ := List.mem_map.mp hb
        have e3 := te p hp
        rw [e] at e3
        cases e3
        exact .inr (.inl ⟨((tc p hp).tab (te p hp)).isCodeTable, rfl, #[], more, rfl, by rw [Array.empty_append]; exact z⟩)
      · exact .inl (kept b o hb e)
    · by_cases hb : b ∈ T
      · obtain ⟨more, z⟩ := tabs b hb
        exact ⟨_, z⟩
      · exact ⟨o, kept b o hb e⟩
end
/-- what is to be known of a law at the heap h -/
def LawGX (l : PySem.W.OpenLaw) (w : World) (K : PySem.W.Frag) (k m : Nat) (x : Str) (mg : Str → Option Value) (g : Addr) (h : Heap) : Prop :=
  ∃ (fd : FuncData) (cs : List (Addr × Addr)) (xs : List Addr) (sp : Sp), (∀ b ∈ xs, b ∈ cs.map (·.2)) ∧ (∀ p ∈ cs, h.get? p.2 = some (PySem.W.tabObj #[])) ∧ (∀ p ∈ cs, K.lookup p.2 = none) ∧ (∀ p ∈ cs, PySem.W.CodeHd h p.1 p.2) ∧ (∀ (s : Shared) (u : Value), BindsTo s fd ⟨[u], []⟩ [(x, u)]) ∧
    (∀ (H : Hp) (a : Addr) (ns : List Int), ns.length ≤ m → (∀ p ∈ cs, H p.2 = some (if p.2 ∈ xs then TbX p.2 #[] else .tbl #[])) → SqL K H a (ns.map V.int) → sp [.ref a] H (fun v H2 => v = .bl true ∧ ∀ b ∈ xs, ∃ qs : Array Value, H2 b = some (TbX b qs)) fun _ _ _ => False) ∧
    ∀ base : Heap, K.In base → base.Ns mainGlobals mg → (∀ p ∈ cs, LamX.TabB base mg p.1 p.2) → Gd.FnG l.prog w K mg base k g fd [x] sp
theorem walk_ownX {l : PySem.W.OpenLaw} {m k : Nat} {pr : Program} {ls : List Str} {XP : (Str → Option Value) → Heap → Prop} {YP : World → Heap → Prop} {d : DefRec} {K : Params → PySem.W.Frag} {x : Str} (ys : List Str)
    (e1 : l.most = some m) (e2 : m ≤ sizeLine) (e3 : d.params.defaults = []) (room : Room k callerA) (named : ∀ y ∈ ys, ((recsOf pr).any fun e => e.name == y) = true) (inK : ∀ (w : World) (h : Heap), YP w h → (K w.params).In h)
    (go : ∀ (w : World) (mg : Str → Option Value) (g : Addr) (h : Heap), YP w h → (K w.params).In h → h.Ns mainGlobals mg → mg d.name = some (.ref g) → Eg.Own (K w.params) h mg ys → LawGX l w (K w.params) k m x mg g h) :
    PySem.W.WalkO pr ls XP YP l.row.toRowW d [] (fun f vs => PySem.call f vs) := by
  refine Att.attach_callB e1 e3 fun w s0 s1 mg mb fa o pm cd doc a us ns G Y ho hd hcd hmg hobj hints hlen hbits hg => ?_
  have inH := inK w _ Y
  have tabs : Eg.Own (K w.params) s1.heap mg ys := fun y hy f hf c P ob fd e dd vs sl q1 q2 q3 q4 q5 => by
    obtain ⟨r, hr1, hr2⟩ := List.any_eq_true.mp (named y hy)
    obtain ⟨f', ob', fd', c', P', t1, t2, t3, t4, t5, ⟨⟨oc, vc, u1, _, u3, u4⟩, u5⟩⟩ := G.T.tab r hr1
    rw [show r.name = y from beq_iff_eq.mp hr2, hf] at t1
    cases t1
    rw [inH _ _ q1] at t2
    cases t2
    rw [q2] at t3
    cases t3
    rw [q3] at t4
    cases t4
    rw [inH _ _ q4] at u1
    cases u1
    cases u3
    rw [q5] at u4
    cases u4
    exact u5
  obtain ⟨fd, cs, xs, sp, hx, h1, h2, h3, h4, h5, h6⟩ := go w mg fa _ Y inH G.T.g hmg tabs
  exact law_atX inH G.T.g G.T.b G.T.builtins G.T.nolimit hg hx h1 h2 h3 G.T.bmain hobj hints (Nat.le_trans hlen e2) room h6 h4 fun H z1 z2 => h5 H a ns hlen z1 z2
end Egx
namespace K65
open PySem PySem.Spec PyProof.Rows L2 GxR Nw Dr Kp Se Ct Lr Dj Wtc To Ptc Lam Lwa Chk Ltr Lbc Tby Tsp Brs Grn Cl Wd Trr Srd Lwf
open Tr (At)
structure Zk (mg : Str → Option Value) : Prop where
  z_sorted : mg "sorted" = none
  z_any : mg "any" = none
  z_len : mg "len" = none
  z_range : mg "range" = none
/-- what a tree tells holds where the book does -/
theorem tree_holds {css : List C} (ib : ∀ c ∈ css, IsCl c) {bs : List Bool} (ha : ah bs css = true) : ∀ (t : Tr.T) (c : C), Tr.Cl css t c → c.any (sh bs) = true
  | .leaf n, c, h => List.all_eq_true.mp ha c (List.mem_of_getElem? h)
  | .cut t s k, c, ⟨x, y, h1, h2, cm⟩ => So.sound (Tr.Cl.isCl ib h1) (Tr.Cl.isCl ib h2) cm (tree_holds ib ha t x h1) (tree_holds ib ha s y h2)
theorem noCtr {css : List C} (ib : ∀ c ∈ css, IsCl c) {t : Tr.T} {c : C} (h : Tr.Cl css t c) (bs : List Bool) : ¬ Ctr css c bs := fun ⟨_, h2, h3⟩ => by
  rw [tree_holds ib h3 t c h] at h2
  cases h2
theorem wide_iff {c d : C} : wideB c d = true ↔ ∀ k ∈ c, k ∈ d := by
  unfold wideB
  rw [List.all_eq_true]
  exact ⟨fun h k hk => (Un.in_ints k d).mp (h k hk), fun h k hk => (Un.in_ints k d).mpr (h k hk)⟩
/-- a claim follows just where one as wide is told -/
theorem wide_follows {css : List C} (ib : ∀ c ∈ css, IsCl c) {ks : List C} (hk : ∀ c, c ∈ ks ↔ ∃ t, Tr.Cl css t c) {d : C} (id : IsCl d) : (∀ bs, ¬ Ctr css d bs) ↔ ks.any (fun c => wideB c d) = true := by
  constructor
  · intro h
    refine Classical.byContradiction fun z => ?_
    obtain ⟨bs, l8, no, al⟩ := Cpl.complete ib id fun t c cl w => z (List.any_eq_true.mpr ⟨c, (hk c).mpr ⟨t, cl⟩, wide_iff.mpr w⟩)
    refine h bs ⟨l8, ?_, ?_⟩
    · rw [List.any_eq_false]
      intro k hk' e
      have := no k hk'
      rw [show Cpl.yes bs k = sh bs k from rfl] at this
      rw [this] at e
      cases e
    · unfold ah
      rw [List.all_eq_true]
      intro c hc
      obtain ⟨k, h1, h2⟩ := al c hc
      exact List.any_eq_true.mpr ⟨k, h1, h2⟩
  · rintro h bs ⟨_, h2, h3⟩
    obtain ⟨c, hc, w⟩ := List.any_eq_true.mp h
    obtain ⟨t, cl⟩ := (hk c).mp hc
    obtain ⟨k, hk', e⟩ := List.any_eq_true.mp (tree_holds ib h3 t c cl)
    have := List.any_eq_false.mp h2 k (wide_iff.mp w k hk')
    exact this e
theorem lex_eq : ∀ {x y : List Int}, HT.lexLt x y = false → HT.lexLt y x = false → x = y
  | [], [], _, _ => rfl
  | [], y :: ys, h, _ => by rw [HT.lexLt_nil_cons] at h; cases h
  | x :: xs, [], _, h => by rw [HT.lexLt_nil_cons] at h; cases h
  | x :: xs, y :: ys, h1, h2 => by
    rw [HT.lexLt_cons] at h1 h2
    by_cases e : x = y
    · subst e
      rw [if_pos rfl] at h1 h2
      rw [lex_eq h1 h2]
    · rw [if_neg e] at h1
      rw [if_neg (Ne.symm e)] at h2
      have a := of_decide_eq_false h1
      have b := of_decide_eq_false h2
      omega
theorem up_one : ∀ {a b : List C}, UpL a → UpL b → a.Perm b → a = b
  | [], b, _, _, p => (List.nil_perm.mp p).symm
  | x :: a, [], _, _, p => absurd p.length_eq (by simp)
  | x :: a, y :: b, ha, hb, p => by
    have ha' := List.pairwise_cons.mp ha
    have hb' := List.pairwise_cons.mp hb
    have e : x = y := by
      by_cases z : x = y
      · exact z
      · have m1 : x ∈ b := (List.mem_cons.mp (p.mem_iff.mp List.mem_cons_self)).resolve_left z
        have m2 : y ∈ a := (List.mem_cons.mp (p.mem_iff.mpr List.mem_cons_self)).resolve_left (Ne.symm z)
        exact lex_eq (hb'.1 x m1) (ha'.1 y m2)
    subst e
    rw [up_one ha'.2 hb'.2 (List.Perm.cons_inv p)]
theorem tupI_all {H : Hp} {as : List Addr} {cs : List C} (h : All2 (fun a c => H a = some (.tup (c.map V.int))) as cs) : All2 (TupI H) (as.map V.ref) cs := ⟨by rw [List.length_map]; exact h.1, fun i v c h1 h2 => by
  rw [List.getElem?_map] at h1
  obtain ⟨a, ha, rfl⟩ := Option.map_eq_some_iff.mp h1
  exact ⟨a, rfl, h.2 i a c ha h2⟩⟩
section
variable {P : Program} {w : World} {K : PySem.W.Frag} {mg : Str → Option Value} {base : Heap} {fD : Addr} {fdD : FuncData}
abbrev sLaw : Stmt := topS 67
abbrev nLaw : List Str := ["script", "pen", "book", "numbers", "levels", "known", "turn", "claim", "tree", "other", "one"]
theorem scLaw : FnScope nLaw ["script"] (defScope sLaw) := ⟨rfl, rfl, rfl, by decide +kernel, rfl, by decide +kernel, by decide +kernel⟩
structure Tb (H : Hp) (Po Pc Pw Pk Pb Ps Ph Pa Pt : Addr) : Prop where
  o : TabG H Po
  c : TabG H Pc
  w : TabG H Pw
  k : TabG H Pk
  b : TabG H Pb
  s : TabG H Ps
  h : TabG H Ph
  a : TabG H Pa
  t : TabX H Pt qLwa
theorem Tb.ke {F : Addr → Prop} {H H' : Hp} {Po Pc Pw Pk Pb Ps Ph Pa Pt : Addr} (x : Tb H Po Pc Pw Pk Pb Ps Ph Pa Pt) (k : Ke F H H') (t : TabX H' Pt qLwa) : Tb H' Po Pc Pw Pk Pb Ps Ph Pa Pt :=
  ⟨k.tabs _ x.o, k.tabs _ x.c, k.tabs _ x.w, k.tabs _ x.k, k.tabs _ x.b, k.tabs _ x.s, k.tabs _ x.h, k.tabs _ x.a, t⟩
def spLaw (Po Pc Pw Pk Pb Ps Ph Pa Pt : Addr) (K : PySem.W.Frag) : Sp := fun vs H Q _ => ∃ (a : Addr) (ns : List Int), vs = [.ref a] ∧ SqL K H a (ns.map V.int) ∧ Tb H Po Pc Pw Pk Pb Ps Ph Pa Pt ∧ ∀ H', TabX H' Pt qLwa → Q (.bl true) H'
/-- what goes through the law -/
structure All (H : Hp) (f c : Addr) (B : Nat) (v : V) (D E L : Addr) (css ks ks' cs : List C) (as : List Addr) (ws : C → Option (Nat × Nat)) (wh : C → Option Nat) (Po Pc Pw Pk Pb Ps Ph Pa Pt : Addr) : Prop where
  f : Feed H f c B
  b : FewB H v css
  d : WtT mH H D ks (fun c => (ws c).map (·.1))
  e : WtT mH H E ks' wh
  l : H L = some (.lst (as.map V.ref))
  a : All2 (fun a c => H a = some (.tup (c.map V.int))) as cs
  t : Tb H Po Pc Pw Pk Pb Ps Ph Pa Pt
variable {H H' : Hp} {f c : Addr} {B : Nat} {v : V} {D E L : Addr} {css ks ks' cs : List C} {as : List Addr} {ws : C → Option (Nat × Nat)} {wh : C → Option Nat} {Po Pc Pw Pk Pb Ps Ph Pa Pt : Addr}
theorem All.n (x : All H f c B v D E L css ks ks' cs as ws wh Po Pc Pw Pk Pb Ps Ph Pa Pt) (k : Ke Nof H H') : All H' f c B v D E L css ks ks' cs as ws wh Po Pc Pw Pk Pb Ps Ph Pa Pt :=
  ⟨k.feed x.f, x.b.ke k, wt_ke mH_ok x.d k (fun z => z), wt_ke mH_ok x.e k (fun z => z), k.lst x.l fun z => z, x.a.imp fun _ _ h => k.tups _ _ h, x.t.ke k (x.t.t.ke k (fun z => z) fun _ _ z => z)⟩
theorem All.pt (x : All H f c B v D E L css ks ks' cs as ws wh Po Pc Pw Pk Pb Ps Ph Pa Pt) (k : Ke (· = Pt) H H') (tx : TabX H' Pt qLwa) : All H' f c B v D E L css ks ks' cs as ws wh Po Pc Pw Pk Pb Ps Ph Pa Pt := by
  obtain ⟨⟨kvs, hD, _⟩, _⟩ := id x.d
  obtain ⟨⟨kve, hE, _⟩, _⟩ := id x.e
  refine ⟨feed_pt x.f x.t.t k, x.b.ke k, wt_ke mH_ok x.d k (npt_dT x.t.t hD), wt_ke mH_ok x.e k (npt_dT x.t.t hE), k.lst x.l fun z => ?_, x.a.imp fun _ _ h => k.tups _ _ h, x.t.ke k tx⟩
  obtain ⟨ps, hP, _⟩ := x.t.t
  have l := x.l
  rw [z, hP] at l
  unfold TbX at l
  cases l
theorem All.fd {B' : Nat} (x : All H f c B v D E L css ks ks' cs as ws wh Po Pc Pw Pk Pb Ps Ph Pa Pt) (nL : L ≠ f) (F' : Feed H' f c B') (k : Ke (· = f) H H') : All H' f c B' v D E L css ks ks' cs as ws wh Po Pc Pw Pk Pb Ps Ph Pa Pt := by
  obtain ⟨⟨kvs, hD, _⟩, _⟩ := id x.d
  obtain ⟨⟨kve, hE, _⟩, _⟩ := id x.e
  exact ⟨F', x.b.ke k, wt_ke mH_ok x.d k (nf_dT x.f hD), wt_ke mH_ok x.e k (nf_dT x.f hE), k.lst x.l nL, x.a.imp fun _ _ h => k.tups _ _ h, x.t.ke k (tx_feed x.f x.t.t k)⟩
theorem wide_up {B' : Nat} (F' : Feed H f c B') (x : All H f c B v D E L css ks ks' cs as ws wh Po Pc Pw Pk Pb Ps Ph Pa Pt) : All H f c B' v D E L css ks ks' cs as ws wh Po Pc Pw Pk Pb Ps Ph Pa Pt := ⟨F', x.b, x.d, x.e, x.l, x.a, x.t⟩
theorem eq_cl (cl : C) : (!PyData.eqv (.tuple (cl.map PyData.int)) (.tuple (cl.map PyData.int))) = false := by
  rw [eqv_self (shaped_tuple (flat_ints cl))]
  rfl
theorem ok_law {f0 fP fW fL fH fB fE fT fC fU fF fM fI fR Po Pc Pw Pk Pb Ps Ph Pa Pt : Addr} {fd fdP fdW fdL fdH fdB fdE fdT fdC fdU fdF fdM fdI fdR : FuncData} (F : Fun K "law" "law" sLaw f0 fd) (T : Zk mg)
    (FD : Fun K "_law_e_take" "_law_e_take" sDrw fD fdD) (bD : Binds K fdD ["pen", "many"] []) (gD : mg "_law_e_take" = some (.ref fD)) (GD : FnOk P w K mg base CX0 2 fD fdD ["pen", "many"] spDrw)
    (FP : Fun K "_law_e_pen" "_law_e_pen" sOpn fP fdP) (bP : Binds K fdP ["script"] []) (gP : mg "_law_e_pen" = some (.ref fP)) (GP : FnOk P w K mg base CX0 1 fP fdP ["script"] (spOpn K))
    (FW : Fun K "_law_e_few" "_law_e_few" sFew fW fdW) (bW : Binds K fdW ["pen"] []) (gW : mg "_law_e_few" = some (.ref fW)) (GW : FnOk P w K mg base CX0 4 fW fdW ["pen"] spFew)
    (FL : Fun K "least_cuts" "least_cuts" sLcs fL fdL) (bL : Binds K fdL ["book"] []) (gL : mg "least_cuts" = some (.ref fL)) (GL : FnOk P w K mg base CX0 9 fL fdL ["book"] (spLcs Po Pc Pt))
    (FH : Fun K "least_heights" "least_heights" sLhs fH fdH) (bH : Binds K fdH ["book"] []) (gH : mg "least_heights" = some (.ref fH)) (GH : FnOk P w K mg base CX0 8 fH fdH ["book"] (spLhs Po Pc Pt))
    (FB : Fun K "bears_cuts" "bears_cuts" sBct fB fdB) (bB : Binds K fdB ["book", "thing"] []) (gB : mg "bears_cuts" = some (.ref fB)) (GB : FnOk P w K mg base CX0 11 fB fdB ["book", "thing"] (spBct mN Po Pc Pk Pb Ps))
    (FE : Fun K "bears_heights" "bears_heights" sBht fE fdE) (bE : Binds K fdE ["book", "thing"] []) (gE : mg "bears_heights" = some (.ref fE)) (GE : FnOk P w K mg base CX0 11 fE fdE ["book", "thing"] (spBct mH Po Pc Pk Pb Ps))
    (FT : Fun K "least_tree" "least_tree" sLst fT fdT) (bT : Binds K fdT ["book", "claim"] []) (gT : mg "least_tree" = some (.ref fT)) (GT : FnOk P w K mg base CX0 42 fT fdT ["book", "claim"] (spLst Po Pc Pt))
    (FC : Fun K "claim_of_tree" "claim_of_tree" Tp.sCot fC fdC) (bC : Binds K fdC ["book", "tree"] []) (gC : mg "claim_of_tree" = some (.ref fC)) (GC : FnOk P w K mg base CX0 46 fC fdC ["book", "tree"] (Tp.spCn Po 40))
    (FU : Fun K "cuts_of_tree" "cuts_of_tree" Tp.sCts fU fdU) (bU : Binds K fdU ["tree"] []) (gU : mg "cuts_of_tree" = some (.ref fU)) (GU : FnOk P w K mg base CX0 41 fU fdU ["tree"] (Tp.spCts 40))
    (FF : Fun K "follows" "follows" sFol fF fdF) (bF : Binds K fdF ["book", "claim"] []) (gF : mg "follows" = some (.ref fF)) (GF : FnOk P w K mg base CX0 6 fF fdF ["book", "claim"] (spFol Ph Pa))
    (FM : Fun K "_law_e_claim" "_law_e_claim" sClm fM fdM) (bM : Binds K fdM ["pen", "most", "wide"] []) (gM : mg "_law_e_claim" = some (.ref fM)) (GM : FnOk P w K mg base CX0 3 fM fdM ["pen", "most", "wide"] spClm)
    (FI : Fun K "is_wide" "is_wide" sWid fI fdI) (bI : Binds K fdI ["one", "other"] []) (gI : mg "is_wide" = some (.ref fI)) (GI : FnOk P w K mg base CX0 3 fI fdI ["one", "other"] (spWid Pw))
    (FR : Fun K "_law_e_trees_right" "_law_e_trees_right" sTrr fR fdR) (bR : Binds K fdR ["pen", "book", "numbers", "levels"] []) (gR : mg "_law_e_trees_right" = some (.ref fR)) (GR : FnOk P w K mg base CX0 48 fR fdR ["pen", "book", "numbers", "levels"] (spTrr Po Pc Pw Pt)) :
    Gd.FnG P w K mg base 50 f0 fd ["script"] (spLaw Po Pc Pw Pk Pb Ps Ph Pa Pt K) := by
  refine Gd.okG F scLaw (fun vs H Q E h => ?_) (fun cdv A outer s H vs Q E gd hr h => ?_)
  · obtain ⟨a, ns, rfl, _⟩ := h
    rfl
  · obtain ⟨a, ns, rfl, hS, tb, q⟩ := h
    have hu70 : (A.deeper (envOfC "law" (defScope sLaw) s.heap.objs.size f0 cdv)).units + 70 < cLine := by
      have := hr.un
      omega
    have hr1 : Room 1 _ := hr.mono (by omega)
    have hr2 : Room 2 _ := hr.mono (by omega)
    have hr3 : Room 3 _ := hr.mono (by omega)
    have hr4 : Room 4 _ := hr.mono (by omega)
    have hr6 : Room 6 _ := hr.mono (by omega)
    have hr8 : Room 8 _ := hr.mono (by omega)
    have hr9 : Room 9 _ := hr.mono (by omega)
    have hr11 : Room 11 _ := hr.mono (by omega)
    have hr41 : Room 41 _ := hr.mono (by omega)
    have hr42 : Room 42 _ := hr.mono (by omega)
    have hr46 : Room 46 _ := hr.mono (by omega)
    have hr48 : Room 48 _ := hr.mono (by omega)
    refine ⟨_, PSs.nox (Evl.pss_cut (ps_set (i := 1) scLaw.nd rfl (.inl rfl) (pe_call GP hr1 (by rfl) gP FP.kp bP .nil pass0 (pa_cons (pv 0) pa_nil)))
      (Evl.pss_cut (ps_set (i := 2) scLaw.nd rfl (.inl rfl) (pe_call GW hr4 (by rfl) gW FW.kp bW .nil pass0 (pa_cons (pv 1) pa_nil)))
      (Evl.pss_cut (ps_set (i := 3) scLaw.nd rfl (.inl rfl) (pe_call GL hr9 (by rfl) gL FL.kp bL .nil pass0 (pa_cons (pv 2) pa_nil)))
      (Evl.pss_cut (ps_set (i := 4) scLaw.nd rfl (.inl rfl) (pe_call GH hr8 (by rfl) gH FH.kp bH .nil pass0 (pa_cons (pv 2) pa_nil)))
      (Evl.pss_cut (ps_set (i := 5) scLaw.nd rfl (.inl rfl) (pe_callB (Srd.cr_sortedDT rfl hu70) (by rfl) T.z_sorted (by decide +kernel) (pa_cons (pv 3) pa_nil)))
      (Evl.pss_cut (ps_if (PW.pt (pw_or (pt_cmpR Xb.op_notB (pe_call GB hr11 (by rfl) gB FB.kp bB .nil pass0 (pa_cons (pv 2) (pa_cons (pv 3) pa_nil))) pe_bl (nomark _)) (pw_or (pt_cmpR Xb.op_notB (pe_call GE hr11 (by rfl) gE FE.kp bE .nil pass0 (pa_cons (pv 2) (pa_cons (pv 4) pa_nil))) pe_bl (nomark _)) (pw_or1 (pt_cmpR (op_neD hr.units) (pe_callB (Srd.cr_sortedDT rfl hu70) (by rfl) T.z_sorted (by decide +kernel) (pa_cons (pv 4) pa_nil)) (pv 5) (nomark _)))))) (pss_one (ps_ret pe_bl)) pss_nil)
      (Evl.pss_cut (ps_for PassesOwn.never rfl (pi_range1 (by rfl) T.z_range (pa_cons pe_int pa_nil)) (pg_name (i := 6) scLaw.nd rfl (.inl rfl)) (Evl.pss_cut (ps_set (i := 7) scLaw.nd rfl (.inl rfl) (pe_ix ix_list (pv 5) (pe_call GD hr2 (by rfl) gD FD.kp bD .nil pass0 (pa_cons (pv 1) (pa_cons (pe_callB call_len_seq (by rfl) T.z_len (by decide +kernel) (pa_cons (pv 5) pa_nil)) pa_nil))) (fun _ _ => rfl)))
      (Evl.pss_cut (ps_if (pt_cmpR op_lt (pe_dget (Un.lt1 hr.units) (pv 3) (pv 7) (fun _ _ => rfl)) pe_int (nomark _)) (Evl.pss_cut (ps_set (i := 8) scLaw.nd rfl (.inl rfl) (pe_call GT hr42 (by rfl) gT FT.kp bT .nil pass0 (pa_cons (pv 2) (pa_cons (pv 7) pa_nil))))
      (pss_one (ps_if (PW.pt (pw_or (pt_cmpR (op_neD hr.units) (pe_call GC hr46 (by rfl) gC FC.kp bC .nil pass0 (pa_cons (pv 2) (pa_cons (pv 8) pa_nil))) (pv 7) (nomark _)) (pw_or1 (pt_cmpR op_ne (pe_call GU hr41 (by rfl) gU FU.kp bU .nil pass0 (pa_cons (pv 8) pa_nil)) (pe_dget (Un.lt1 hr.units) (pv 3) (pv 7) (fun _ _ => rfl)) (nomark _))))) (pss_one (ps_ret pe_bl)) pss_nil))) pss_nil)
      (Evl.pss_cut (ps_if (PW.pt (pw_or (pt_cmpR op_gt (pe_dget (Un.lt1 hr.units) (pv 4) (pv 7) (fun _ _ => rfl)) (pe_dget (Un.lt1 hr.units) (pv 3) (pv 7) (fun _ _ => rfl)) (nomark _)) (pw_or1 (pt_cmpR (op_neD hr.units) (pe_call GF hr6 (by rfl) gF FF.kp bF .nil pass0 (pa_cons (pv 2) (pa_cons (pv 7) pa_nil))) (pe_tupN (pa_cons pe_str pa_nil)) (nomark _))))) (pss_one (ps_ret pe_bl)) pss_nil)
      (Evl.pss_cut (ps_set (i := 9) scLaw.nd rfl (.inr rfl) (pe_call GM hr3 (by rfl) gM FM.kp bM .nil pass0 (pa_cons (pv 1) (pa_cons (pe_ix ix_list (pe_lstN (pa_cons pe_int (pa_cons pe_int pa_nil))) (pe_call GD hr2 (by rfl) gD FD.kp bD .nil pass0 (pa_cons (pv 1) (pa_cons pe_int pa_nil))) (fun _ _ => rfl)) (pa_cons pe_int pa_nil)))))
      (pss_one (ps_if (pt_cmpR op_ne (pe_cmpR op_eq (pe_ix ix_tup (pe_call GF hr6 (by rfl) gF FF.kp bF .nil pass0 (pa_cons (pv 2) (pa_cons (pv 9) pa_nil))) pe_int (fun _ _ => rfl)) pe_str (nomark _)) (pe_callB (cr_any rfl) (by rfl) T.z_any (by decide +kernel) (pa_cons (pe_lc (own := [("one", 10)]) (g := (gName 10)) (tt := tYes) rfl scLaw.nd (pi_list (pv 5)) (blkOk_by (N := nLaw) (sc := defScope sLaw) (by decide +kernel)) (fun _ _ _ _ _ => (pg_name (i := 10) scLaw.nd rfl (.inl rfl))) (fun _ _ _ _ _ => pts_nil) (fun _ _ _ _ _ => (pe_call GI hr3 (by rfl) gI FI.kp bI .nil pass0 (pa_cons (pv 10) (pa_cons (pv 9) pa_nil))))) pa_nil)) (nomark _)) (pss_one (ps_ret pe_bl)) pss_nil)))))))
      (pss_one (ps_ret (pe_call GR hr48 (by rfl) gR FR.kp bR .nil pass0 (pa_cons (pv 1) (pa_cons (pv 2) (pa_cons (pv 3) (pa_cons (pv 4) pa_nil)))))))))))))), ?_⟩
    -- pen
    refine Evl.q_cut (M := fun σ' H' => ∃ f c : Addr, σ' = [some (.ref a), some (.ref f), none, none, none, none, none, none, none, none, none] ∧ Feed H' f c 0 ∧ Tb H' Po Pc Pw Pk Pb Ps Ph Pa Pt) ?_ ?_
    · exact ⟨_, rfl, a, ns, rfl, hS, fun f c H1 nf nc s1 F1 => ⟨f, c, rfl, F1, tb.ke (Ke.same (F := Nof) s1) (tb.t.ke (Ke.same (F := Nof) s1) (fun z => z) fun _ _ z => z)⟩⟩
    clear tb hS
    rintro σ' H0 ⟨f, c, rfl, F0, tb0⟩
    -- book
    refine Evl.q_cut (M := fun σ' H' => ∃ (b : Addr) (css : List C), σ' = [some (.ref a), some (.ref f), some (.ref b), none, none, none, none, none, none, none, none] ∧ Feed H' f c 600 ∧ Tb H' Po Pc Pw Pk Pb Ps Ph Pa Pt ∧ FewB H' (.ref b) css ∧ 1 ≤ css.length ∧ css.length ≤ 16) ?_ ?_
    · refine ⟨_, rfl, f, c, 0, rfl, F0, by decide, fun css b m H1 F1 k1 fr bk m1 m4 oc l1 l16 => ⟨b, css, rfl, F1, tb0.ke k1 (tx_feed F0 tb0.t k1), ⟨bk, fun c hc => ⟨(oc c hc).1, fun k hk => ?_⟩, by omega⟩, l1, l16⟩⟩
      have := (oc c hc).2 k hk
      omega
    clear tb0 F0 H0
    rintro σ' H0 ⟨b, css, rfl, F0, tb0, fb0, l1, l16⟩
    have few := fb0.few
    have ib : ∀ c ∈ css, IsCl c := fun c hc => (few c hc).1
    have sys : ∀ c ∈ css, Says c := fun c hc => (ib c hc).says
    -- numbers
    refine Evl.q_cut (M := fun σ' H' => ∃ (D : Addr) (ks : List C) (ws : C → Option (Nat × Nat)) (rs : C → Option Rc), σ' = [some (.ref a), some (.ref f), some (.ref b), some (.ref D), none, none, none, none, none, none, none] ∧ Feed H' f c 600 ∧ Tb H' Po Pc Pw Pk Pb Ps Ph Pa Pt ∧ FewB H' (.ref b) css ∧ WtT mH H' D ks (fun c => (ws c).map (·.1)) ∧ Fin aC css ws rs ∧ (∀ c ∈ ks, Few4 c) ∧ ks.length ≤ 81) ?_ ?_
    · exact ⟨_, rfl, .ref b, css, rfl, fb0, tb0.o, tb0.c, tb0.t, fun D ks ws rs H1 k1 tx1 fD wt fin fk l81 => ⟨D, ks, ws, rs, rfl, feed_pt F0 tb0.t k1, tb0.ke k1 tx1, fb0.ke k1, wt, fin, fk, l81⟩⟩
    clear tb0 F0 fb0 H0
    rintro σ' H0 ⟨D, ks, ws, rs, rfl, F0, tb0, fb0, wD0, fin, fk, l81⟩
    -- levels
    refine Evl.q_cut (M := fun σ' H' => ∃ (E : Addr) (ks' : List C) (wh : C → Option Nat) (rh : C → Option Rc), σ' = [some (.ref a), some (.ref f), some (.ref b), some (.ref D), some (.ref E), none, none, none, none, none, none] ∧ Feed H' f c 600 ∧ Tb H' Po Pc Pw Pk Pb Ps Ph Pa Pt ∧ FewB H' (.ref b) css ∧ WtT mH H' D ks (fun c => (ws c).map (·.1)) ∧ WtT mH H' E ks' wh ∧ Fin aH css wh rh ∧ (∀ c ∈ ks', Few4 c) ∧ ks'.length ≤ 81) ?_ ?_
    · refine ⟨_, rfl, .ref b, css, rfl, fb0, tb0.o, tb0.c, tb0.t, fun E ks' wh rh H1 k1 tx1 fE wt finh fk' l81' => ⟨E, ks', wh, rh, rfl, feed_pt F0 tb0.t k1, tb0.ke k1 tx1, fb0.ke k1, wt_ke mH_ok wD0 k1 ?_, wt, finh, fk', l81'⟩⟩
      obtain ⟨⟨kvs, hD, _⟩, _⟩ := wD0
      exact npt_dT tb0.t hD
    clear tb0 F0 fb0 wD0 H0
    rintro σ' H0 ⟨E', ks', wh, rh, rfl, F0, tb0, fb0, wD0, wE0, finh, fk', l81'⟩
    have bo := fun c => both (c := c) fin finh
    obtain ⟨⟨kvs, hD, hkD, hnoD, hatD⟩, ndD, meD⟩ := id wD0
    obtain ⟨⟨kve, hE, hkE, hnoE, hatE⟩, ndE, meE⟩ := id wE0
    have tol : ∀ c, c ∈ ks ↔ ∃ t, Tr.Cl css t c := fun c => by
      rw [meD c]
      constructor
      · rintro ⟨n, hn⟩
        obtain ⟨u, hu, _⟩ := Option.map_eq_some_iff.mp hn
        obtain ⟨t, _, cl, _⟩ := fin.tr c u hu
        exact ⟨t, cl⟩
      · rintro ⟨t, cl⟩
        obtain ⟨u, hu, _⟩ := fin.le t c cl
        exact ⟨u.1, by show (ws c).map (·.1) = _; rw [hu]; rfl⟩
    have same : ∀ c, c ∈ ks ↔ c ∈ ks' := fun c => by
      rw [meD c, meE c]
      constructor
      · rintro ⟨n, hn⟩
        obtain ⟨u, hu, _⟩ := Option.map_eq_some_iff.mp hn
        obtain ⟨h, hh, _⟩ := (bo c).1 u hu
        exact ⟨h, hh⟩
      · rintro ⟨h, hh⟩
        obtain ⟨u, hu⟩ := (bo c).2 h hh
        exact ⟨u.1, by show (ws c).map (·.1) = _; rw [hu]; rfl⟩
    have pks : ks'.Perm ks := (List.perm_ext_iff_of_nodup ndE ndD).mpr fun c => (same c).symm
    -- known
    refine Evl.q_cut (M := fun σ' H' => ∃ (L : Addr) (as : List Addr) (cs : List C), σ' = [some (.ref a), some (.ref f), some (.ref b), some (.ref D), some (.ref E'), some (.ref L), none, none, none, none, none] ∧ L ≠ f ∧ All H' f c 600 (.ref b) D E' L css ks ks' cs as ws wh Po Pc Pw Pk Pb Ps Ph Pa Pt ∧ cs.Perm ks ∧ UpL cs) ?_ ?_
    · refine ⟨_, rfl, D, kvs, ks, rfl, .inl hD, hkD, fun p as cs H1 np s1 hp al pm up => ⟨p, as, cs, rfl, F0.nf np, ?_, pm, up⟩⟩
      have k1 : Ke Nof H0 H1 := .same s1
      exact ⟨k1.feed F0, fb0.ke k1, wt_ke mH_ok wD0 k1 (fun z => z), wt_ke mH_ok wE0 k1 (fun z => z), hp, al, tb0.ke k1 (tb0.t.ke k1 (fun z => z) fun _ _ z => z)⟩
    clear tb0 F0 fb0 wD0 wE0 hD hE hatD hatE H0
    rintro σ' H0 ⟨L, as, cs, rfl, nLf, x0, pm, up⟩
    have mem : ∀ c, c ∈ cs ↔ c ∈ ks := fun c => pm.mem_iff
    -- they bear, and are of the same claims
    refine Evl.q_cut (M := fun σ' H' => σ' = [some (.ref a), some (.ref f), some (.ref b), some (.ref D), some (.ref E'), some (.ref L), none, none, none, none, none] ∧ All H' f c 600 (.ref b) D E' L css ks ks' cs as ws wh Po Pc Pw Pk Pb Ps Ph Pa Pt) ?_ ?_
    · have zeroC : ∀ c ∈ css, (ws c).map (·.1) = some 0 := fun c hc => by
        obtain ⟨u, hu, le⟩ := fin.bk c hc
        have le : u.1 < 0 ∨ (u.1 = 0 ∧ u.2 ≤ 0) := le
        rw [hu]
        show some u.1 = some 0
        rw [show u.1 = 0 by omega]
      have zeroH : ∀ c ∈ css, wh c = some 0 := fun c hc => by
        obtain ⟨u, hu, le⟩ := finh.bk c hc
        have le : u ≤ 0 := le
        rw [hu, show u = 0 by omega]
      have brC : Bears mN css ks (fun c => (ws c).map (·.1)) := ⟨zeroC, fun p q k r u v hu hv cm => by
        obtain ⟨u', hu', e1⟩ := Option.map_eq_some_iff.mp hu
        obtain ⟨v', hv', e2⟩ := Option.map_eq_some_iff.mp hv
        obtain ⟨w', hw', le⟩ := fin.ps p q k r u' v' hu' hv' cm
        refine ⟨w'.1, by show (ws r).map (·.1) = _; rw [hw']; rfl, ?_⟩
        have le : w'.1 < u'.1 + v'.1 + 1 ∨ (w'.1 = u'.1 + v'.1 + 1 ∧ _) := le
        show w'.1 ≤ u + v + 1
        omega, fun c hc => (fk c hc).1, l81⟩
      have brH : Bears mH css ks' wh := ⟨zeroH, fun p q k r u v hu hv cm => finh.ps p q k r u v hu hv cm, fun c hc => (fk' c hc).1, l81'⟩
      have dN : WtT mN H0 D ks (fun c => (ws c).map (·.1)) := ⟨x0.d.ex, x0.d.nd, x0.d.me⟩
      refine ⟨_, rfl, _, rfl, .ref b, D, css, ks, fun c => (ws c).map (·.1), rfl, x0.b, dN, brC, ⟨x0.t.o, x0.t.c, x0.t.k, x0.t.b, x0.t.s⟩, fun H1 k1 => ⟨true, true, rfl, rfl, false, rfl, ?_⟩⟩
      have x1 := x0.n k1
      refine ⟨_, rfl, _, rfl, .ref b, E', css, ks', wh, rfl, x1.b, x1.e, brH, ⟨x1.t.o, x1.t.c, x1.t.k, x1.t.b, x1.t.s⟩, fun H2 k2 => ⟨true, true, rfl, rfl, false, rfl, ?_⟩⟩
      have x2 := x1.n k2
      obtain ⟨⟨kve', hE', hkE', _⟩, _⟩ := id x2.e
      refine ⟨_, rfl, E', kve', ks', rfl, .inl hE', hkE', fun p as' cs' H3 np s3 hp al' pm' up' => ?_⟩
      have x3 := x2.n (Ke.same s3)
      have ecs : cs' = cs := up_one up' up (pm'.trans (pks.trans pm.symm))
      subst ecs
      refine ⟨_, rfl, _, _, .lst (.of hp) (Xb.dp_cls (tupI_all al')), .lst (.of x3.l) (Xb.dp_cls (tupI_all x3.a)), Xb.shaped_cls _, Xb.shaped_cls _, false, ?_, rfl, x3⟩
      rw [eqv_self (Xb.shaped_cls _)]
      rfl
    clear x0 H0
    rintro σ' H0 ⟨rfl, x0⟩
    have las := x0.a.1
    have lcs : cs.length = ks.length := pm.length_eq
    have pos : 0 < cs.length := by
      obtain ⟨c0, hc0⟩ := List.exists_mem_of_length_pos (show 0 < css.length by omega)
      obtain ⟨n, hn⟩ := List.getElem?_of_mem hc0
      exact List.length_pos_of_mem ((mem c0).mpr ((tol c0).mpr ⟨.leaf n, hn⟩))
    -- four turns
    refine Evl.q_cut (M := fun σ' H' => ∃ y6 y7 y8 y9 : Option V, σ' = [some (.ref a), some (.ref f), some (.ref b), some (.ref D), some (.ref E'), some (.ref L), y6, y7, y8, y9, none] ∧ All H' f c 800 (.ref b) D E' L css ks ks' cs as ws wh Po Pc Pw Pk Pb Ps Ph Pa Pt) ?_ ?_
    · refine ⟨4, rfl, by decide, by decide, for_range (n := (4 : Int).toNat) (Pv := fun i σ H' => ∃ y6 y7 y8 y9 : Option V, σ = [some (.ref a), some (.ref f), some (.ref b), some (.ref D), some (.ref E'), some (.ref L), y6, y7, y8, y9, none] ∧ All H' f c (600 + 30 * i) (.ref b) D E' L css ks ks' cs as ws wh Po Pc Pw Pk Pb Ps Ph Pa Pt) ?_ ?_ ?_⟩
      · exact ⟨none, none, none, none, rfl, x0⟩
      · clear x0 H0
        rintro i σ H0 hi ⟨y6, y7, y8, y9, rfl, x0⟩
        have hi4 : i < 4 := hi
        -- a claim
        refine Evl.q_cut (M := fun σ' H' => ∃ (p : Addr) (cl : C), σ' = [some (.ref a), some (.ref f), some (.ref b), some (.ref D), some (.ref E'), some (.ref L), some (.int (0 + (i : Int))), some (.ref p), y8, y9, none] ∧ All H' f c (600 + 30 * i + 1) (.ref b) D E' L css ks ks' cs as ws wh Po Pc Pw Pk Pb Ps Ph Pa Pt ∧ H' p = some (.tup (cl.map V.int)) ∧ cl ∈ ks) ?_ ?_
        · refine ⟨_, rfl, _, rfl, _, rfl, L, _, rfl, .inl (.of x0.l), f, c, _, _, rfl, by rw [List.length_map]; omega, by rw [List.length_map]; omega, x0.f, by omega, fun d H1 d0 d1 F1 k1 => ?_⟩
          rw [List.length_map] at d1
          have x1 := x0.fd nLf F1 k1
          have ld : d.toNat < as.length := by omega
          have hv := List.getElem?_eq_getElem ld
          obtain ⟨cl, hcl, hp⟩ := x1.a.at hv
          refine ⟨L, _, d, .ref as[d.toNat], rfl, rfl, .of x1.l, at_of (j := d.toNat) (by omega) (by rw [List.getElem?_map, hv]; rfl), as[d.toNat], cl, rfl, x1, hp, (mem cl).mp (List.mem_of_getElem? hcl)⟩
        clear x0 H0
        rintro σ' H0 ⟨p, cl, rfl, x0, hp0, mcl⟩
        obtain ⟨n0, hn0⟩ := (meD cl).mp mcl
        obtain ⟨u, hu, eu⟩ := Option.map_eq_some_iff.mp hn0
        obtain ⟨hh, hw, lhu⟩ := (bo cl).1 u hu
        obtain ⟨least, t1, _, clt, ct1, _⟩ := fin.cuts hu
        have icl : IsCl cl := (fk cl mcl).1
        have getD : ∀ {G : Hp}, All G f c (600 + 30 * i + 1) (.ref b) D E' L css ks ks' cs as ws wh Po Pc Pw Pk Pb Ps Ph Pa Pt → G p = some (.tup (cl.map V.int)) → DGet G D (.ref p) (some (.int ((u.1 : Nat) : Int))) ∧ DGet G E' (.ref p) (some (.int ((hh : Nat) : Int))) := fun {G} x hp => by
          obtain ⟨⟨kv, hD, _, _, hat⟩, _⟩ := x.d
          obtain ⟨⟨ke, hE, _, _, hate⟩, _⟩ := x.e
          obtain ⟨x1, g1, r1⟩ := hat cl u.1 (by show (ws cl).map (·.1) = _; rw [hu]; rfl)
          obtain ⟨x2, g2, r2⟩ := hate cl hh hw
          have r1 : x1 = .int ((u.1 : Nat) : Int) := r1
          have r2 : x2 = .int ((hh : Nat) : Int) := r2
          have a1 := DGet.t (k := kT cl) hD (by rw [kT_v]; exact hp)
          have a2 := DGet.t (k := kT cl) hE (by rw [kT_v]; exact hp)
          rw [g1, r1] at a1
          rw [g2, r2] at a2
          exact ⟨a1, a2⟩
        -- its least tree
        refine Evl.q_cut (M := fun σ' H' => ∃ y8 : Option V, σ' = [some (.ref a), some (.ref f), some (.ref b), some (.ref D), some (.ref E'), some (.ref L), some (.int (0 + (i : Int))), some (.ref p), y8, y9, none] ∧ All H' f c (600 + 30 * i + 1) (.ref b) D E' L css ks ks' cs as ws wh Po Pc Pw Pk Pb Ps Ph Pa Pt ∧ H' p = some (.tup (cl.map V.int))) ?_ ?_
        · obtain ⟨gD, gE⟩ := getD x0 hp0
          refine ⟨_, rfl, _, rfl, D, _, rfl, gD, _, _, rfl, rfl, _, rfl, ite2 (fun z => ?_) (fun _ => ⟨_, rfl, x0, hp0⟩)⟩
          have z := of_decide_eq_true z
          refine Evl.q_cut (M := fun σ' H' => ∃ (r : V) (t : Tr.T), σ' = [some (.ref a), some (.ref f), some (.ref b), some (.ref D), some (.ref E'), some (.ref L), some (.int (0 + (i : Int))), some (.ref p), some r, y9, none] ∧ All H' f c (600 + 30 * i + 1) (.ref b) D E' L css ks ks' cs as ws wh Po Pc Pw Pk Pb Ps Ph Pa Pt ∧ H' p = some (.tup (cl.map V.int)) ∧ At H' t r ∧ Tr.Cl css t cl ∧ t.cuts = u.1 ∧ t.depth ≤ 40) ?_ ?_
          · refine ⟨_, rfl, _, rfl, .ref b, p, css, cl, t1, rfl, x0.b, hp0, clt, by omega, x0.t.o, x0.t.c, x0.t.t, fun r t H1 k1 tx1 at1 ht mn dp => ⟨r, t, rfl, x0.pt k1 tx1, k1.tups _ _ hp0, at1, ht, ?_, dp⟩⟩
            have := mn t1 clt
            have := least t ht
            omega
          rintro σ' H1 ⟨r, t, rfl, x1, hp1, at1, ht, ec, dp⟩
          refine ⟨_, rfl, _, rfl, .ref b, r, css, t, cl, rfl, x1.b.bk, ib, at1, dp, ht, x1.t.o, fun p2 H2 k2 hp2 => ?_⟩
          have x2 := x1.n k2
          have hp2' := k2.tups _ _ hp1
          refine ⟨_, rfl, _, _, .tup (.of hp2) (dp_ints cl), .tup (.of hp2') (dp_ints cl), shaped_tuple (flat_ints _), shaped_tuple (flat_ints _), false, by rw [eq_cl], ?_⟩
          obtain ⟨gD2, _⟩ := getD x2 hp2'
          refine ⟨_, rfl, r, t, rfl, at1.ke k2, dp, _, rfl, _, rfl, D, _, rfl, gD2, rfl, false, ?_, _, rfl, x2, hp2'⟩
          rw [ec]
          simp
        clear x0 hp0 H0 y8
        rintro σ' H0 ⟨y8, rfl, x0, hp0⟩
        -- its height, and that it follows
        refine Evl.q_cut (M := fun σ' H' => σ' = [some (.ref a), some (.ref f), some (.ref b), some (.ref D), some (.ref E'), some (.ref L), some (.int (0 + (i : Int))), some (.ref p), y8, y9, none] ∧ All H' f c (600 + 30 * i + 1) (.ref b) D E' L css ks ks' cs as ws wh Po Pc Pw Pk Pb Ps Ph Pa Pt) ?_ ?_
        · obtain ⟨gD, gE⟩ := getD x0 hp0
          refine ⟨_, rfl, _, rfl, E', _, rfl, gE, _, rfl, _, rfl, D, _, rfl, gD, _, _, rfl, rfl, false, ?_, ?_⟩
          · show V.bl (decide (((hh : Nat) : Int) > ((u.1 : Nat) : Int))) = V.bl false
            rw [decide_eq_false (by omega)]
          refine ⟨_, rfl, _, rfl, .ref b, .ref p, css, cl, rfl, x0.b.bk, ⟨p, rfl, hp0⟩, icl.says, sys, x0.t.h, x0.t.a, fun p2 H2 k2 hp2 _ => ?_, fun p2 r H2 bs k2 _ _ ctr => absurd ctr (noCtr ib clt bs)⟩
          refine ⟨by show 1 ≤ sizeLine; decide, fun p3 H3 np3 s3 hp3 _ => ?_⟩
          refine ⟨_, _, .tup (.of (s3 _ _ hp2)) (.cons (.str _) .nil), .tup (.of hp3) (.cons (.str _) .nil), So.shF, So.shF, false, ?_, rfl, (x0.n k2).n (Ke.same s3)⟩
          rw [eqv_self So.shF]
          rfl
        clear x0 hp0 H0
        rintro σ' H0 ⟨rfl, x0⟩
        -- another one
        refine Evl.q_cut (M := fun σ' H' => ∃ (p2 : Addr) (d : C), σ' = [some (.ref a), some (.ref f), some (.ref b), some (.ref D), some (.ref E'), some (.ref L), some (.int (0 + (i : Int))), some (.ref p), y8, some (.ref p2), none] ∧ All H' f c (600 + 30 * i + 30) (.ref b) D E' L css ks ks' cs as ws wh Po Pc Pw Pk Pb Ps Ph Pa Pt ∧ H' p2 = some (.tup (d.map V.int)) ∧ IsCl d) ?_ ?_
        · refine ⟨_, rfl, by show 2 ≤ sizeLine; decide, fun p4 H4 np4 s4 hp4 _ => ?_⟩
          have x4 := x0.n (Ke.same s4)
          refine ⟨_, rfl, f, c, 2, _, rfl, by decide, by decide, x4.f, by omega, fun e H5 e0 e1 F5 b5 => ?_⟩
          have x5 := x4.fd nLf F5 b5
          have pk : ∃ mm : Int, 1 ≤ mm ∧ mm ≤ 8 ∧ atI [V.int 4, V.int 8] e = some (.int mm) := by
            have four : e = 0 ∨ e = 1 := by omega
            rcases four with rfl | rfl <;> exact ⟨_, by decide, by decide, rfl⟩
          obtain ⟨mm, mm0, mm1, ha⟩ := pk
          refine ⟨p4, _, e, .int mm, rfl, rfl, .of (b5.lst hp4 (x0.f.nf np4)), ha, f, c, mm, 4, _, rfl, mm0, mm1, by decide, by decide, F5, by omega, fun d p2 H6 F6 k6 _ hp2 h1 h2 _ => ?_⟩
          exact ⟨p2, d, rfl, x5.fd nLf (F6.mono (by omega)) k6, hp2, h1⟩
        clear x0 H0
        rintro σ' H0 ⟨p2, d, rfl, x0, hp2, idd⟩
        have wf := wide_follows ib tol idd
        -- it follows just where one as wide is told
        have cmpb : ∀ b1 : Bool, (b1 = true ↔ ∀ bs, ¬ Ctr css d bs) → (!decide (V.bl b1 = V.bl ((cs.map fun c => wideB c d).any id))) = false := fun b1 h => by
          have e : (cs.map fun c => wideB c d).any id = ks.any fun c => wideB c d := by
            rw [List.any_map, Bool.eq_iff_iff, List.any_eq_true, List.any_eq_true]
            exact ⟨fun ⟨c, hc, w⟩ => ⟨c, (mem c).mp hc, w⟩, fun ⟨c, hc, w⟩ => ⟨c, (mem c).mpr hc, w⟩⟩
          have : b1 = ks.any fun c => wideB c d := by
            rw [Bool.eq_iff_iff]
            exact h.trans wf
          rw [e, this]
          simp
        -- it follows just where one as wide is told
        refine ⟨_, rfl, _, rfl, .ref b, .ref p2, css, d, rfl, x0.b.bk, ⟨p2, rfl, hp2⟩, idd.says, sys, x0.t.h, x0.t.a, fun p3 H1 k1 hp3 ha => ?_, fun p3 r H1 bs k1 hp3 hr3 ctr => ?_⟩
        · refine ⟨p3, _, 0, .str "follows", rfl, rfl, .of hp3, rfl, rfl, ?_⟩
          have x1 := x0.n k1
          have hp2' := k1.tups _ _ hp2
          have hb := cmpb true ⟨fun _ => ha, fun _ => rfl⟩
          refine ⟨_, rfl, L, rfl, ⟨_, .of x1.l⟩, fun Z nZ => ?_⟩
          refine lc_list (xs := as.map V.ref) (Pv := fun j H' => Ke Nof H1 H' ∧ H' Z = some (.lst (((cs.take j).map fun c => wideB c d).map V.bl))) ⟨.same (same_new nZ), upd_same⟩ (fun j H' _ z => .of (z.1.lst x1.l fun z => z)) ?_ ?_
          · rintro j x H' hx ⟨k2, hZ⟩
            rw [List.getElem?_map] at hx
            obtain ⟨pa, hpa, rfl⟩ := Option.map_eq_some_iff.mp hx
            obtain ⟨c1, hc1, hpc⟩ := (x1.n k2).a.at hpa
            refine ⟨rfl, _, rfl, _, rfl, .ref pa, .ref p2, c1, d, rfl, ⟨pa, rfl, hpc⟩, ⟨p2, rfl, k2.tups _ _ hp2'⟩, (x1.n k2).t.w, fun H3 k3 => ?_⟩
            have hZ3 := k3.lst hZ fun z => z
            refine ⟨_, hZ3, ?_, (k2.trans k3).upd nZ, ?_⟩
            · rw [List.length_map, List.length_map, List.length_take]
              exact small1000 (by omega)
            · rw [upd_same, Lp.take_snoc hc1, List.map_append, List.map_append]
              rfl
          rintro H2 ⟨k2, hZ⟩
          rw [List.length_map, las, List.take_length] at hZ
          refine ⟨Z, _, rfl, .of hZ, rfl, false, congrArg V.bl hb, ?_⟩
          exact ⟨_, _, _, _, rfl, wide_up ((x1.n k2).f.mono (by omega)) (x1.n k2)⟩
        · refine ⟨p3, _, 0, .str "not", rfl, rfl, .of hp3, rfl, rfl, ?_⟩
          have x1 := x0.n k1
          have hp2' := k1.tups _ _ hp2
          have hb := cmpb false ⟨fun h => (nomatch h), fun h => absurd ctr (h bs)⟩
          refine ⟨_, rfl, L, rfl, ⟨_, .of x1.l⟩, fun Z nZ => ?_⟩
          refine lc_list (xs := as.map V.ref) (Pv := fun j H' => Ke Nof H1 H' ∧ H' Z = some (.lst (((cs.take j).map fun c => wideB c d).map V.bl))) ⟨.same (same_new nZ), upd_same⟩ (fun j H' _ z => .of (z.1.lst x1.l fun z => z)) ?_ ?_
          · rintro j x H' hx ⟨k2, hZ⟩
            rw [List.getElem?_map] at hx
            obtain ⟨pa, hpa, rfl⟩ := Option.map_eq_some_iff.mp hx
            obtain ⟨c1, hc1, hpc⟩ := (x1.n k2).a.at hpa
            refine ⟨rfl, _, rfl, _, rfl, .ref pa, .ref p2, c1, d, rfl, ⟨pa, rfl, hpc⟩, ⟨p2, rfl, k2.tups _ _ hp2'⟩, (x1.n k2).t.w, fun H3 k3 => ?_⟩
            have hZ3 := k3.lst hZ fun z => z
            refine ⟨_, hZ3, ?_, (k2.trans k3).upd nZ, ?_⟩
            · rw [List.length_map, List.length_map, List.length_take]
              exact small1000 (by omega)
            · rw [upd_same, Lp.take_snoc hc1, List.map_append, List.map_append]
              rfl
          rintro H2 ⟨k2, hZ⟩
          rw [List.length_map, las, List.take_length] at hZ
          refine ⟨Z, _, rfl, .of hZ, rfl, false, congrArg V.bl hb, ?_⟩
          exact ⟨_, _, _, _, rfl, wide_up ((x1.n k2).f.mono (by omega)) (x1.n k2)⟩
      · rintro σ G ⟨y6, y7, y8, y9, rfl, x⟩
        exact ⟨y6, y7, y8, y9, rfl, ⟨x.f.mono (by have : (4 : Int).toNat = 4 := rfl; omega), x.b, x.d, x.e, x.l, x.a, x.t⟩⟩
    rintro σ' G ⟨y6, y7, y8, y9, rfl, x⟩
    exact ⟨_, rfl, _, rfl, _, rfl, _, rfl, f, c, D, E', .ref b, css, ks, ks', ws, rs, rh, wh, 800, rfl, x.f, by decide, x.b, l1, l16, x.d, fin, x.e, finh, l81, ⟨x.t.o, x.t.c, x.t.w, x.t.t⟩, fun H' tx => q H' tx⟩
end
end K65
namespace K65
open PySem PySem.Spec PyProof.Rows L2 GxR Nw Dr Kp
theorem all_mk {l : PySem.W.OpenLaw} {w : World} {K : PySem.W.Frag} {h : Heap} {mg : Str → Option Value} {top : Addr} (X : K.In h) (G : h.Ns mainGlobals mg) (htop : mg "law" = some (.ref top)) (ow : Eg.Own K h mg ["has_opposites", "check_few_things", "is_wide", "least_waiting", "bears_book", "bears_pair", "bears", "holds", "all_hold"]) {fM fD fO fC fW eb gn dp tr pw pe pn pu tf tl ts tc ti tm tu wy ch hv pc lr lb lk lh ty lt sp ca bc bh ss sn se sf fL gO gC gW gT gK gB gS gH gA cO PO cC PC cW PW cT PT cK PK cB PB cS PS cH PH cA PA : Addr}
    {od_fM an_fM : Option Addr} {sl_fM : Array (Option Value)} {oc_fM kV_fM dc_fM pm_fM ct_fM : Value} {cd_fM : Value} {od_fD an_fD : Option Addr} {sl_fD : Array (Option Value)} {oc_fD kV_fD dc_fD pm_fD ct_fD : Value} {cd_fD : Value} {od_fO an_fO : Option Addr} {sl_fO : Array (Option Value)} {oc_fO kV_fO dc_fO pm_fO ct_fO : Value} {cd_fO : Value} {od_fC an_fC : Option Addr} {sl_fC : Array (Option Value)} {oc_fC kV_fC dc_fC pm_fC ct_fC : Value} {cd_fC : Value} {od_fW an_fW : Option Addr} {sl_fW : Array (Option Value)} {oc_fW kV_fW dc_fW pm_fW ct_fW : Value} {cd_fW : Value} {od_eb an_eb : Option Addr} {sl_eb : Array (Option Value)} {oc_eb kV_eb dc_eb pm_eb ct_eb : Value} {cd_eb : Value} {od_gn an_gn : Option Addr} {sl_gn : Array (Option Value)} {oc_gn kV_gn dc_gn pm_gn ct_gn : Value} {cd_gn : Value} {od_dp an_dp : Option Addr} {sl_dp : Array (Option Value)} {oc_dp kV_dp dc_dp pm_dp ct_dp : Value} {cd_dp : Value} {od_tr an_tr : Option Addr} {sl_tr : Array (Option Value)} {oc_tr kV_tr dc_tr pm_tr ct_tr : Value} {cd_tr : Value} {od_pw an_pw : Option Addr} {sl_pw : Array (Option Value)} {oc_pw kV_pw dc_pw pm_pw ct_pw : Value} {cd_pw : Value} {od_pe an_pe : Option Addr} {sl_pe : Array (Option Value)} {oc_pe kV_pe dc_pe pm_pe ct_pe : Value} {cd_pe : Value} {od_pn an_pn : Option Addr} {sl_pn : Array (Option Value)} {oc_pn kV_pn dc_pn pm_pn ct_pn : Value} {cd_pn : Value} {od_pu an_pu : Option Addr} {sl_pu : Array (Option Value)} {oc_pu kV_pu dc_pu pm_pu ct_pu : Value} {cd_pu : Value} {od_tf an_tf : Option Addr} {sl_tf : Array (Option Value)} {oc_tf kV_tf dc_tf pm_tf ct_tf : Value} {cd_tf : Value} {od_tl an_tl : Option Addr} {sl_tl : Array (Option Value)} {oc_tl kV_tl dc_tl pm_tl ct_tl : Value} {cd_tl : Value} {od_ts an_ts : Option Addr} {sl_ts : Array (Option Value)} {oc_ts kV_ts dc_ts pm_ts ct_ts : Value} {cd_ts : Value} {od_tc an_tc : Option Addr} {sl_tc : Array (Option Value)} {oc_tc kV_tc dc_tc pm_tc ct_tc : Value} {cd_tc : Value} {od_ti an_ti : Option Addr} {sl_ti : Array (Option Value)} {oc_ti kV_ti dc_ti pm_ti ct_ti : Value} {cd_ti : Value} {od_tm an_tm : Option Addr} {sl_tm : Array (Option Value)} {oc_tm kV_tm dc_tm pm_tm ct_tm : Value} {cd_tm : Value} {od_tu an_tu : Option Addr} {sl_tu : Array (Option Value)} {oc_tu kV_tu dc_tu pm_tu ct_tu : Value} {cd_tu : Value} {od_wy an_wy : Option Addr} {sl_wy : Array (Option Value)} {oc_wy kV_wy dc_wy pm_wy ct_wy : Value} {cd_wy : Value} {od_ch an_ch : Option Addr} {sl_ch : Array (Option Value)} {oc_ch kV_ch dc_ch pm_ch ct_ch : Value} {cd_ch : Value} {od_hv an_hv : Option Addr} {sl_hv : Array (Option Value)} {oc_hv kV_hv dc_hv pm_hv ct_hv : Value} {cd_hv : Value} {od_pc an_pc : Option Addr} {sl_pc : Array (Option Value)} {oc_pc kV_pc dc_pc pm_pc ct_pc : Value} {cd_pc : Value} {od_lr an_lr : Option Addr} {sl_lr : Array (Option Value)} {oc_lr kV_lr dc_lr pm_lr ct_lr : Value} {cd_lr : Value} {od_lb an_lb : Option Addr} {sl_lb : Array (Option Value)} {oc_lb kV_lb dc_lb pm_lb ct_lb : Value} {cd_lb : Value} {od_lk an_lk : Option Addr} {sl_lk : Array (Option Value)} {oc_lk kV_lk dc_lk pm_lk ct_lk : Value} {cd_lk : Value} {od_lh an_lh : Option Addr} {sl_lh : Array (Option Value)} {oc_lh kV_lh dc_lh pm_lh ct_lh : Value} {cd_lh : Value} {od_ty an_ty : Option Addr} {sl_ty : Array (Option Value)} {oc_ty kV_ty dc_ty pm_ty ct_ty : Value} {cd_ty : Value} {od_lt an_lt : Option Addr} {sl_lt : Array (Option Value)} {oc_lt kV_lt dc_lt pm_lt ct_lt : Value} {cd_lt : Value} {od_sp an_sp : Option Addr} {sl_sp : Array (Option Value)} {oc_sp kV_sp dc_sp pm_sp ct_sp : Value} {cd_sp : Value} {od_ca an_ca : Option Addr} {sl_ca : Array (Option Value)} {oc_ca kV_ca dc_ca pm_ca ct_ca : Value} {cd_ca : Value} {od_bc an_bc : Option Addr} {sl_bc : Array (Option Value)} {oc_bc kV_bc dc_bc pm_bc ct_bc : Value} {cd_bc : Value} {od_bh an_bh : Option Addr} {sl_bh : Array (Option Value)} {oc_bh kV_bh dc_bh pm_bh ct_bh : Value} {cd_bh : Value} {od_ss an_ss : Option Addr} {sl_ss : Array (Option Value)} {oc_ss kV_ss dc_ss pm_ss ct_ss : Value} {cd_ss : Value} {od_sn an_sn : Option Addr} {sl_sn : Array (Option Value)} {oc_sn kV_sn dc_sn pm_sn ct_sn : Value} {cd_sn : Value} {od_se an_se : Option Addr} {sl_se : Array (Option Value)} {oc_se kV_se dc_se pm_se ct_se : Value} {cd_se : Value} {od_sf an_sf : Option Addr} {sl_sf : Array (Option Value)} {oc_sf kV_sf dc_sf pm_sf ct_sf : Value} {cd_sf : Value} {od_fL an_fL : Option Addr} {sl_fL : Array (Option Value)} {oc_fL kV_fL dc_fL pm_fL ct_fL : Value} {cd_fL : Value} {od_gO an_gO : Option Addr} {sl_gO : Array (Option Value)} {oc_gO kV_gO dc_gO pm_gO ct_gO : Value} {od_gC an_gC : Option Addr} {sl_gC : Array (Option Value)} {oc_gC kV_gC dc_gC pm_gC ct_gC : Value} {od_gW an_gW : Option Addr} {sl_gW : Array (Option Value)} {oc_gW kV_gW dc_gW pm_gW ct_gW : Value} {od_gT an_gT : Option Addr} {sl_gT : Array (Option Value)} {oc_gT kV_gT dc_gT pm_gT ct_gT : Value} {od_gK an_gK : Option Addr} {sl_gK : Array (Option Value)} {oc_gK kV_gK dc_gK pm_gK ct_gK : Value} {od_gB an_gB : Option Addr} {sl_gB : Array (Option Value)} {oc_gB kV_gB dc_gB pm_gB ct_gB : Value} {od_gS an_gS : Option Addr} {sl_gS : Array (Option Value)} {oc_gS kV_gS dc_gS pm_gS ct_gS : Value} {od_gH an_gH : Option Addr} {sl_gH : Array (Option Value)} {oc_gH kV_gH dc_gH pm_gH ct_gH : Value} {od_gA an_gA : Option Addr} {sl_gA : Array (Option Value)} {oc_gA kV_gA dc_gA pm_gA ct_gA : Value} {e_O : Value} {dd_O : Option Addr} {vs_O : Array Value} {sf_O : Array (Option Value)} {e_C : Value} {dd_C : Option Addr} {vs_C : Array Value} {sf_C : Array (Option Value)} {e_W : Value} {dd_W : Option Addr} {vs_W : Array Value} {sf_W : Array (Option Value)} {e_T : Value} {dd_T : Option Addr} {vs_T : Array Value} {sf_T : Array (Option Value)} {e_K : Value} {dd_K : Option Addr} {vs_K : Array Value} {sf_K : Array (Option Value)} {e_B : Value} {dd_B : Option Addr} {vs_B : Array Value} {sf_B : Array (Option Value)} {e_S : Value} {dd_S : Option Addr} {vs_S : Array Value} {sf_S : Array (Option Value)} {e_H : Value} {dd_H : Option Addr} {vs_H : Array Value} {sf_H : Array (Option Value)} {e_A : Value} {dd_A : Option Addr} {vs_A : Array Value} {sf_A : Array (Option Value)} {tk_MOST_THINGS : Tok} {tk_MOST_FEW_THINGS : Tok} {tk_MOST_PIECES : Tok} {tk_MOST_WITHIN : Tok}
    (b_fM : PySem.W.nsIn K mainGlobals "_law_e_fresh" = some (some (.ref fM)))
    (l_fM : K.lookup fM = some ⟨oc_fM, od_fM, .func (PySem.W.fnOf "_law_e_fresh" "_law_e_fresh" (defArgs sFre) (defBody sFre) (defScope sFre) .none kV_fM dc_fM pm_fM an_fM cd_fM ct_fM), sl_fM⟩)
    (c_fM : PySem.W.codeIn K cd_fM "_law_e_fresh" = true)
    (k_fM : PySem.W.keepIn K (.ref fM) = true)
    (b_fD : PySem.W.nsIn K mainGlobals "_law_e_take" = some (some (.ref fD)))
    (l_fD : K.lookup fD = some ⟨oc_fD, od_fD, .func (PySem.W.fnOf "_law_e_take" "_law_e_take" (defArgs sDrw) (defBody sDrw) (defScope sDrw) .none kV_fD dc_fD pm_fD an_fD cd_fD ct_fD), sl_fD⟩)
    (c_fD : PySem.W.codeIn K cd_fD "_law_e_take" = true)
    (k_fD : PySem.W.keepIn K (.ref fD) = true)
    (b_fO : PySem.W.nsIn K mainGlobals "_law_e_pen" = some (some (.ref fO)))
    (l_fO : K.lookup fO = some ⟨oc_fO, od_fO, .func (PySem.W.fnOf "_law_e_pen" "_law_e_pen" (defArgs sOpn) (defBody sOpn) (defScope sOpn) .none kV_fO dc_fO pm_fO an_fO cd_fO ct_fO), sl_fO⟩)
    (c_fO : PySem.W.codeIn K cd_fO "_law_e_pen" = true)
    (k_fO : PySem.W.keepIn K (.ref fO) = true)
    (b_fC : PySem.W.nsIn K mainGlobals "_law_e_claim" = some (some (.ref fC)))
    (l_fC : K.lookup fC = some ⟨oc_fC, od_fC, .func (PySem.W.fnOf "_law_e_claim" "_law_e_claim" (defArgs Cl.sClm) (defBody Cl.sClm) (defScope Cl.sClm) .none kV_fC dc_fC pm_fC an_fC cd_fC ct_fC), sl_fC⟩)
    (c_fC : PySem.W.codeIn K cd_fC "_law_e_claim" = true)
    (k_fC : PySem.W.keepIn K (.ref fC) = true)
    (b_fW : PySem.W.nsIn K mainGlobals "_law_e_few" = some (some (.ref fW)))
    (l_fW : K.lookup fW = some ⟨oc_fW, od_fW, .func (PySem.W.fnOf "_law_e_few" "_law_e_few" (defArgs Lwf.sFew) (defBody Lwf.sFew) (defScope Lwf.sFew) .none kV_fW dc_fW pm_fW an_fW cd_fW ct_fW), sl_fW⟩)
    (c_fW : PySem.W.codeIn K cd_fW "_law_e_few" = true)
    (k_fW : PySem.W.keepIn K (.ref fW) = true)
    (b_eb : PySem.W.nsIn K mainGlobals "_law_e_cut_by" = some (some (.ref eb)))
    (l_eb : K.lookup eb = some ⟨oc_eb, od_eb, .func (PySem.W.fnOf "_law_e_cut_by" "_law_e_cut_by" (defArgs Ecb.sEcb) (defBody Ecb.sEcb) (defScope Ecb.sEcb) .none kV_eb dc_eb pm_eb an_eb cd_eb ct_eb), sl_eb⟩)
    (c_eb : PySem.W.codeIn K cd_eb "_law_e_cut_by" = true)
    (k_eb : PySem.W.keepIn K (.ref eb) = true)
    (b_gn : PySem.W.nsIn K mainGlobals "_law_e_grown" = some (some (.ref gn)))
    (l_gn : K.lookup gn = some ⟨oc_gn, od_gn, .func (PySem.W.fnOf "_law_e_grown" "_law_e_grown" (defArgs Grn.sGrn) (defBody Grn.sGrn) (defScope Grn.sGrn) .none kV_gn dc_gn pm_gn an_gn cd_gn ct_gn), sl_gn⟩)
    (c_gn : PySem.W.codeIn K cd_gn "_law_e_grown" = true)
    (k_gn : PySem.W.keepIn K (.ref gn) = true)
    (b_dp : PySem.W.nsIn K mainGlobals "_law_e_deep" = some (some (.ref dp)))
    (l_dp : K.lookup dp = some ⟨oc_dp, od_dp, .func (PySem.W.fnOf "_law_e_deep" "_law_e_deep" (defArgs Grn.sDep) (defBody Grn.sDep) (defScope Grn.sDep) .none kV_dp dc_dp pm_dp an_dp cd_dp ct_dp), sl_dp⟩)
    (c_dp : PySem.W.codeIn K cd_dp "_law_e_deep" = true)
    (k_dp : PySem.W.keepIn K (.ref dp) = true)
    (b_tr : PySem.W.nsIn K mainGlobals "_law_e_trees_right" = some (some (.ref tr)))
    (l_tr : K.lookup tr = some ⟨oc_tr, od_tr, .func (PySem.W.fnOf "_law_e_trees_right" "_law_e_trees_right" (defArgs Trr.sTrr) (defBody Trr.sTrr) (defScope Trr.sTrr) .none kV_tr dc_tr pm_tr an_tr cd_tr ct_tr), sl_tr⟩)
    (c_tr : PySem.W.codeIn K cd_tr "_law_e_trees_right" = true)
    (k_tr : PySem.W.keepIn K (.ref tr) = true)
    (b_pw : PySem.W.nsIn K mainGlobals "is_whole" = some (some (.ref pw)))
    (l_pw : K.lookup pw = some ⟨oc_pw, od_pw, .func (PySem.W.fnOf "is_whole" "is_whole" (defArgs Ct.sWho) (defBody Ct.sWho) (defScope Ct.sWho) .none kV_pw dc_pw pm_pw an_pw cd_pw ct_pw), sl_pw⟩)
    (c_pw : PySem.W.codeIn K cd_pw "is_whole" = true)
    (k_pw : PySem.W.keepIn K (.ref pw) = true)
    (b_pe : PySem.W.nsIn K mainGlobals "can_meet" = some (some (.ref pe)))
    (l_pe : K.lookup pe = some ⟨oc_pe, od_pe, .func (PySem.W.fnOf "can_meet" "can_meet" (defArgs Ct.sCme) (defBody Ct.sCme) (defScope Ct.sCme) .none kV_pe dc_pe pm_pe an_pe cd_pe ct_pe), sl_pe⟩)
    (c_pe : PySem.W.codeIn K cd_pe "can_meet" = true)
    (k_pe : PySem.W.keepIn K (.ref pe) = true)
    (b_pn : PySem.W.nsIn K mainGlobals "cut_or_none" = some (some (.ref pn)))
    (l_pn : K.lookup pn = some ⟨oc_pn, od_pn, .func (PySem.W.fnOf "cut_or_none" "cut_or_none" (defArgs Ct.sCon) (defBody Ct.sCon) (defScope Ct.sCon) .none kV_pn dc_pn pm_pn an_pn cd_pn ct_pn), sl_pn⟩)
    (c_pn : PySem.W.codeIn K cd_pn "cut_or_none" = true)
    (k_pn : PySem.W.keepIn K (.ref pn) = true)
    (b_pu : PySem.W.nsIn K mainGlobals "is_number_of" = some (some (.ref pu)))
    (l_pu : K.lookup pu = some ⟨oc_pu, od_pu, .func (PySem.W.fnOf "is_number_of" "is_number_of" (defArgs Lp.sNum) (defBody Lp.sNum) (defScope Lp.sNum) .none kV_pu dc_pu pm_pu an_pu cd_pu ct_pu), sl_pu⟩)
    (c_pu : PySem.W.codeIn K cd_pu "is_number_of" = true)
    (k_pu : PySem.W.keepIn K (.ref pu) = true)
    (b_tf : PySem.W.nsIn K mainGlobals "is_fork" = some (some (.ref tf)))
    (l_tf : K.lookup tf = some ⟨oc_tf, od_tf, .func (PySem.W.fnOf "is_fork" "is_fork" (defArgs Tp.sFork) (defBody Tp.sFork) (defScope Tp.sFork) .none kV_tf dc_tf pm_tf an_tf cd_tf ct_tf), sl_tf⟩)
    (c_tf : PySem.W.codeIn K cd_tf "is_fork" = true)
    (k_tf : PySem.W.keepIn K (.ref tf) = true)
    (b_tl : PySem.W.nsIn K mainGlobals "is_leaf" = some (some (.ref tl)))
    (l_tl : K.lookup tl = some ⟨oc_tl, od_tl, .func (PySem.W.fnOf "is_leaf" "is_leaf" (defArgs Tp.sLeaf) (defBody Tp.sLeaf) (defScope Tp.sLeaf) .none kV_tl dc_tl pm_tl an_tl cd_tl ct_tl), sl_tl⟩)
    (c_tl : PySem.W.codeIn K cd_tl "is_leaf" = true)
    (k_tl : PySem.W.keepIn K (.ref tl) = true)
    (b_ts : PySem.W.nsIn K mainGlobals "has_size_of_tree" = some (some (.ref ts)))
    (l_ts : K.lookup ts = some ⟨oc_ts, od_ts, .func (PySem.W.fnOf "has_size_of_tree" "has_size_of_tree" (defArgs Tp.sSize) (defBody Tp.sSize) (defScope Tp.sSize) .none kV_ts dc_ts pm_ts an_ts cd_ts ct_ts), sl_ts⟩)
    (c_ts : PySem.W.codeIn K cd_ts "has_size_of_tree" = true)
    (k_ts : PySem.W.keepIn K (.ref ts) = true)
    (b_tc : PySem.W.nsIn K mainGlobals "claim_or_none" = some (some (.ref tc)))
    (l_tc : K.lookup tc = some ⟨oc_tc, od_tc, .func (PySem.W.fnOf "claim_or_none" "claim_or_none" (defArgs Tp.sCn) (defBody Tp.sCn) (defScope Tp.sCn) .none kV_tc dc_tc pm_tc an_tc cd_tc ct_tc), sl_tc⟩)
    (c_tc : PySem.W.codeIn K cd_tc "claim_or_none" = true)
    (k_tc : PySem.W.keepIn K (.ref tc) = true)
    (b_ti : PySem.W.nsIn K mainGlobals "is_tree" = some (some (.ref ti)))
    (l_ti : K.lookup ti = some ⟨oc_ti, od_ti, .func (PySem.W.fnOf "is_tree" "is_tree" (defArgs Tp.sIst) (defBody Tp.sIst) (defScope Tp.sIst) .none kV_ti dc_ti pm_ti an_ti cd_ti ct_ti), sl_ti⟩)
    (c_ti : PySem.W.codeIn K cd_ti "is_tree" = true)
    (k_ti : PySem.W.keepIn K (.ref ti) = true)
    (b_tm : PySem.W.nsIn K mainGlobals "claim_of_tree" = some (some (.ref tm)))
    (l_tm : K.lookup tm = some ⟨oc_tm, od_tm, .func (PySem.W.fnOf "claim_of_tree" "claim_of_tree" (defArgs Tp.sCot) (defBody Tp.sCot) (defScope Tp.sCot) .none kV_tm dc_tm pm_tm an_tm cd_tm ct_tm), sl_tm⟩)
    (c_tm : PySem.W.codeIn K cd_tm "claim_of_tree" = true)
    (k_tm : PySem.W.keepIn K (.ref tm) = true)
    (b_tu : PySem.W.nsIn K mainGlobals "cuts_of_tree" = some (some (.ref tu)))
    (l_tu : K.lookup tu = some ⟨oc_tu, od_tu, .func (PySem.W.fnOf "cuts_of_tree" "cuts_of_tree" (defArgs Tp.sCts) (defBody Tp.sCts) (defScope Tp.sCts) .none kV_tu dc_tu pm_tu an_tu cd_tu ct_tu), sl_tu⟩)
    (c_tu : PySem.W.codeIn K cd_tu "cuts_of_tree" = true)
    (k_tu : PySem.W.keepIn K (.ref tu) = true)
    (b_wy : PySem.W.nsIn K mainGlobals "ways_to_cut" = some (some (.ref wy)))
    (l_wy : K.lookup wy = some ⟨oc_wy, od_wy, .func (PySem.W.fnOf "ways_to_cut" "ways_to_cut" (defArgs Wtc.sWay) (defBody Wtc.sWay) (defScope Wtc.sWay) .none kV_wy dc_wy pm_wy an_wy cd_wy ct_wy), sl_wy⟩)
    (c_wy : PySem.W.codeIn K cd_wy "ways_to_cut" = true)
    (k_wy : PySem.W.keepIn K (.ref wy) = true)
    (b_ch : PySem.W.nsIn K mainGlobals "cuts_and_height" = some (some (.ref ch)))
    (l_ch : K.lookup ch = some ⟨oc_ch, od_ch, .func (PySem.W.fnOf "cuts_and_height" "cuts_and_height" (defArgs Ptc.sCah) (defBody Ptc.sCah) (defScope Ptc.sCah) .none kV_ch dc_ch pm_ch an_ch cd_ch ct_ch), sl_ch⟩)
    (c_ch : PySem.W.codeIn K cd_ch "cuts_and_height" = true)
    (k_ch : PySem.W.keepIn K (.ref ch) = true)
    (b_hv : PySem.W.nsIn K mainGlobals "height_above" = some (some (.ref hv)))
    (l_hv : K.lookup hv = some ⟨oc_hv, od_hv, .func (PySem.W.fnOf "height_above" "height_above" (defArgs Ptc.sHab) (defBody Ptc.sHab) (defScope Ptc.sHab) .none kV_hv dc_hv pm_hv an_hv cd_hv ct_hv), sl_hv⟩)
    (c_hv : PySem.W.codeIn K cd_hv "height_above" = true)
    (k_hv : PySem.W.keepIn K (.ref hv) = true)
    (b_pc : PySem.W.nsIn K mainGlobals "put_cuts" = some (some (.ref pc)))
    (l_pc : K.lookup pc = some ⟨oc_pc, od_pc, .func (PySem.W.fnOf "put_cuts" "put_cuts" (defArgs Ptc.sPtc) (defBody Ptc.sPtc) (defScope Ptc.sPtc) .none kV_pc dc_pc pm_pc an_pc cd_pc ct_pc), sl_pc⟩)
    (c_pc : PySem.W.codeIn K cd_pc "put_cuts" = true)
    (k_pc : PySem.W.keepIn K (.ref pc) = true)
    (b_lr : PySem.W.nsIn K mainGlobals "least_trees" = some (some (.ref lr)))
    (l_lr : K.lookup lr = some ⟨oc_lr, od_lr, .func (PySem.W.fnOf "least_trees" "least_trees" (defArgs Ltr.sLtr) (defBody Ltr.sLtr) (defScope Ltr.sLtr) .none kV_lr dc_lr pm_lr an_lr cd_lr ct_lr), sl_lr⟩)
    (c_lr : PySem.W.codeIn K cd_lr "least_trees" = true)
    (k_lr : PySem.W.keepIn K (.ref lr) = true)
    (b_lb : PySem.W.nsIn K mainGlobals "least_by_cuts" = some (some (.ref lb)))
    (l_lb : K.lookup lb = some ⟨oc_lb, od_lb, .func (PySem.W.fnOf "least_by_cuts" "least_by_cuts" (defArgs Lbc.sLbc) (defBody Lbc.sLbc) (defScope Lbc.sLbc) .none kV_lb dc_lb pm_lb an_lb cd_lb ct_lb), sl_lb⟩)
    (c_lb : PySem.W.codeIn K cd_lb "least_by_cuts" = true)
    (k_lb : PySem.W.keepIn K (.ref lb) = true)
    (b_lk : PySem.W.nsIn K mainGlobals "least_cuts" = some (some (.ref lk)))
    (l_lk : K.lookup lk = some ⟨oc_lk, od_lk, .func (PySem.W.fnOf "least_cuts" "least_cuts" (defArgs Lbc.sLcs) (defBody Lbc.sLcs) (defScope Lbc.sLcs) .none kV_lk dc_lk pm_lk an_lk cd_lk ct_lk), sl_lk⟩)
    (c_lk : PySem.W.codeIn K cd_lk "least_cuts" = true)
    (k_lk : PySem.W.keepIn K (.ref lk) = true)
    (b_lh : PySem.W.nsIn K mainGlobals "least_heights" = some (some (.ref lh)))
    (l_lh : K.lookup lh = some ⟨oc_lh, od_lh, .func (PySem.W.fnOf "least_heights" "least_heights" (defArgs Lbc.sLhs) (defBody Lbc.sLhs) (defScope Lbc.sLhs) .none kV_lh dc_lh pm_lh an_lh cd_lh ct_lh), sl_lh⟩)
    (c_lh : PySem.W.codeIn K cd_lh "least_heights" = true)
    (k_lh : PySem.W.keepIn K (.ref lh) = true)
    (b_ty : PySem.W.nsIn K mainGlobals "tree_by" = some (some (.ref ty)))
    (l_ty : K.lookup ty = some ⟨oc_ty, od_ty, .func (PySem.W.fnOf "tree_by" "tree_by" (defArgs Tby.sTby) (defBody Tby.sTby) (defScope Tby.sTby) .none kV_ty dc_ty pm_ty an_ty cd_ty ct_ty), sl_ty⟩)
    (c_ty : PySem.W.codeIn K cd_ty "tree_by" = true)
    (k_ty : PySem.W.keepIn K (.ref ty) = true)
    (b_lt : PySem.W.nsIn K mainGlobals "least_tree" = some (some (.ref lt)))
    (l_lt : K.lookup lt = some ⟨oc_lt, od_lt, .func (PySem.W.fnOf "least_tree" "least_tree" (defArgs Tby.sLst) (defBody Tby.sLst) (defScope Tby.sLst) .none kV_lt dc_lt pm_lt an_lt cd_lt ct_lt), sl_lt⟩)
    (c_lt : PySem.W.codeIn K cd_lt "least_tree" = true)
    (k_lt : PySem.W.keepIn K (.ref lt) = true)
    (b_sp : PySem.W.nsIn K mainGlobals "to_spare" = some (some (.ref sp)))
    (l_sp : K.lookup sp = some ⟨oc_sp, od_sp, .func (PySem.W.fnOf "to_spare" "to_spare" (defArgs Tsp.sTsp) (defBody Tsp.sTsp) (defScope Tsp.sTsp) .none kV_sp dc_sp pm_sp an_sp cd_sp ct_sp), sl_sp⟩)
    (c_sp : PySem.W.codeIn K cd_sp "to_spare" = true)
    (k_sp : PySem.W.keepIn K (.ref sp) = true)
    (b_ca : PySem.W.nsIn K mainGlobals "cuts_above" = some (some (.ref ca)))
    (l_ca : K.lookup ca = some ⟨oc_ca, od_ca, .func (PySem.W.fnOf "cuts_above" "cuts_above" (defArgs Brs.sCab) (defBody Brs.sCab) (defScope Brs.sCab) .none kV_ca dc_ca pm_ca an_ca cd_ca ct_ca), sl_ca⟩)
    (c_ca : PySem.W.codeIn K cd_ca "cuts_above" = true)
    (k_ca : PySem.W.keepIn K (.ref ca) = true)
    (b_bc : PySem.W.nsIn K mainGlobals "bears_cuts" = some (some (.ref bc)))
    (l_bc : K.lookup bc = some ⟨oc_bc, od_bc, .func (PySem.W.fnOf "bears_cuts" "bears_cuts" (defArgs Brs.sBct) (defBody Brs.sBct) (defScope Brs.sBct) .none kV_bc dc_bc pm_bc an_bc cd_bc ct_bc), sl_bc⟩)
    (c_bc : PySem.W.codeIn K cd_bc "bears_cuts" = true)
    (k_bc : PySem.W.keepIn K (.ref bc) = true)
    (b_bh : PySem.W.nsIn K mainGlobals "bears_heights" = some (some (.ref bh)))
    (l_bh : K.lookup bh = some ⟨oc_bh, od_bh, .func (PySem.W.fnOf "bears_heights" "bears_heights" (defArgs Brs.sBht) (defBody Brs.sBht) (defScope Brs.sBht) .none kV_bh dc_bh pm_bh an_bh cd_bh ct_bh), sl_bh⟩)
    (c_bh : PySem.W.codeIn K cd_bh "bears_heights" = true)
    (k_bh : PySem.W.keepIn K (.ref bh) = true)
    (b_ss : PySem.W.nsIn K mainGlobals "say_holds" = some (some (.ref ss)))
    (l_ss : K.lookup ss = some ⟨oc_ss, od_ss, .func (PySem.W.fnOf "say_holds" "say_holds" (defArgs Se.sShd) (defBody Se.sShd) (defScope Se.sShd) .none kV_ss dc_ss pm_ss an_ss cd_ss ct_ss), sl_ss⟩)
    (c_ss : PySem.W.codeIn K cd_ss "say_holds" = true)
    (k_ss : PySem.W.keepIn K (.ref ss) = true)
    (b_sn : PySem.W.nsIn K mainGlobals "setting_by_number" = some (some (.ref sn)))
    (l_sn : K.lookup sn = some ⟨oc_sn, od_sn, .func (PySem.W.fnOf "setting_by_number" "setting_by_number" (defArgs Se.sSbn) (defBody Se.sSbn) (defScope Se.sSbn) .none kV_sn dc_sn pm_sn an_sn cd_sn ct_sn), sl_sn⟩)
    (c_sn : PySem.W.codeIn K cd_sn "setting_by_number" = true)
    (k_sn : PySem.W.keepIn K (.ref sn) = true)
    (b_se : PySem.W.nsIn K mainGlobals "every_setting" = some (some (.ref se)))
    (l_se : K.lookup se = some ⟨oc_se, od_se, .func (PySem.W.fnOf "every_setting" "every_setting" (defArgs Se.sEve) (defBody Se.sEve) (defScope Se.sEve) .none kV_se dc_se pm_se an_se cd_se ct_se), sl_se⟩)
    (c_se : PySem.W.codeIn K cd_se "every_setting" = true)
    (k_se : PySem.W.keepIn K (.ref se) = true)
    (b_sf : PySem.W.nsIn K mainGlobals "follows" = some (some (.ref sf)))
    (l_sf : K.lookup sf = some ⟨oc_sf, od_sf, .func (PySem.W.fnOf "follows" "follows" (defArgs Se.sFol) (defBody Se.sFol) (defScope Se.sFol) .none kV_sf dc_sf pm_sf an_sf cd_sf ct_sf), sl_sf⟩)
    (c_sf : PySem.W.codeIn K cd_sf "follows" = true)
    (k_sf : PySem.W.keepIn K (.ref sf) = true)
    (b_fL : PySem.W.nsIn K mainGlobals "law" = some (some (.ref fL)))
    (l_fL : K.lookup fL = some ⟨oc_fL, od_fL, .func (PySem.W.fnOf "law" "law" (defArgs K65.sLaw) (defBody K65.sLaw) (defScope K65.sLaw) .none kV_fL dc_fL pm_fL an_fL cd_fL ct_fL), sl_fL⟩)
    (c_fL : PySem.W.codeIn K cd_fL "law" = true)
    (k_fL : PySem.W.keepIn K (.ref fL) = true)
    (b_gO : PySem.W.nsIn K mainGlobals "has_opposites" = some (some (.ref gO)))
    (l_gO : K.lookup gO = some ⟨oc_gO, od_gO, .func (PySem.W.fnOf "has_opposites" "has_opposites" (defArgs Ct.sHop) (defBody Ct.sHop) (defScope Ct.sHop) .none kV_gO dc_gO pm_gO an_gO (.ref cO) ct_gO), sl_gO⟩)
    (c_gO : PySem.W.codeIn K (.ref cO) "has_opposites" = true)
    (k_gO : PySem.W.keepIn K (.ref gO) = true)
    (b_gC : PySem.W.nsIn K mainGlobals "check_few_things" = some (some (.ref gC)))
    (l_gC : K.lookup gC = some ⟨oc_gC, od_gC, .func (PySem.W.fnOf "check_few_things" "check_few_things" (defArgs Chk.sChk) (defBody Chk.sChk) (defScope Chk.sChk) .none kV_gC dc_gC pm_gC an_gC (.ref cC) ct_gC), sl_gC⟩)
    (c_gC : PySem.W.codeIn K (.ref cC) "check_few_things" = true)
    (k_gC : PySem.W.keepIn K (.ref gC) = true)
    (b_gW : PySem.W.nsIn K mainGlobals "is_wide" = some (some (.ref gW)))
    (l_gW : K.lookup gW = some ⟨oc_gW, od_gW, .func (PySem.W.fnOf "is_wide" "is_wide" (defArgs Wd.sWid) (defBody Wd.sWid) (defScope Wd.sWid) .none kV_gW dc_gW pm_gW an_gW (.ref cW) ct_gW), sl_gW⟩)
    (c_gW : PySem.W.codeIn K (.ref cW) "is_wide" = true)
    (k_gW : PySem.W.keepIn K (.ref gW) = true)
    (b_gT : PySem.W.nsIn K mainGlobals "least_waiting" = some (some (.ref gT)))
    (l_gT : K.lookup gT = some ⟨oc_gT, od_gT, .func (PySem.W.fnOf "least_waiting" "least_waiting" (defArgs Lwa.sLwa) (defBody Lwa.sLwa) (defScope Lwa.sLwa) .none kV_gT dc_gT pm_gT an_gT (.ref cT) ct_gT), sl_gT⟩)
    (c_gT : PySem.W.codeIn K (.ref cT) "least_waiting" = true)
    (k_gT : PySem.W.keepIn K (.ref gT) = true)
    (b_gK : PySem.W.nsIn K mainGlobals "bears_book" = some (some (.ref gK)))
    (l_gK : K.lookup gK = some ⟨oc_gK, od_gK, .func (PySem.W.fnOf "bears_book" "bears_book" (defArgs Brs.sBbk) (defBody Brs.sBbk) (defScope Brs.sBbk) .none kV_gK dc_gK pm_gK an_gK (.ref cK) ct_gK), sl_gK⟩)
    (c_gK : PySem.W.codeIn K (.ref cK) "bears_book" = true)
    (k_gK : PySem.W.keepIn K (.ref gK) = true)
    (b_gB : PySem.W.nsIn K mainGlobals "bears_pair" = some (some (.ref gB)))
    (l_gB : K.lookup gB = some ⟨oc_gB, od_gB, .func (PySem.W.fnOf "bears_pair" "bears_pair" (defArgs Brs.sBpr) (defBody Brs.sBpr) (defScope Brs.sBpr) .none kV_gB dc_gB pm_gB an_gB (.ref cB) ct_gB), sl_gB⟩)
    (c_gB : PySem.W.codeIn K (.ref cB) "bears_pair" = true)
    (k_gB : PySem.W.keepIn K (.ref gB) = true)
    (b_gS : PySem.W.nsIn K mainGlobals "bears" = some (some (.ref gS)))
    (l_gS : K.lookup gS = some ⟨oc_gS, od_gS, .func (PySem.W.fnOf "bears" "bears" (defArgs Brs.sBrs) (defBody Brs.sBrs) (defScope Brs.sBrs) .none kV_gS dc_gS pm_gS an_gS (.ref cS) ct_gS), sl_gS⟩)
    (c_gS : PySem.W.codeIn K (.ref cS) "bears" = true)
    (k_gS : PySem.W.keepIn K (.ref gS) = true)
    (b_gH : PySem.W.nsIn K mainGlobals "holds" = some (some (.ref gH)))
    (l_gH : K.lookup gH = some ⟨oc_gH, od_gH, .func (PySem.W.fnOf "holds" "holds" (defArgs Se.sHol) (defBody Se.sHol) (defScope Se.sHol) .none kV_gH dc_gH pm_gH an_gH (.ref cH) ct_gH), sl_gH⟩)
    (c_gH : PySem.W.codeIn K (.ref cH) "holds" = true)
    (k_gH : PySem.W.keepIn K (.ref gH) = true)
    (b_gA : PySem.W.nsIn K mainGlobals "all_hold" = some (some (.ref gA)))
    (l_gA : K.lookup gA = some ⟨oc_gA, od_gA, .func (PySem.W.fnOf "all_hold" "all_hold" (defArgs Se.sAhd) (defBody Se.sAhd) (defScope Se.sAhd) .none kV_gA dc_gA pm_gA an_gA (.ref cA) ct_gA), sl_gA⟩)
    (c_gA : PySem.W.codeIn K (.ref cA) "all_hold" = true)
    (k_gA : PySem.W.keepIn K (.ref gA) = true)
    (lc_O : K.lookup cO = some ⟨e_O, dd_O, .fields vs_O, sf_O⟩)
    (v_O : vs_O[11]? = some (Value.ref PO))
    (hd_O : PySem.W.codeHdIn K cO PO = true)
    (np_O : K.lookup PO = none)
    (lc_C : K.lookup cC = some ⟨e_C, dd_C, .fields vs_C, sf_C⟩)
    (v_C : vs_C[11]? = some (Value.ref PC))
    (hd_C : PySem.W.codeHdIn K cC PC = true)
    (np_C : K.lookup PC = none)
    (lc_W : K.lookup cW = some ⟨e_W, dd_W, .fields vs_W, sf_W⟩)
    (v_W : vs_W[11]? = some (Value.ref PW))
    (hd_W : PySem.W.codeHdIn K cW PW = true)
    (np_W : K.lookup PW = none)
    (lc_T : K.lookup cT = some ⟨e_T, dd_T, .fields vs_T, sf_T⟩)
    (v_T : vs_T[11]? = some (Value.ref PT))
    (hd_T : PySem.W.codeHdIn K cT PT = true)
    (np_T : K.lookup PT = none)
    (lc_K : K.lookup cK = some ⟨e_K, dd_K, .fields vs_K, sf_K⟩)
    (v_K : vs_K[11]? = some (Value.ref PK))
    (hd_K : PySem.W.codeHdIn K cK PK = true)
    (np_K : K.lookup PK = none)
    (lc_B : K.lookup cB = some ⟨e_B, dd_B, .fields vs_B, sf_B⟩)
    (v_B : vs_B[11]? = some (Value.ref PB))
    (hd_B : PySem.W.codeHdIn K cB PB = true)
    (np_B : K.lookup PB = none)
    (lc_S : K.lookup cS = some ⟨e_S, dd_S, .fields vs_S, sf_S⟩)
    (v_S : vs_S[11]? = some (Value.ref PS))
    (hd_S : PySem.W.codeHdIn K cS PS = true)
    (np_S : K.lookup PS = none)
    (lc_H : K.lookup cH = some ⟨e_H, dd_H, .fields vs_H, sf_H⟩)
    (v_H : vs_H[11]? = some (Value.ref PH))
    (hd_H : PySem.W.codeHdIn K cH PH = true)
    (np_H : K.lookup PH = none)
    (lc_A : K.lookup cA = some ⟨e_A, dd_A, .fields vs_A, sf_A⟩)
    (v_A : vs_A[11]? = some (Value.ref PA))
    (hd_A : PySem.W.codeHdIn K cA PA = true)
    (np_A : K.lookup PA = none)
    (b_MOST_THINGS : PySem.W.nsIn K mainGlobals "MOST_THINGS" = some (some (.int 8 tk_MOST_THINGS)))
    (b_MOST_FEW_THINGS : PySem.W.nsIn K mainGlobals "MOST_FEW_THINGS" = some (some (.int 4 tk_MOST_FEW_THINGS)))
    (b_MOST_PIECES : PySem.W.nsIn K mainGlobals "MOST_PIECES" = some (some (.int 360 tk_MOST_PIECES)))
    (b_MOST_WITHIN : PySem.W.nsIn K mainGlobals "MOST_WITHIN" = some (some (.int 40 tk_MOST_WITHIN)))
    (z_range : PySem.W.nsIn K mainGlobals "range" = some none)
    (z_isinstance : PySem.W.nsIn K mainGlobals "isinstance" = some none)
    (z_len : PySem.W.nsIn K mainGlobals "len" = some none)
    (z_list : PySem.W.nsIn K mainGlobals "list" = some none)
    (z_min : PySem.W.nsIn K mainGlobals "min" = some none)
    (z_max : PySem.W.nsIn K mainGlobals "max" = some none)
    (z_tuple : PySem.W.nsIn K mainGlobals "tuple" = some none)
    (z_sorted : PySem.W.nsIn K mainGlobals "sorted" = some none)
    (z_all : PySem.W.nsIn K mainGlobals "all" = some none)
    (z_any : PySem.W.nsIn K mainGlobals "any" = some none)
    (z_bool : PySem.W.nsIn K mainGlobals "bool" = some none)
    (z_int : PySem.W.nsIn K mainGlobals "int" = some none)
    (z_enumerate : PySem.W.nsIn K mainGlobals "enumerate" = some none)
    (z_set : PySem.W.nsIn K mainGlobals "set" = some none)
    (z_abs : PySem.W.nsIn K mainGlobals "abs" = some none)
    (z_zip : PySem.W.nsIn K mainGlobals "zip" = some none)
    (n_O : PO ≠ PT) (n_C : PC ≠ PT) (n_W : PW ≠ PT) (n_K : PK ≠ PT) (n_B : PB ≠ PT) (n_S : PS ≠ PT) (n_H : PH ≠ PT) (n_A : PA ≠ PT) :
    Egx.LawGX l w K 50 63 "script" mg top h := by
  have e := htop.symm.trans (PySem.W.mg_of X G b_fL)
  cases e
  have F_fM := fun_mk (st := sFre) l_fM c_fM k_fM
  have B_fM := F_fM.binds (ps := ["pen"]) fun _ _ _ _ _ _ us hl => match us, hl with | [_], _ => rfl
  have g_fM := PySem.W.mg_of X G b_fM
  have F_fD := fun_mk (st := sDrw) l_fD c_fD k_fD
  have B_fD := F_fD.binds (ps := ["pen", "many"]) fun _ _ _ _ _ _ us hl => match us, hl with | [_, _], _ => rfl
  have g_fD := PySem.W.mg_of X G b_fD
  have F_fO := fun_mk (st := sOpn) l_fO c_fO k_fO
  have B_fO := F_fO.binds (ps := ["script"]) fun _ _ _ _ _ _ us hl => match us, hl with | [_], _ => rfl
  have g_fO := PySem.W.mg_of X G b_fO
  have F_fC := fun_mk (st := Cl.sClm) l_fC c_fC k_fC
  have B_fC := F_fC.binds (ps := ["pen", "most", "wide"]) fun _ _ _ _ _ _ us hl => match us, hl with | [_, _, _], _ => rfl
  have g_fC := PySem.W.mg_of X G b_fC
  have F_fW := fun_mk (st := Lwf.sFew) l_fW c_fW k_fW
  have B_fW := F_fW.binds (ps := ["pen"]) fun _ _ _ _ _ _ us hl => match us, hl with | [_], _ => rfl
  have g_fW := PySem.W.mg_of X G b_fW
  have F_eb := fun_mk (st := Ecb.sEcb) l_eb c_eb k_eb
  have B_eb := F_eb.binds (ps := ["one", "other", "k"]) fun _ _ _ _ _ _ us hl => match us, hl with | [_, _, _], _ => rfl
  have g_eb := PySem.W.mg_of X G b_eb
  have F_gn := fun_mk (st := Grn.sGrn) l_gn c_gn k_gn
  have B_gn := F_gn.binds (ps := ["pen", "book"]) fun _ _ _ _ _ _ us hl => match us, hl with | [_, _], _ => rfl
  have g_gn := PySem.W.mg_of X G b_gn
  have F_dp := fun_mk (st := Grn.sDep) l_dp c_dp k_dp
  have B_dp := F_dp.binds (ps := ["tree"]) fun _ _ _ _ _ _ us hl => match us, hl with | [_], _ => rfl
  have g_dp := PySem.W.mg_of X G b_dp
  have F_tr := fun_mk (st := Trr.sTrr) l_tr c_tr k_tr
  have B_tr := F_tr.binds (ps := ["pen", "book", "numbers", "levels"]) fun _ _ _ _ _ _ us hl => match us, hl with | [_, _, _, _], _ => rfl
  have g_tr := PySem.W.mg_of X G b_tr
  have F_pw := fun_mk (st := Ct.sWho) l_pw c_pw k_pw
  have B_pw := F_pw.binds (ps := ["thing"]) fun _ _ _ _ _ _ us hl => match us, hl with | [_], _ => rfl
  have g_pw := PySem.W.mg_of X G b_pw
  have F_pe := fun_mk (st := Ct.sCme) l_pe c_pe k_pe
  have B_pe := F_pe.binds (ps := ["one", "other", "k"]) fun _ _ _ _ _ _ us hl => match us, hl with | [_, _, _], _ => rfl
  have g_pe := PySem.W.mg_of X G b_pe
  have F_pn := fun_mk (st := Ct.sCon) l_pn c_pn k_pn
  have B_pn := F_pn.binds (ps := ["one", "other", "k"]) fun _ _ _ _ _ _ us hl => match us, hl with | [_, _, _], _ => rfl
  have g_pn := PySem.W.mg_of X G b_pn
  have F_pu := fun_mk (st := Lp.sNum) l_pu c_pu k_pu
  have B_pu := F_pu.binds (ps := ["thing", "many"]) fun _ _ _ _ _ _ us hl => match us, hl with | [_, _], _ => rfl
  have g_pu := PySem.W.mg_of X G b_pu
  have F_tf := fun_mk (st := Tp.sFork) l_tf c_tf k_tf
  have B_tf := F_tf.binds (ps := ["thing"]) fun _ _ _ _ _ _ us hl => match us, hl with | [_], _ => rfl
  have g_tf := PySem.W.mg_of X G b_tf
  have F_tl := fun_mk (st := Tp.sLeaf) l_tl c_tl k_tl
  have B_tl := F_tl.binds (ps := ["thing"]) fun _ _ _ _ _ _ us hl => match us, hl with | [_], _ => rfl
  have g_tl := PySem.W.mg_of X G b_tl
  have F_ts := fun_mk (st := Tp.sSize) l_ts c_ts k_ts
  have B_ts := F_ts.binds (ps := ["thing"]) fun _ _ _ _ _ _ us hl => match us, hl with | [_], _ => rfl
  have g_ts := PySem.W.mg_of X G b_ts
  have F_tc := fun_mk (st := Tp.sCn) l_tc c_tc k_tc
  have B_tc := F_tc.binds (ps := ["book", "thing"]) fun _ _ _ _ _ _ us hl => match us, hl with | [_, _], _ => rfl
  have g_tc := PySem.W.mg_of X G b_tc
  have F_ti := fun_mk (st := Tp.sIst) l_ti c_ti k_ti
  have B_ti := F_ti.binds (ps := ["book", "thing"]) fun _ _ _ _ _ _ us hl => match us, hl with | [_, _], _ => rfl
  have g_ti := PySem.W.mg_of X G b_ti
  have F_tm := fun_mk (st := Tp.sCot) l_tm c_tm k_tm
  have B_tm := F_tm.binds (ps := ["book", "tree"]) fun _ _ _ _ _ _ us hl => match us, hl with | [_, _], _ => rfl
  have g_tm := PySem.W.mg_of X G b_tm
  have F_tu := fun_mk (st := Tp.sCts) l_tu c_tu k_tu
  have B_tu := F_tu.binds (ps := ["tree"]) fun _ _ _ _ _ _ us hl => match us, hl with | [_], _ => rfl
  have g_tu := PySem.W.mg_of X G b_tu
  have F_wy := fun_mk (st := Wtc.sWay) l_wy c_wy k_wy
  have B_wy := F_wy.binds (ps := ["one", "other"]) fun _ _ _ _ _ _ us hl => match us, hl with | [_, _], _ => rfl
  have g_wy := PySem.W.mg_of X G b_wy
  have F_ch := fun_mk (st := Ptc.sCah) l_ch c_ch k_ch
  have B_ch := F_ch.binds (ps := ["one", "other"]) fun _ _ _ _ _ _ us hl => match us, hl with | [_, _], _ => rfl
  have g_ch := PySem.W.mg_of X G b_ch
  have F_hv := fun_mk (st := Ptc.sHab) l_hv c_hv k_hv
  have B_hv := F_hv.binds (ps := ["one", "other"]) fun _ _ _ _ _ _ us hl => match us, hl with | [_, _], _ => rfl
  have g_hv := PySem.W.mg_of X G b_hv
  have F_pc := fun_mk (st := Ptc.sPtc) l_pc c_pc k_pc
  have B_pc := F_pc.binds (ps := ["worths", "trees", "above", "one", "other"]) fun _ _ _ _ _ _ us hl => match us, hl with | [_, _, _, _, _], _ => rfl
  have g_pc := PySem.W.mg_of X G b_pc
  have F_lr := fun_mk (st := Ltr.sLtr) l_lr c_lr k_lr
  have B_lr := F_lr.binds (ps := ["book", "start", "above"]) fun _ _ _ _ _ _ us hl => match us, hl with | [_, _, _], _ => rfl
  have g_lr := PySem.W.mg_of X G b_lr
  have F_lb := fun_mk (st := Lbc.sLbc) l_lb c_lb k_lb
  have B_lb := F_lb.binds (ps := ["book"]) fun _ _ _ _ _ _ us hl => match us, hl with | [_], _ => rfl
  have g_lb := PySem.W.mg_of X G b_lb
  have F_lk := fun_mk (st := Lbc.sLcs) l_lk c_lk k_lk
  have B_lk := F_lk.binds (ps := ["book"]) fun _ _ _ _ _ _ us hl => match us, hl with | [_], _ => rfl
  have g_lk := PySem.W.mg_of X G b_lk
  have F_lh := fun_mk (st := Lbc.sLhs) l_lh c_lh k_lh
  have B_lh := F_lh.binds (ps := ["book"]) fun _ _ _ _ _ _ us hl => match us, hl with | [_], _ => rfl
  have g_lh := PySem.W.mg_of X G b_lh
  have F_ty := fun_mk (st := Tby.sTby) l_ty c_ty k_ty
  have B_ty := F_ty.binds (ps := ["trees", "claim"]) fun _ _ _ _ _ _ us hl => match us, hl with | [_, _], _ => rfl
  have g_ty := PySem.W.mg_of X G b_ty
  have F_lt := fun_mk (st := Tby.sLst) l_lt c_lt k_lt
  have B_lt := F_lt.binds (ps := ["book", "claim"]) fun _ _ _ _ _ _ us hl => match us, hl with | [_, _], _ => rfl
  have g_lt := PySem.W.mg_of X G b_lt
  have F_sp := fun_mk (st := Tsp.sTsp) l_sp c_sp k_sp
  have B_sp := F_sp.binds (ps := ["book", "tree"]) fun _ _ _ _ _ _ us hl => match us, hl with | [_, _], _ => rfl
  have g_sp := PySem.W.mg_of X G b_sp
  have F_ca := fun_mk (st := Brs.sCab) l_ca c_ca k_ca
  have B_ca := F_ca.binds (ps := ["one", "other"]) fun _ _ _ _ _ _ us hl => match us, hl with | [_, _], _ => rfl
  have g_ca := PySem.W.mg_of X G b_ca
  have F_bc := fun_mk (st := Brs.sBct) l_bc c_bc k_bc
  have B_bc := F_bc.binds (ps := ["book", "thing"]) fun _ _ _ _ _ _ us hl => match us, hl with | [_, _], _ => rfl
  have g_bc := PySem.W.mg_of X G b_bc
  have F_bh := fun_mk (st := Brs.sBht) l_bh c_bh k_bh
  have B_bh := F_bh.binds (ps := ["book", "thing"]) fun _ _ _ _ _ _ us hl => match us, hl with | [_, _], _ => rfl
  have g_bh := PySem.W.mg_of X G b_bh
  have F_ss := fun_mk (st := Se.sShd) l_ss c_ss k_ss
  have B_ss := F_ss.binds (ps := ["say", "setting"]) fun _ _ _ _ _ _ us hl => match us, hl with | [_, _], _ => rfl
  have g_ss := PySem.W.mg_of X G b_ss
  have F_sn := fun_mk (st := Se.sSbn) l_sn c_sn k_sn
  have B_sn := F_sn.binds (ps := ["number"]) fun _ _ _ _ _ _ us hl => match us, hl with | [_], _ => rfl
  have g_sn := PySem.W.mg_of X G b_sn
  have F_se := fun_mk (st := Se.sEve) l_se c_se k_se
  have B_se := F_se.binds (ps := []) fun _ _ _ _ _ _ us hl => match us, hl with | [], _ => rfl
  have g_se := PySem.W.mg_of X G b_se
  have F_sf := fun_mk (st := Se.sFol) l_sf c_sf k_sf
  have B_sf := F_sf.binds (ps := ["book", "claim"]) fun _ _ _ _ _ _ us hl => match us, hl with | [_, _], _ => rfl
  have g_sf := PySem.W.mg_of X G b_sf
  have F_fL := fun_mk (st := K65.sLaw) l_fL c_fL k_fL
  have B_fL := F_fL.binds (ps := ["script"]) fun _ _ _ _ _ _ us hl => match us, hl with | [_], _ => rfl
  have g_fL := PySem.W.mg_of X G b_fL
  have F_gO := fun_mk (st := Ct.sHop) l_gO c_gO k_gO
  have B_gO := F_gO.binds (ps := ["says"]) fun _ _ _ _ _ _ us hl => match us, hl with | [_], _ => rfl
  have g_gO := PySem.W.mg_of X G b_gO
  have F_gC := fun_mk (st := Chk.sChk) l_gC c_gC k_gC
  have B_gC := F_gC.binds (ps := ["book"]) fun _ _ _ _ _ _ us hl => match us, hl with | [_], _ => rfl
  have g_gC := PySem.W.mg_of X G b_gC
  have F_gW := fun_mk (st := Wd.sWid) l_gW c_gW k_gW
  have B_gW := F_gW.binds (ps := ["one", "other"]) fun _ _ _ _ _ _ us hl => match us, hl with | [_, _], _ => rfl
  have g_gW := PySem.W.mg_of X G b_gW
  have F_gT := fun_mk (st := Lwa.sLwa) l_gT c_gT k_gT
  have B_gT := F_gT.binds (ps := ["worths", "done"]) fun _ _ _ _ _ _ us hl => match us, hl with | [_, _], _ => rfl
  have g_gT := PySem.W.mg_of X G b_gT
  have F_gK := fun_mk (st := Brs.sBbk) l_gK c_gK k_gK
  have B_gK := F_gK.binds (ps := ["book", "numbers"]) fun _ _ _ _ _ _ us hl => match us, hl with | [_, _], _ => rfl
  have g_gK := PySem.W.mg_of X G b_gK
  have F_gB := fun_mk (st := Brs.sBpr) l_gB c_gB k_gB
  have B_gB := F_gB.binds (ps := ["numbers", "above", "one", "other"]) fun _ _ _ _ _ _ us hl => match us, hl with | [_, _, _, _], _ => rfl
  have g_gB := PySem.W.mg_of X G b_gB
  have F_gS := fun_mk (st := Brs.sBrs) l_gS c_gS k_gS
  have B_gS := F_gS.binds (ps := ["book", "numbers", "above"]) fun _ _ _ _ _ _ us hl => match us, hl with | [_, _, _], _ => rfl
  have g_gS := PySem.W.mg_of X G b_gS
  have F_gH := fun_mk (st := Se.sHol) l_gH c_gH k_gH
  have B_gH := F_gH.binds (ps := ["claim", "setting"]) fun _ _ _ _ _ _ us hl => match us, hl with | [_, _], _ => rfl
  have g_gH := PySem.W.mg_of X G b_gH
  have F_gA := fun_mk (st := Se.sAhd) l_gA c_gA k_gA
  have B_gA := F_gA.binds (ps := ["book", "setting"]) fun _ _ _ _ _ _ us hl => match us, hl with | [_, _], _ => rfl
  have g_gA := PySem.W.mg_of X G b_gA
  have C_gO : Se.FunC K "has_opposites" "has_opposites" Ct.sHop gO cO _ := ⟨⟨_, _, _, _, _, _, _, _, rfl, l_gO, c_gO⟩, k_gO⟩
  have C_gC : Se.FunC K "check_few_things" "check_few_things" Chk.sChk gC cC _ := ⟨⟨_, _, _, _, _, _, _, _, rfl, l_gC, c_gC⟩, k_gC⟩
  have C_gW : Se.FunC K "is_wide" "is_wide" Wd.sWid gW cW _ := ⟨⟨_, _, _, _, _, _, _, _, rfl, l_gW, c_gW⟩, k_gW⟩
  have C_gT : Se.FunC K "least_waiting" "least_waiting" Lwa.sLwa gT cT _ := ⟨⟨_, _, _, _, _, _, _, _, rfl, l_gT, c_gT⟩, k_gT⟩
  have C_gK : Se.FunC K "bears_book" "bears_book" Brs.sBbk gK cK _ := ⟨⟨_, _, _, _, _, _, _, _, rfl, l_gK, c_gK⟩, k_gK⟩
  have C_gB : Se.FunC K "bears_pair" "bears_pair" Brs.sBpr gB cB _ := ⟨⟨_, _, _, _, _, _, _, _, rfl, l_gB, c_gB⟩, k_gB⟩
  have C_gS : Se.FunC K "bears" "bears" Brs.sBrs gS cS _ := ⟨⟨_, _, _, _, _, _, _, _, rfl, l_gS, c_gS⟩, k_gS⟩
  have C_gH : Se.FunC K "holds" "holds" Se.sHol gH cH _ := ⟨⟨_, _, _, _, _, _, _, _, rfl, l_gH, c_gH⟩, k_gH⟩
  have C_gA : Se.FunC K "all_hold" "all_hold" Se.sAhd gA cA _ := ⟨⟨_, _, _, _, _, _, _, _, rfl, l_gA, c_gA⟩, k_gA⟩
  have M_MOST_THINGS := PySem.W.mg_of X G b_MOST_THINGS
  have M_MOST_FEW_THINGS := PySem.W.mg_of X G b_MOST_FEW_THINGS
  have M_MOST_PIECES := PySem.W.mg_of X G b_MOST_PIECES
  have M_MOST_WITHIN := PySem.W.mg_of X G b_MOST_WITHIN
  have Z_range := PySem.W.mg_none_of X G z_range
  have Z_isinstance := PySem.W.mg_none_of X G z_isinstance
  have Z_len := PySem.W.mg_none_of X G z_len
  have Z_list := PySem.W.mg_none_of X G z_list
  have Z_min := PySem.W.mg_none_of X G z_min
  have Z_max := PySem.W.mg_none_of X G z_max
  have Z_tuple := PySem.W.mg_none_of X G z_tuple
  have Z_sorted := PySem.W.mg_none_of X G z_sorted
  have Z_all := PySem.W.mg_none_of X G z_all
  have Z_any := PySem.W.mg_none_of X G z_any
  have Z_bool := PySem.W.mg_none_of X G z_bool
  have Z_int := PySem.W.mg_none_of X G z_int
  have Z_enumerate := PySem.W.mg_none_of X G z_enumerate
  have Z_set := PySem.W.mg_none_of X G z_set
  have Z_abs := PySem.W.mg_none_of X G z_abs
  have Z_zip := PySem.W.mg_none_of X G z_zip
  refine ⟨PySem.W.fnOf "law" "law" (defArgs K65.sLaw) (defBody K65.sLaw) (defScope K65.sLaw) .none kV_fL dc_fL pm_fL an_fL cd_fL ct_fL, [(cO, PO), (cC, PC), (cW, PW), (cT, PT), (cK, PK), (cB, PB), (cS, PS), (cH, PH), (cA, PA)], [PT], K65.spLaw PO PC PW PK PB PS PH PA PT K, fun b hb => ?_, ?_, ?_, ?_, fun s u => .of_eq rfl, fun H a ns _ hT hS => ?_, fun base hb hn_ hT => ?_⟩
  · obtain rfl := List.mem_singleton.mp hb
    simp
  · intro p hp
    simp only [List.mem_cons, List.not_mem_nil, or_false] at hp
    rcases hp with rfl | rfl | rfl | rfl | rfl | rfl | rfl | rfl | rfl
    · exact ow "has_opposites" (by simp) _ g_gO cO PO _ _ _ _ _ _ l_gO rfl rfl lc_O v_O
    · exact ow "check_few_things" (by simp) _ g_gC cC PC _ _ _ _ _ _ l_gC rfl rfl lc_C v_C
    · exact ow "is_wide" (by simp) _ g_gW cW PW _ _ _ _ _ _ l_gW rfl rfl lc_W v_W
    · exact ow "least_waiting" (by simp) _ g_gT cT PT _ _ _ _ _ _ l_gT rfl rfl lc_T v_T
    · exact ow "bears_book" (by simp) _ g_gK cK PK _ _ _ _ _ _ l_gK rfl rfl lc_K v_K
    · exact ow "bears_pair" (by simp) _ g_gB cB PB _ _ _ _ _ _ l_gB rfl rfl lc_B v_B
    · exact ow "bears" (by simp) _ g_gS cS PS _ _ _ _ _ _ l_gS rfl rfl lc_S v_S
    · exact ow "holds" (by simp) _ g_gH cH PH _ _ _ _ _ _ l_gH rfl rfl lc_H v_H
    · exact ow "all_hold" (by simp) _ g_gA cA PA _ _ _ _ _ _ l_gA rfl rfl lc_A v_A
  · intro p hp
    simp only [List.mem_cons, List.not_mem_nil, or_false] at hp
    rcases hp with rfl | rfl | rfl | rfl | rfl | rfl | rfl | rfl | rfl
    · exact np_O
    · exact np_C
    · exact np_W
    · exact np_T
    · exact np_K
    · exact np_B
    · exact np_S
    · exact np_H
    · exact np_A
  · intro p hp
    simp only [List.mem_cons, List.not_mem_nil, or_false] at hp
    rcases hp with rfl | rfl | rfl | rfl | rfl | rfl | rfl | rfl | rfl
    · exact PySem.W.codeHd_of_K X hd_O
    · exact PySem.W.codeHd_of_K X hd_C
    · exact PySem.W.codeHd_of_K X hd_W
    · exact PySem.W.codeHd_of_K X hd_T
    · exact PySem.W.codeHd_of_K X hd_K
    · exact PySem.W.codeHd_of_K X hd_B
    · exact PySem.W.codeHd_of_K X hd_S
    · exact PySem.W.codeHd_of_K X hd_H
    · exact PySem.W.codeHd_of_K X hd_A
  · refine ⟨a, ns, rfl, hS, ⟨⟨#[], (hT (cO, PO) (by simp)).trans (congrArg some (if_neg (by simp [n_O]))), trivial⟩, ⟨#[], (hT (cC, PC) (by simp)).trans (congrArg some (if_neg (by simp [n_C]))), trivial⟩, ⟨#[], (hT (cW, PW) (by simp)).trans (congrArg some (if_neg (by simp [n_W]))), trivial⟩, ⟨#[], (hT (cK, PK) (by simp)).trans (congrArg some (if_neg (by simp [n_K]))), trivial⟩, ⟨#[], (hT (cB, PB) (by simp)).trans (congrArg some (if_neg (by simp [n_B]))), trivial⟩, ⟨#[], (hT (cS, PS) (by simp)).trans (congrArg some (if_neg (by simp [n_S]))), trivial⟩, ⟨#[], (hT (cH, PH) (by simp)).trans (congrArg some (if_neg (by simp [n_H]))), trivial⟩, ⟨#[], (hT (cA, PA) (by simp)).trans (congrArg some (if_neg (by simp [n_A]))), trivial⟩, ⟨#[], (hT (cT, PT) (by simp)).trans (congrArg some (if_pos (by simp))), trivial, fun pos cv z => ?_⟩⟩, fun H' tx => ⟨rfl, fun b hb => ?_⟩⟩
    · cases z
    · obtain rfl := List.mem_singleton.mp hb
      exact ⟨tx.choose, tx.choose_spec.1⟩
  · have t_O := hT (cO, PO) (by simp)
    have T_O : TabB base mg cO PO := ⟨t_O.code, t_O.bm, t_O.gP⟩
    have t_C := hT (cC, PC) (by simp)
    have T_C : TabB base mg cC PC := ⟨t_C.code, t_C.bm, t_C.gP⟩
    have t_W := hT (cW, PW) (by simp)
    have T_W : TabB base mg cW PW := ⟨t_W.code, t_W.bm, t_W.gP⟩
    have t_T := hT (cT, PT) (by simp)
    have T_T : TabB base mg cT PT := ⟨t_T.code, t_T.bm, t_T.gP⟩
    have t_K := hT (cK, PK) (by simp)
    have T_K : TabB base mg cK PK := ⟨t_K.code, t_K.bm, t_K.gP⟩
    have t_B := hT (cB, PB) (by simp)
    have T_B : TabB base mg cB PB := ⟨t_B.code, t_B.bm, t_B.gP⟩
    have t_S := hT (cS, PS) (by simp)
    have T_S : TabB base mg cS PS := ⟨t_S.code, t_S.bm, t_S.gP⟩
    have t_H := hT (cH, PH) (by simp)
    have T_H : TabB base mg cH PH := ⟨t_H.code, t_H.bm, t_H.gP⟩
    have t_A := hT (cA, PA) (by simp)
    have T_A : TabB base mg cA PA := ⟨t_A.code, t_A.bm, t_A.gP⟩
    have Tdr : Dr.Zp mg := by constructor <;> assumption
    have Ts : Cl.Zs mg := by constructor <;> assumption
    have Tkk : K65.Zk mg := by constructor <;> assumption
    have Tc : Ct.Zc mg := by constructor <;> assumption
    have T5 : Tp.Zt5 mg := by constructor <;> assumption
    have Tse : Se.Zt mg := by constructor <;> assumption
    have Twd : Wd.Zw mg := by constructor <;> assumption
    have Tlw : Lwa.Zl mg := by constructor <;> assumption
    have Tck : Chk.Zck mg := by constructor <;> assumption
    have Tlt : Ltr.Zlt mg := by constructor <;> assumption
    have Tts : Tsp.Ztp mg := by constructor <;> assumption
    have Tbr : Brs.Zbr mg := by constructor <;> assumption
    have Tec : Ecb.Zec mg := by constructor <;> assumption
    have Tgr : Grn.Zgr mg := by constructor <;> assumption
    have Ttr : Trr.Ztr mg := by constructor <;> assumption
    have Tab : Ptc.Zab mg := by constructor <;> assumption
    have GD : FnOk l.prog w K mg base CX0 2 fD _ ["pen", "many"] spDrw := ok_drw F_fD F_fM B_fM g_fM Tdr
    have GO : FnOk l.prog w K mg base CX0 1 fO _ ["script"] (spOpn K) := ok_opn F_fO Z_list
    have GC : FnOk l.prog w K mg base CX0 3 fC _ ["pen", "most", "wide"] Cl.spClm := Cl.ok_clm F_fC Ts F_fD B_fD g_fD GD
    have GW : FnOk l.prog w K mg base CX0 4 fW _ ["pen"] Lwf.spFew := Lwf.ok_few F_fW Ts F_fD B_fD g_fD GD F_fC B_fC g_fC GC
    have Eb : FnOk l.prog w K mg base CX0 1 eb _ ["one", "other", "k"] Ecb.spEcb := Ecb.ok_ecb F_eb Tec
    have Gn : FnOk l.prog w K mg base CX0 3 gn _ ["pen", "book"] Grn.spGrn := Grn.ok_grn F_gn Tgr F_fD B_fD g_fD GD F_eb B_eb g_eb Eb
    have Dp : FnOk l.prog w K mg base CX0 14 dp _ ["tree"] (Grn.spDep 13) := Grn.ok_dep F_dp Tgr B_dp g_dp 13
    have Pw : FnOk l.prog w K mg base CX0 1 pw _ ["thing"] Ct.spWho := Ct.ok_who F_pw Tc
    have Pe : FnOk l.prog w K mg base CX0 2 pe _ ["one", "other", "k"] Ct.spCme := Ct.ok_cme F_pe Tc M_MOST_THINGS F_pw B_pw g_pw Pw
    have Po : FnOk l.prog w K mg base CX0 3 gO _ ["says"] (Ct.spHop PO) := Ct.ok_hop C_gO Tc T_O
    have Pn : FnOk l.prog w K mg base CX0 4 pn _ ["one", "other", "k"] (Ct.spCon PO) := Ct.ok_con F_pn Tc F_pe B_pe g_pe Pe k_gO B_gO g_gO Po
    have Pu : FnOk l.prog w K mg base CX0 2 pu _ ["thing", "many"] Lp.spNum := Lp.ok_num F_pu F_pw B_pw g_pw Pw
    have Tf : FnOk l.prog w K mg base CX0 1 tf _ ["thing"] Tp.spFork := Tp.ok_fork F_tf T5
    have Tl : FnOk l.prog w K mg base CX0 1 tl _ ["thing"] Tp.spLeaf := Tp.ok_leaf F_tl T5
    have Tz : FnOk l.prog w K mg base CX0 2 ts _ ["thing"] Tp.spSize := Tp.ok_size F_ts M_MOST_PIECES M_MOST_WITHIN F_tf B_tf g_tf Tf
    have Tn : FnOk l.prog w K mg base CX0 45 tc _ ["book", "thing"] (Tp.spCn PO 40) := Tp.ok_cn F_tc T5 B_tc g_tc F_tf B_tf g_tf Tf F_tl B_tl g_tl Tl F_pu B_pu g_pu Pu F_pn B_pn g_pn Pn 40
    have Ti : FnOk l.prog w K mg base CX0 46 ti _ ["book", "thing"] (Tp.spIst PO) := Tp.ok_ist F_ti F_ts B_ts g_ts Tz F_tc B_tc g_tc Tn
    have Tm : FnOk l.prog w K mg base CX0 46 tm _ ["book", "tree"] (Tp.spCn PO 40) := Tp.ok_cot F_tm F_tc B_tc g_tc Tn
    have Tu : FnOk l.prog w K mg base CX0 41 tu _ ["tree"] (Tp.spCts 40) := Tp.ok_cts F_tu B_tu g_tu 40
    have Wy : FnOk l.prog w K mg base CX0 5 wy _ ["one", "other"] (Wtc.spWay PO) := Wtc.ok_way F_wy F_pn B_pn g_pn Pn
    have Ch : FnOk l.prog w K mg base CX0 1 ch _ ["one", "other"] (Ptc.spAb Ptc.mC) := Ptc.ok_cah F_ch Tab
    have Hv : FnOk l.prog w K mg base CX0 1 hv _ ["one", "other"] (Ptc.spAb Ptc.mH) := Ptc.ok_hab F_hv Tab
    have Ca : FnOk l.prog w K mg base CX0 1 ca _ ["one", "other"] (Ptc.spAb Brs.mN) := Brs.ok_cab F_ca
    have Ck : FnOk l.prog w K mg base CX0 3 gC _ ["book"] (Chk.spChk PC) := Chk.ok_chk C_gC Tck T_C M_MOST_FEW_THINGS
    have LwC : FnOk l.prog w K mg base CX0 3 gT _ ["worths", "done"] (Lwa.spLwa Ptc.mC PT Ltr.qLwa) := Lwa.ok_lwa Ptc.mC_ok (fun hu hx => Lam.cmp_pairs hu hx) C_gT Tlw (hT (cT, PT) (by simp))
    have LwH : FnOk l.prog w K mg base CX0 3 gT _ ["worths", "done"] (Lwa.spLwa Ptc.mH PT Ltr.qLwa) := Lwa.ok_lwa Ptc.mH_ok (fun _ hx => Lam.cmp_heights hx) C_gT Tlw (hT (cT, PT) (by simp))
    have PcC : FnOk l.prog w K mg base CX0 6 pc _ ["worths", "trees", "above", "one", "other"] (Ptc.spPtc Ptc.mC ch PO) := Ptc.ok_ptc Ptc.mC_ok F_pc F_wy B_wy g_wy Wy k_ch B_ch Ch
    have PcH : FnOk l.prog w K mg base CX0 6 pc _ ["worths", "trees", "above", "one", "other"] (Ptc.spPtc Ptc.mH hv PO) := Ptc.ok_ptc Ptc.mH_ok F_pc F_wy B_wy g_wy Wy k_hv B_hv Hv
    have LtC : FnOk l.prog w K mg base CX0 7 lr _ ["book", "start", "above"] (Ltr.spLtr Ptc.mC ch PO PC PT) := Ltr.ok_ltr Ptc.mC_ok F_lr Tlt F_gC B_gC g_gC Ck F_gT B_gT g_gT LwC F_pc B_pc g_pc PcC
    have LtH : FnOk l.prog w K mg base CX0 7 lr _ ["book", "start", "above"] (Ltr.spLtr Ptc.mH hv PO PC PT) := Ltr.ok_ltr Ptc.mH_ok F_lr Tlt F_gC B_gC g_gC Ck F_gT B_gT g_gT LwH F_pc B_pc g_pc PcH
    have Lb : FnOk l.prog w K mg base CX0 8 lb _ ["book"] (Lbc.spLbc PO PC PT) := Lbc.ok_lbc F_lb F_lr B_lr g_lr g_ch LtC
    have Lk : FnOk l.prog w K mg base CX0 9 lk _ ["book"] (Lbc.spLcs PO PC PT) := Lbc.ok_lcs F_lk F_lb B_lb g_lb Lb
    have Lh : FnOk l.prog w K mg base CX0 8 lh _ ["book"] (Lbc.spLhs PO PC PT) := Lbc.ok_lhs F_lh F_lr B_lr g_lr g_hv LtH
    have Ty : FnOk l.prog w K mg base CX0 41 ty _ ["trees", "claim"] (Tby.spTby 40) := Tby.ok_tby F_ty B_ty g_ty 40
    have Lt : FnOk l.prog w K mg base CX0 42 lt _ ["book", "claim"] (Tby.spLst PO PC PT) := Tby.ok_lst F_lt M_MOST_PIECES M_MOST_WITHIN F_lb B_lb g_lb Lb F_ty B_ty g_ty Ty
    have Wi : FnOk l.prog w K mg base CX0 3 gW _ ["one", "other"] (Wd.spWid PW) := Wd.ok_wid C_gW Twd T_W
    have Sp_ : FnOk l.prog w K mg base CX0 47 sp _ ["book", "tree"] (Tsp.spTsp PO PC PW PT) := Tsp.ok_tsp F_sp Tts F_lk B_lk g_lk Lk F_tm B_tm g_tm Tm F_tu B_tu g_tu Tu F_gW B_gW g_gW Wi
    have Bk : FnOk l.prog w K mg base CX0 5 gK _ ["book", "numbers"] (Brs.spBbk PK) := Brs.ok_bbk C_gK Tbr T_K
    have BpN : FnOk l.prog w K mg base CX0 7 gB _ ["numbers", "above", "one", "other"] (Brs.spBpr Brs.mN ca PO PB) := Brs.ok_bpr Brs.intN C_gB Tbr T_B F_wy B_wy g_wy Wy k_ca B_ca Ca
    have BpH : FnOk l.prog w K mg base CX0 7 gB _ ["numbers", "above", "one", "other"] (Brs.spBpr Ptc.mH hv PO PB) := Brs.ok_bpr Brs.intH C_gB Tbr T_B F_wy B_wy g_wy Wy k_hv B_hv Hv
    have BsN : FnOk l.prog w K mg base CX0 10 gS _ ["book", "numbers", "above"] (Brs.spBrs Brs.mN ca PO PC PK PB PS) := Brs.ok_brs Brs.intN C_gS Tbr T_S F_gC B_gC g_gC Ck F_gK B_gK g_gK Bk F_gB B_gB g_gB BpN
    have BsH : FnOk l.prog w K mg base CX0 10 gS _ ["book", "numbers", "above"] (Brs.spBrs Ptc.mH hv PO PC PK PB PS) := Brs.ok_brs Brs.intH C_gS Tbr T_S F_gC B_gC g_gC Ck F_gK B_gK g_gK Bk F_gB B_gB g_gB BpH
    have Bc : FnOk l.prog w K mg base CX0 11 bc _ ["book", "thing"] (Brs.spBct Brs.mN PO PC PK PB PS) := Brs.ok_bct F_bc F_gS B_gS g_gS g_ca BsN
    have Bh : FnOk l.prog w K mg base CX0 11 bh _ ["book", "thing"] (Brs.spBct Ptc.mH PO PC PK PB PS) := Brs.ok_bht F_bh F_gS B_gS g_gS g_hv BsH
    have Sh : FnOk l.prog w K mg base CX0 1 ss _ ["say", "setting"] Se.spShd := Se.ok_shd F_ss Tse
    have Sn : FnOk l.prog w K mg base CX0 2 sn _ ["number"] Se.spSbn := Se.ok_sbn F_sn Tse M_MOST_THINGS
    have Sl : FnOk l.prog w K mg base CX0 3 gH _ ["claim", "setting"] (Se.spHol PH) := Se.ok_hol C_gH Tse T_H F_ss B_ss g_ss Sh
    have Sa : FnOk l.prog w K mg base CX0 5 gA _ ["book", "setting"] (Se.spAhd PH PA) := Se.ok_ahd C_gA Tse T_A k_gH B_gH g_gH Sl
    have Sf : FnOk l.prog w K mg base CX0 6 sf _ ["book", "claim"] (Se.spFol PH PA) := Se.ok_fol F_sf Tse M_MOST_THINGS F_sn B_sn g_sn Sn F_se B_se g_se F_gH B_gH g_gH Sl F_gA B_gA g_gA Sa
    have Tt : FnOk l.prog w K mg base CX0 48 tr _ ["pen", "book", "numbers", "levels"] (Trr.spTrr PO PC PW PT) := Trr.ok_trr F_tr Ttr F_gn B_gn g_gn Gn F_ti B_ti g_ti Ti F_tm B_tm g_tm Tm F_tu B_tu g_tu Tu F_dp B_dp g_dp Dp F_gW B_gW g_gW Wi F_sp B_sp g_sp Sp_
    exact K65.ok_law F_fL Tkk F_fD B_fD g_fD GD F_fO B_fO g_fO GO F_fW B_fW g_fW GW F_lk B_lk g_lk Lk F_lh B_lh g_lh Lh F_bc B_bc g_bc Bc F_bh B_bh g_bh Bh F_lt B_lt g_lt Lt F_tm B_tm g_tm Tm F_tu B_tu g_tu Tu F_sf B_sf g_sf Sf F_fC B_fC g_fC GC F_gW B_gW g_gW Wi F_tr B_tr g_tr Tt
end K65
open PySem PySem.W PyProof.Rows
set_option maxHeartbeats 0 in
theorem PySem.Challenge.cw_sparecut_k65_whole_no_tree_is_less_holds : PySem.Challenge.rw_sparecut_k65_whole_no_tree_is_less.Holds := by
  w_on; o_law; k_head; (case hw => w_witness2)
  k_fill
  refine Egx.walk_ownX (l := PySem.Challenge.rw_sparecut_k65_whole_no_tree_is_less) (m := 63) (k := 50) (x := "script") ["has_opposites", "check_few_things", "is_wide", "least_waiting", "bears_book", "bears_pair", "bears", "holds", "all_hold"] rfl (by decide) rfl ⟨rfl, by decide, by decide⟩ (by decide +kernel) (fun w h Y => PySem.W.km_in_of Y) ?F
  case F =>
    intro w mg fa h Y KX G hmg ow
    refine' K65.all_mk KX G hmg ow ?b_fM ?l_fM ?c_fM ?k_fM ?b_fD ?l_fD ?c_fD ?k_fD ?b_fO ?l_fO ?c_fO ?k_fO ?b_fC ?l_fC ?c_fC ?k_fC ?b_fW ?l_fW ?c_fW ?k_fW ?b_eb ?l_eb ?c_eb ?k_eb ?b_gn ?l_gn ?c_gn ?k_gn ?b_dp ?l_dp ?c_dp ?k_dp ?b_tr ?l_tr ?c_tr ?k_tr ?b_pw ?l_pw ?c_pw ?k_pw ?b_pe ?l_pe ?c_pe ?k_pe ?b_pn ?l_pn ?c_pn ?k_pn ?b_pu ?l_pu ?c_pu ?k_pu ?b_tf ?l_tf ?c_tf ?k_tf ?b_tl ?l_tl ?c_tl ?k_tl ?b_ts ?l_ts ?c_ts ?k_ts ?b_tc ?l_tc ?c_tc ?k_tc ?b_ti ?l_ti ?c_ti ?k_ti ?b_tm ?l_tm ?c_tm ?k_tm ?b_tu ?l_tu ?c_tu ?k_tu ?b_wy ?l_wy ?c_wy ?k_wy ?b_ch ?l_ch ?c_ch ?k_ch ?b_hv ?l_hv ?c_hv ?k_hv ?b_pc ?l_pc ?c_pc ?k_pc ?b_lr ?l_lr ?c_lr ?k_lr ?b_lb ?l_lb ?c_lb ?k_lb ?b_lk ?l_lk ?c_lk ?k_lk ?b_lh ?l_lh ?c_lh ?k_lh ?b_ty ?l_ty ?c_ty ?k_ty ?b_lt ?l_lt ?c_lt ?k_lt ?b_sp ?l_sp ?c_sp ?k_sp ?b_ca ?l_ca ?c_ca ?k_ca ?b_bc ?l_bc ?c_bc ?k_bc ?b_bh ?l_bh ?c_bh ?k_bh ?b_ss ?l_ss ?c_ss ?k_ss ?b_sn ?l_sn ?c_sn ?k_sn ?b_se ?l_se ?c_se ?k_se ?b_sf ?l_sf ?c_sf ?k_sf ?b_fL ?l_fL ?c_fL ?k_fL ?b_gO ?l_gO ?c_gO ?k_gO ?b_gC ?l_gC ?c_gC ?k_gC ?b_gW ?l_gW ?c_gW ?k_gW ?b_gT ?l_gT ?c_gT ?k_gT ?b_gK ?l_gK ?c_gK ?k_gK ?b_gB ?l_gB ?c_gB ?k_gB ?b_gS ?l_gS ?c_gS ?k_gS ?b_gH ?l_gH ?c_gH ?k_gH ?b_gA ?l_gA ?c_gA ?k_gA ?lc_O ?v_O ?hd_O ?np_O ?lc_C ?v_C ?hd_C ?np_C ?lc_W ?v_W ?hd_W ?np_W ?lc_T ?v_T ?hd_T ?np_T ?lc_K ?v_K ?hd_K ?np_K ?lc_B ?v_B ?hd_B ?np_B ?lc_S ?v_S ?hd_S ?np_S ?lc_H ?v_H ?hd_H ?np_H ?lc_A ?v_A ?hd_A ?np_A ?b_MOST_THINGS ?b_MOST_FEW_THINGS ?b_MOST_PIECES ?b_MOST_WITHIN ?z_range ?z_isinstance ?z_len ?z_list ?z_min ?z_max ?z_tuple ?z_sorted ?z_all ?z_any ?z_bool ?z_int ?z_enumerate ?z_set ?z_abs ?z_zip ?n_O ?n_C ?n_W ?n_K ?n_B ?n_S ?n_H ?n_A
    (case b_fM => k_is)
    (case l_fM => k_is)
    (case c_fM => k_is)
    (case k_fM => k_is)
    (case b_fD => k_is)
    (case l_fD => k_is)
    (case c_fD => k_is)
    (case k_fD => k_is)
    (case b_fO => k_is)
    (case l_fO => k_is)
    (case c_fO => k_is)
    (case k_fO => k_is)
    (case b_fC => k_is)
    (case l_fC => k_is)
    (case c_fC => k_is)
    (case k_fC => k_is)
    (case b_fW => k_is)
    (case l_fW => k_is)
    (case c_fW => k_is)
    (case k_fW => k_is)
    (case b_eb => k_is)
    (case l_eb => k_is)
    (case c_eb => k_is)
    (case k_eb => k_is)
    (case b_gn => k_is)
    (case l_gn => k_is)
    (case c_gn => k_is)
    (case k_gn => k_is)
    (case b_dp => k_is)
    (case l_dp => k_is)
    (case c_dp => k_is)
    (case k_dp => k_is)
    (case b_tr => k_is)
    (case l_tr => k_is)
    (case c_tr => k_is)
    (case k_tr => k_is)
    (case b_pw => k_is)
    (case l_pw => k_is)
    (case c_pw => k_is)
    (case k_pw => k_is)
    (case b_pe => k_is)
    (case l_pe => k_is)
    (case c_pe => k_is)
    (case k_pe => k_is)
    (case b_pn => k_is)
    (case l_pn => k_is)
    (case c_pn => k_is)
    (case k_pn => k_is)
    (case b_pu => k_is)
    (case l_pu => k_is)
    (case c_pu => k_is)
    (case k_pu => k_is)
    (case b_tf => k_is)
    (case l_tf => k_is)
    (case c_tf => k_is)
    (case k_tf => k_is)
    (case b_tl => k_is)
    (case l_tl => k_is)
    (case c_tl => k_is)
    (case k_tl => k_is)
    (case b_ts => k_is)
    (case l_ts => k_is)
    (case c_ts => k_is)
    (case k_ts => k_is)
    (case b_tc => k_is)
    (case l_tc => k_is)
    (case c_tc => k_is)
    (case k_tc => k_is)
    (case b_ti => k_is)
    (case l_ti => k_is)
    (case c_ti => k_is)
    (case k_ti => k_is)
    (case b_tm => k_is)
    (case l_tm => k_is)
    (case c_tm => k_is)
    (case k_tm => k_is)
    (case b_tu => k_is)
    (case l_tu => k_is)
    (case c_tu => k_is)
    (case k_tu => k_is)
    (case b_wy => k_is)
    (case l_wy => k_is)
    (case c_wy => k_is)
    (case k_wy => k_is)
    (case b_ch => k_is)
    (case l_ch => k_is)
    (case c_ch => k_is)
    (case k_ch => k_is)
    (case b_hv => k_is)
    (case l_hv => k_is)
    (case c_hv => k_is)
    (case k_hv => k_is)
    (case b_pc => k_is)
    (case l_pc => k_is)
    (case c_pc => k_is)
    (case k_pc => k_is)
    (case b_lr => k_is)
    (case l_lr => k_is)
    (case c_lr => k_is)
    (case k_lr => k_is)
    (case b_lb => k_is)
    (case l_lb => k_is)
    (case c_lb => k_is)
    (case k_lb => k_is)
    (case b_lk => k_is)
    (case l_lk => k_is)
    (case c_lk => k_is)
    (case k_lk => k_is)
    (case b_lh => k_is)
    (case l_lh => k_is)
    (case c_lh => k_is)
    (case k_lh => k_is)
    (case b_ty => k_is)
    (case l_ty => k_is)
    (case c_ty => k_is)
    (case k_ty => k_is)
    (case b_lt => k_is)
    (case l_lt => k_is)
    (case c_lt => k_is)
    (case k_lt => k_is)
    (case b_sp => k_is)
    (case l_sp => k_is)
    (case c_sp => k_is)
    (case k_sp => k_is)
    (case b_ca => k_is)
    (case l_ca => k_is)
    (case c_ca => k_is)
    (case k_ca => k_is)
    (case b_bc => k_is)
    (case l_bc => k_is)
    (case c_bc => k_is)
    (case k_bc => k_is)
    (case b_bh => k_is)
    (case l_bh => k_is)
    (case c_bh => k_is)
    (case k_bh => k_is)
    (case b_ss => k_is)
    (case l_ss => k_is)
    (case c_ss => k_is)
    (case k_ss => k_is)
    (case b_sn => k_is)
    (case l_sn => k_is)
    (case c_sn => k_is)
    (case k_sn => k_is)
    (case b_se => k_is)
    (case l_se => k_is)
    (case c_se => k_is)
    (case k_se => k_is)
    (case b_sf => k_is)
    (case l_sf => k_is)
    (case c_sf => k_is)
    (case k_sf => k_is)
    (case b_fL => k_is)
    (case l_fL => k_is)
    (case c_fL => k_is)
    (case k_fL => k_is)
    (case b_gO => k_is)
    (case l_gO => k_is)
    (case c_gO => k_is)
    (case k_gO => k_is)
    (case b_gC => k_is)
    (case l_gC => k_is)
    (case c_gC => k_is)
    (case k_gC => k_is)
    (case b_gW => k_is)
    (case l_gW => k_is)
    (case c_gW => k_is)
    (case k_gW => k_is)
    (case b_gT => k_is)
    (case l_gT => k_is)
    (case c_gT => k_is)
    (case k_gT => k_is)
    (case b_gK => k_is)
    (case l_gK => k_is)
    (case c_gK => k_is)
    (case k_gK => k_is)
    (case b_gB => k_is)
    (case l_gB => k_is)
    (case c_gB => k_is)
    (case k_gB => k_is)
    (case b_gS => k_is)
    (case l_gS => k_is)
    (case c_gS => k_is)
    (case k_gS => k_is)
    (case b_gH => k_is)
    (case l_gH => k_is)
    (case c_gH => k_is)
    (case k_gH => k_is)
    (case b_gA => k_is)
    (case l_gA => k_is)
    (case c_gA => k_is)
    (case k_gA => k_is)
    (case lc_O => k_is)
    (case v_O => exact rfl)
    (case hd_O => kernel_rfl)
    (case np_O => kernel_rfl)
    (case lc_C => k_is)
    (case v_C => exact rfl)
    (case hd_C => kernel_rfl)
    (case np_C => kernel_rfl)
    (case lc_W => k_is)
    (case v_W => exact rfl)
    (case hd_W => kernel_rfl)
    (case np_W => kernel_rfl)
    (case lc_T => k_is)
    (case v_T => exact rfl)
    (case hd_T => kernel_rfl)
    (case np_T => kernel_rfl)
    (case lc_K => k_is)
    (case v_K => exact rfl)
    (case hd_K => kernel_rfl)
    (case np_K => kernel_rfl)
    (case lc_B => k_is)
    (case v_B => exact rfl)
    (case hd_B => kernel_rfl)
    (case np_B => kernel_rfl)
    (case lc_S => k_is)
    (case v_S => exact rfl)
    (case hd_S => kernel_rfl)
    (case np_S => kernel_rfl)
    (case lc_H => k_is)
    (case v_H => exact rfl)
    (case hd_H => kernel_rfl)
    (case np_H => kernel_rfl)
    (case lc_A => k_is)
    (case v_A => exact rfl)
    (case hd_A => kernel_rfl)
    (case np_A => kernel_rfl)
    (case b_MOST_THINGS => k_is)
    (case b_MOST_FEW_THINGS => k_is)
    (case b_MOST_PIECES => k_is)
    (case b_MOST_WITHIN => k_is)
    (case z_range => k_is)
    (case z_isinstance => k_is)
    (case z_len => k_is)
    (case z_list => k_is)
    (case z_min => k_is)
    (case z_max => k_is)
    (case z_tuple => k_is)
    (case z_sorted => k_is)
    (case z_all => k_is)
    (case z_any => k_is)
    (case z_bool => k_is)
    (case z_int => k_is)
    (case z_enumerate => k_is)
    (case z_set => k_is)
    (case z_abs => k_is)
    (case z_zip => k_is)
    (case n_O => decide +kernel)
    (case n_C => decide +kernel)
    (case n_W => decide +kernel)
    (case n_K => decide +kernel)
    (case n_B => decide +kernel)
    (case n_S => decide +kernel)
    (case n_H => decide +kernel)
    (case n_A => decide +kernel)
