import PyProof.Rows.All
import Wide.All
import OpenK.AllK
import Wide.FinOn
import PyProof.EqAt
import PyProof.EqKinds
import PyProof.TupleCall
import PySem.Challenge.RW_sparecut_k23_rows_of_trees
import HandS.ForMost
import HandS.Evl
import HandS.Conv
import HandS.Exc
import HandS.ExcOwn
import HandS.ExcInit
import HandS.ExcValue
import HandS.ExcIs
import KE.KExcIs
import KE.KxText
import HandS.AnyAll
import HandS.GenOver
import HandS.SortInts
import HandS.TupAny
import HandS.TupMul
import HandS.Strs
import HandS.IsInst
import HandS.EndTab
import HandS.EndOwn
import HandS.SetFor
import KE.KNestM
import KE.GoesEnum
import HandS.FStr
import HandS.RaiseMore
import KE.DatumOrd
import HandS.Zip
import HandS.Style
import HandS.RevRange
import HandS.TryOnly
import HandS.WordsExc
import KE.LtData
import HandS.TupLe
import HandS.ExcField
import HandS.Dict
import HandS.More
import HandS.WordsDict
import HandS.DictComp
import HandS.Deep
set_option Elab.async false
set_option linter.all false
set_option maxRecDepth 100000
set_option maxHeartbeats 2000000
namespace Nw
open PySem PySem.Spec PyProof.Rows L2
/-! ### readings that hide the heap: what is new is told by its facts alone -/
theorem same_new {H : Hp} {p : Addr} {o : HO} (h : H p = none) : Same H (upd H p o) := fun b x e => by
  rw [upd_ne (ne_of_none e h)]
  exact e
theorem sqt {K : PySem.W.Frag} {H H' : Hp} {a : Addr} {xs : List V} (e : Same H H') (h : SqT K H a xs) : SqT K H' a xs := by
  rcases h with (h | ⟨o, h⟩) | h
  · exact .inl (.inl (e _ _ h))
  · exact .inl (.inr ⟨o, e _ _ h⟩)
  · exact .inr h
/-- a new object o at a place of its own -/
def New (H : Hp) (o : HO) (Q : VK) : Prop := ∀ p H2, H p = none → Same H H2 → H2 p = some o → (∀ b, b ≠ p → H2 b = H b) → Q (.ref p) H2
theorem New.to {H : Hp} {o : HO} {Q : VK} (h : New H o Q) : ∀ p, H p = none → Q (.ref p) (upd H p o) := fun p n => h p _ n (same_new n) upd_same fun b nb => upd_ne nb
section
variable {X : Cx} {e : Expr} {es : List Expr} {t t' : TE} {ta : TA} {pos : Pos}
theorem pe_weak (h : PE X e t) (i : ∀ σ H Q, t' σ H Q → t σ H Q) : PE X e t' := ⟨fun pins s σ H Q I q => h.run pins s σ H Q I (i σ H Q q)⟩
theorem op_weak {f : Value → Value → Sem Value} {r r' : R2} (h : OpR X f r) (i : ∀ x y H Q, r' x y H Q → r x y H Q) : OpR X f r' := fun pins s σ H x y v u Q I rx ry q => h pins s σ H x y v u Q I rx ry (i x y H Q q)
theorem call_weak {f : Value} {r r' : List V → Hp → VK → Prop} (h : CallR X f r) (i : ∀ xs H Q, r' xs H Q → r xs H Q) : CallR X f r' := fun pins s σ H xs us Q I rx q => h pins s σ H xs us Q I rx (i xs H Q q)
theorem mt_weak {id : String} {r r' : V → List V → Hp → VK → Prop} (h : MtR X id r) (i : ∀ x xs H Q, r' x xs H Q → r x xs H Q) : MtR X id r' := fun pins s σ H x xs v us Q I rx rs q => h pins s σ H x xs v us Q I rx rs (i x xs H Q q)
theorem sl_weak {r r' : V → Option Int → Option Int → Hp → VK → Prop} (h : SlR X r) (i : ∀ x lo hi H Q, r' x lo hi H Q → r x lo hi H Q) : SlR X r' := fun pins s σ H x v vl vu lo hi sl Q I rx a b c q => h pins s σ H x v vl vu lo hi sl Q I rx a b c (i x lo hi H Q q)
/-- what follows may be asked for less -/
def clA (t : TA) : TA := fun σ H R => ∃ R' : List V → Hp → Prop, (∀ xs H1, R' xs H1 → R xs H1) ∧ t σ H R'
theorem pa_cl (h : PA X es ta) : PA X es (clA ta) := ⟨fun ps pins s σ H Q I ⟨R', i, q⟩ => thn (h.run ps pins s σ H R' I q) fun us s1 ⟨vs, H1, I1, r1, q1⟩ => ⟨vs, H1, I1, r1, i vs H1 q1⟩⟩
def clE (t : TE) : TE := fun σ H R => ∃ R' : VK, (∀ v H1, R' v H1 → R v H1) ∧ t σ H R'
theorem pe_cl (h : PE X e t) : PE X e (clE t) := ⟨fun pins s σ H Q I ⟨R', i, q⟩ => thn (h.run pins s σ H R' I q) fun u s1 ⟨v, H1, I1, r1, q1⟩ => ⟨v, H1, I1, r1, i v H1 q1⟩⟩
def nLst (t : TA) : TE := fun σ H Q => t σ H fun xs H1 => xs.length ≤ sizeLine ∧ New H1 (.lst xs) Q
def nTup (t : TA) : TE := fun σ H Q => t σ H fun xs H1 => xs.length ≤ sizeLine ∧ New H1 (.tup xs) Q
theorem pe_lstN (h : PA X es ta) : PE X (.List es pos) (nLst ta) := pe_weak (pe_lst (pa_cl h)) fun _ _ _ q => ⟨_, fun _ _ z => ⟨z.1, z.2.to⟩, q⟩
theorem pe_tupN {x1} (h : PA X es ta) : PE X (.Tuple es x1 pos) (nTup ta) := pe_weak (pe_tup (pa_cl h)) fun _ _ _ q => ⟨_, fun _ _ z => ⟨z.1, z.2.to⟩, q⟩
/-- xs + ys (lists) -/
def rCatN : R2 := fun x y H Q => ∃ p q xs ys, x = .ref p ∧ y = .ref q ∧ H p = some (.lst xs) ∧ H q = some (.lst ys) ∧ xs.length + ys.length ≤ sizeLine ∧ New H (.lst (xs ++ ys)) Q
theorem op_catN : OpR X (binaryOp .Add) rCatN := op_weak op_cat fun x y H Q ⟨p, q, xs, ys, h1, h2, h3, h4, h5, h6⟩ => ⟨p, q, xs, ys, h1, h2, h3, h4, h5, h6.to⟩
/-- a tuple of xs, new or not -/
def ResT (H : Hp) (xs : List V) (Q : VK) : Prop := ∀ p H2, Same H H2 → H2 p = some (.tup xs) → Q (.ref p) H2
theorem call_list_ofN : CallR X (.type "list") (fun xs H Q => ∃ p ys, xs = [.ref p] ∧ (SqL X.K H p ys ∨ SqT X.K H p ys) ∧ New H (.lst ys) Q) := call_weak call_list_of fun _ _ _ ⟨p, ys, h1, h2, h3⟩ => ⟨p, ys, h1, h2, h3.to⟩
theorem call_tuple_ofN : CallR X (.type "tuple") (fun xs H Q => ∃ p ys, xs = [.ref p] ∧ SqL X.K H p ys ∧ New H (.tup ys) Q) := call_weak call_tuple_of fun _ _ _ ⟨p, ys, h1, h2, h3⟩ => ⟨p, ys, h1, .inl ⟨h2, h3.to⟩⟩
theorem sl_listN : SlR X (fun x lo hi H Q => ∃ a xs, x = .ref a ∧ SqL X.K H a xs ∧ New H (.lst (cutV xs lo hi)) Q) := sl_weak sl_list fun _ _ _ _ _ ⟨a, xs, h1, h2, h3⟩ => ⟨a, xs, h1, h2, h3.to⟩
end
/-! ### data by its values -/
theorem dp_bls {K : PySem.W.Frag} {H : Hp} : ∀ bs : List Bool, DpAll K H (bs.map V.bl) (bs.map PyData.bool)
  | [] => .nil
  | b :: r => .cons (.bl b) (dp_bls r)
theorem dp_ints {K : PySem.W.Frag} {H : Hp} : ∀ ns : List Int, DpAll K H (ns.map V.int) (ns.map PyData.int)
  | [] => .nil
  | b :: r => .cons (.int b) (dp_ints r)
/-- flat data: numbers, truths, None -/
def flatD : PyData → Bool
  | .none | .bool _ | .int _ => true
  | _ => false
theorem flat_lay : ∀ ds : List PyData, ds.all flatD = true → PyData.canLayAll0 ds = true
  | [], _ => rfl
  | d :: r, h => by
    rw [List.all_cons, Bool.and_eq_true] at h
    show (PyData.canLay0 d && PyData.canLayAll0 r) = true
    rw [flat_lay r h.2, Bool.and_true]
    cases d <;> first | rfl | exact Bool.noConfusion h.1
theorem flat_depth : ∀ ds : List PyData, ds.all flatD = true → PyData.depthAll ds ≤ 1
  | [], _ => by decide
  | d :: r, h => by
    rw [List.all_cons, Bool.and_eq_true] at h
    have ih := flat_depth r h.2
    have hd : PyData.depth d ≤ 1 := by
      cases d <;> first | decide | exact Bool.noConfusion h.1 | exact Nat.zero_le _ | exact Nat.le_refl _
    show Nat.max (PyData.depth d) (PyData.depthAll r) ≤ 1
    exact Nat.max_le.mpr ⟨hd, ih⟩
theorem shaped_list {ds : List PyData} (h : ds.all flatD = true) : SeqAt.shaped (.list ds) = true := by
  have e := flat_depth ds h
  have e2 : PyData.depth (.list ds) ≤ 64 := by
    show PyData.depthAll ds + 1 ≤ 64
    omega
  show (PyData.canLayAll0 ds && decide (PyData.depth (.list ds) ≤ 64)) = true
  rw [flat_lay ds h, decide_eq_true e2]
  rfl
theorem shaped_tuple {ds : List PyData} (h : ds.all flatD = true) : SeqAt.shaped (.tuple ds) = true := by
  have e := flat_depth ds h
  have e2 : PyData.depth (.tuple ds) ≤ 64 := by
    show PyData.depthAll ds + 1 ≤ 64
    omega
  show (PyData.canLayAll0 ds && decide (PyData.depth (.tuple ds) ≤ 64)) = true
  rw [flat_lay ds h, decide_eq_true e2]
  rfl
theorem flat_bls (bs : List Bool) : (bs.map PyData.bool).all flatD = true := by
  rw [List.all_map, List.all_eq_true]
  exact fun _ _ => rfl
theorem flat_ints (ns : List Int) : (ns.map PyData.int).all flatD = true := by
  rw [List.all_map, List.all_eq_true]
  exact fun _ _ => rfl
theorem eqv_self {d : PyData} (h : SeqAt.shaped d = true) : PyData.eqv d d = true := SeqAt.eqv_refl d (SeqAt.canLay_of_shaped h)
end Nw
namespace Nw
open PySem PySem.Spec PyProof.Rows L2
section
variable {X : Cx}
theorem cr_sortedN : CallR X (.builtin "sorted") (fun vs H Q => ∃ (a : Addr) (ns : List Int), vs = [V.ref a] ∧ SqL X.K H a (ns.map V.int) ∧ ∀ ns' : List Int, ns'.Perm ns → ns'.Pairwise (· ≤ ·) → New H (.lst (ns'.map V.int)) Q) :=
  call_weak cr_sortedI fun _ _ _ ⟨a, ns, h1, h2, h3⟩ => ⟨a, ns, h1, h2, fun ns' p hp hs np => (h3 ns' hp hs).to p np⟩
theorem cutV_all {xs : List V} {lo hi : Option Int} (h : HT.sIx xs.length 0 lo = 0 ∧ HT.sIx xs.length xs.length hi = xs.length) : cutV xs lo hi = xs := by
  unfold cutV
  rw [h.1, h.2]
  exact List.take_length
theorem sl_tupN : SlR X (fun x lo hi H Q => ∃ a xs, x = .ref a ∧ H a = some (.tup xs) ∧ ResT H (cutV xs lo hi) Q) := sl_weak sl_tupA fun _ lo hi H Q ⟨a, xs, h1, h2, h3⟩ =>
  ⟨a, xs, h1, .of h2, fun z => h3 a H (Same.refl H) (by rw [cutV_all z]; exact h2), fun _ p np => h3 p _ (same_new np) upd_same⟩
theorem op_catTN : OpR X (binaryOp .Add) (fun x y H Q => ∃ a b xs ys, x = .ref a ∧ y = .ref b ∧ H a = some (.tup xs) ∧ H b = some (.tup ys) ∧ xs.length + ys.length ≤ sizeLine ∧ ResT H (xs ++ ys) Q) :=
  op_weak op_catA fun _ _ H Q ⟨a, b, xs, ys, h1, h2, h3, h4, h5, h6⟩ => ⟨a, b, xs, ys, h1, h2, .of h3, .of h4, h5, fun z => h6 b H (Same.refl H) (by rw [z]; exact h4), fun _ z => h6 a H (Same.refl H) (by rw [z, List.append_nil]; exact h3), fun _ _ p np => h6 p _ (same_new np) upd_same⟩
theorem op_repTN : OpR X (binaryOp .Mult) (fun x y H Q => ∃ l k xs, x = .ref l ∧ y = .int k ∧ H l = some (.tup xs) ∧ xs ≠ [] ∧ 2 ≤ k ∧ k ≤ 1000 ∧ xs.length ≤ 1000 ∧ ResT H (List.replicate k.toNat xs).flatten Q) :=
  op_weak op_repT fun _ _ H Q ⟨l, k, xs, h1, h2, h3, h4, h5, h6, h7, h8⟩ => ⟨l, k, xs, h1, h2, .of h3, h4, h5, h6, h7, fun p np => h8 p _ (same_new np) upd_same⟩
/-! the same rules with the written part by its name (for comprehensions' blocks) -/
variable {K : PySem.W.Frag}
theorem ix_tupB (h : X.K = K) : IxR X (rIxT K) := by subst h; exact ix_tup
theorem ix_listB (h : X.K = K) : IxR X (rIxL K) := by subst h; exact ix_list
theorem op_in_seqB (h : X.K = K) : OpR X (compareOp .In) (rIn K false) := by subst h; exact op_in_seq
theorem op_notIn_seqB (h : X.K = K) : OpR X (compareOp .NotIn) (rIn K true) := by subst h; exact op_notIn_seq
theorem call_len_seqB (h : X.K = K) : CallR X (.builtin "len") (fun xs H Q => ∃ p ys, xs = [.ref p] ∧ (SqL K H p ys ∨ SqT K H p ys) ∧ Q (.int ys.length) H) := by subst h; exact call_len_seq
theorem call_isiB (h : X.K = K) : CallR X (.builtin "isinstance") (rIsi K) := by subst h; exact call_isi
theorem op_eqDB (h : X.K = K) (hu : X.A.units + 64 < cLine) : OpR X (compareOp .Eq) (rEqD K) := by subst h; exact op_eqD hu
theorem op_neDB (h : X.K = K) (hu : X.A.units + 64 < cLine) : OpR X (compareOp .NotEq) (rNeD K) := by subst h; exact op_neD hu
end
end Nw
namespace Ev1
open PySem PySem.Spec PyProof.Rows L2 Nw
/-! ### exceptions as values -/
/-- at a an exception of the class cls, its dict d -/
def ExV (cls : Value) (d : Option Addr) (a : Addr) : HO := .ext fun h => ∃ (oe : Obj) (vs : Array Value), h.get? a = some oe ∧ Zc cls d oe ∧ oe.data = .fields vs
/-- an exception that was made of the class cls, its dict d: it stands at a place of its own -/
def Made (H1 : Hp) (cls : Value) (d : Option Addr) (Q : VK) : Prop := ∀ a H3, H1 a = none → Same H1 H3 → H3 a = some (ExV cls d a) → Q (.ref a) H3
theorem pe_made {X : Cx} {e : Expr} {t : L2.St → Hp → XK → Prop} (m : PMk X e t) : PE X e (fun σ H Q => t σ H fun cls d H1 => Made H1 cls d Q) := by
  refine ⟨fun pins s σ H Q I h => thn (m pins s σ H _ I h) fun u s1 z => ?_⟩
  obtain ⟨a, oe, vs, sI, H1, cls, d, rfl, J, k, na, ha, hz, hd, _, ha1, os, ag, _, q⟩ := z
  have new : ObjOk X.prog X.w (upd H1 a (ExV cls d a)) s1.heap a (ExV cls d a) := ⟨⟨oe, vs, ha, hz, hd⟩, ⟨oe, ha⟩, fun h1 h2 ⟨o, v, y, r⟩ i => ⟨o, v, i o y, r⟩⟩
  exact ⟨.ref a, upd H1 a (ExV cls d a), J.call' (ch := []) os (Un.laidN k na ha1) (J.hok.laidN k ha1 new) ag (fun b y => absurd y (by simp)), rfl, q a _ ha1 (same_new ha1) upd_same⟩
/-- at a an exception of the class D, with the field at = y -/
def ExF (H : Hp) (a D : Addr) (y : V) : Prop := ∃ dx, H a = some (ExV (.ref D) (some dx) a) ∧ H dx = some (.xd [(("at" : Str), y)])
/-- at a an exception of the class D -/
def ExAt (H : Hp) (a D : Addr) : Prop := H a = some (ExO (.ref D) a) ∨ ∃ y, ExF H a D y
theorem ExF.same {H H' : Hp} {a D : Addr} {y : V} (h : ExF H a D y) (s : Same H H') : ExF H' a D y := by
  obtain ⟨dx, h1, h2⟩ := h
  exact ⟨dx, s _ _ h1, s _ _ h2⟩
theorem ExAt.same {H H' : Hp} {a D : Addr} (h : ExAt H a D) (s : Same H H') : ExAt H' a D := by
  rcases h with h | ⟨y, h⟩
  · exact .inl (s _ _ h)
  · exact .inr ⟨y, h.same s⟩
theorem notCls_of {o : Obj} {vs : Array Value} (hd : o.data = .fields vs) : PySem.W.notCls o = true := by
  unfold PySem.W.notCls
  rw [hd]
section
variable {X : Cx} {pins : List (Addr × Obj)} {σ : L2.St} {H : Hp} {s : Shared} {a D : Addr} {y : V}
theorem ExF.inst (I : Inv X pins σ H s) (h : ExF H a D y) : ∃ ox od u, PySem.W.InstAt s.heap a ox D (some od) ∧ PySem.W.lookIn "at" od = some (some u) ∧ RelV y u := by
  obtain ⟨dx, h1, h2⟩ := h
  have z1 : ObjOk X.prog X.w H s.heap a (.ext fun h => ∃ (oe : Obj) (vs : Array Value), h.get? a = some oe ∧ Zc (.ref D) (some dx) oe ∧ oe.data = .fields vs) := I.hok a _ h1
  obtain ⟨⟨oe, vs, ha, ⟨hc, hd⟩, hv⟩, _⟩ := z1
  have z2 : ObjOk X.prog X.w H s.heap dx (.xd [(("at" : Str), y)]) := I.hok dx _ h2
  obtain ⟨mA, hn, hr⟩ := z2
  obtain ⟨od, ho, hl⟩ := lookIn_ns hn
  have l : List.lookup ("at" : Str) [(("at" : Str), y)] = some y := by simp [List.lookup]
  obtain ⟨u, hu, ru⟩ := RelO.some_of (v := y) (o := mA "at") (by rw [← l]; exact hr "at")
  exact ⟨oe, od, u, ⟨ha, hc, notCls_of hv, by rw [hd]; exact ho⟩, by rw [hl, hu], ru⟩
theorem ExAt.inst (I : Inv X pins σ H s) (h : ExAt H a D) : ∃ ox od, PySem.W.InstAt s.heap a ox D od := by
  rcases h with h | ⟨y, h⟩
  · obtain ⟨⟨oe, vs, ha, ⟨hc, hd⟩, hv, _⟩, _⟩ := I.hok a _ h
    exact ⟨oe, none, ⟨ha, hc, notCls_of hv, by rw [hd]; exact trivial⟩⟩
  · obtain ⟨ox, od, _, J, _⟩ := h.inst I
    exact ⟨ox, some od, J⟩
end
/-- X(e), X an own class without own __init__ -/
def tExN (C : Addr) (te : TE) : TE := fun σ H Q => te σ H fun _ H1 => ∀ a H2, H1 a = none → Same H1 H2 → H2 a = some (ExO (.ref C) a) → Q (.ref a) H2
theorem pe_excN {X : Cx} {C : Addr} {bmB : List Value} {B newId initId : String} {x : Str} {e : Expr} {te : TE} {p pos : Pos} (F : ExcBaseFacts B newId initId bmB) (q : PySem.W.excIn X.K C bmB newId = true) (gC : X.mg x = some (.ref C)) (kC : PySem.W.keepIn X.K (.ref C) = true) (hg : Gl X x)
    (he : PE X e te) (hs : starEach [e] X.env = (false, eval e X.env) :: starEach [] X.env := by rfl) (hdb : (x == ("__debug__" : Str)) = false := by decide) : PE X (.Call (.Name x p) [e] [] pos) (tExN C te) :=
  pe_weak (pe_exc1 F q gC kC hg (pe_cl he) hs hdb) fun _ _ _ h => ⟨_, fun _ _ z a na => z a _ na (same_new na) upd_same, h⟩
/-- isinstance(e, c) of an exception -/
def rIsX (K : PySem.W.Frag) : List V → Hp → VK → Prop := fun xs H Q => ∃ (a D : Addr) (c : V) (cv : Value) (b : Bool), xs = [.ref a, c] ∧ ExAt H a D ∧ ExcC K D ∧ (∀ u, RelV c u → u = cv) ∧ PySem.W.kitOne K (.ref D) cv = some b ∧ Q (.bl b) H
theorem call_isX {X : Cx} : CallR X (.builtin "isinstance") (rIsX X.K) := by
  intro pins s σ H xs us Q I r h
  obtain ⟨a, D, c, cv, b, rfl, hE, C, hcv, e, q⟩ := h
  cases r with
  | cons rx rr =>
    cases rr with
    | cons rt rr =>
      cases rr
      cases rx
      have ec := hcv _ rt
      subst ec
      obtain ⟨ox, od, J⟩ := hE.inst I
      have cl : (PySem.W.clsIn X.K D).isSome = true := by
        obtain ⟨cd, hc, _⟩ := PySem.W.any_some C.hd
        rw [hc]
        rfl
      exact PySem.W.kia_one (PySem.W.kitx_exc cl C.hg C.hk C.hs C.ha C.hn C.ht C.hm) I.kIn J e (fun z => nomatch z) fun tk => ⟨.bl b, H, I.kept (t' := tk) fun _ _ z => z, rfl, q⟩
/-- e.at of an exception -/
def tAtX (K : PySem.W.Frag) (te : TE) : TE := fun σ H Q => te σ H fun x H1 => ∃ (a D : Addr) (y : V), x = .ref a ∧ ExF H1 a D y ∧ ExcC K D ∧ PySem.W.findIn K (.ref D) "at" = some none ∧ Q y H1
theorem pe_atX {X : Cx} {e : Expr} {te : TE} {pos : Pos} (he : PE X e te) (hb : attributeBase e "at" X.env (eval e X.env) = eval e X.env := by rfl) : PE X (.Attribute e "at" pos) (tAtX X.K te) := by
  refine ⟨fun pins s σ H Q I h => attr_of hb (thn (he.run pins s σ H _ I h) fun u s1 hh => ?_)⟩
  obtain ⟨x, H1, I1, rx, a, D, y, rfl, hE, C, nf, q⟩ := hh
  cases rx
  obtain ⟨ox, od, u, J, l, ru⟩ := hE.inst I1
  exact HandSPX.exc_get I1.kIn J C.hg C.hk C.hs (PySem.W.findObj_own C.hd nf rfl l) (handed_of ru) ⟨y, H1, I1.tok _, ru, q⟩
/-- the promise of «def __init__(self, at): self.at = at» -/
def spInit (K : PySem.W.Frag) : Sp := fun vs H Q _ => ∃ (a C : Addr) (y : V), vs = [.ref a, y] ∧ OexC K C ∧ PySem.W.findIn K (.ref C) "at" = some none ∧ H a = some (exo a C none) ∧
  ∀ dx, H dx = none → dx ≠ a → Q .non (upd (upd H dx (exd dx [(("at" : Str), y)])) a (exo a C (some dx)))
theorem del_new {H1 : Hp} {a dx : Addr} {o1 o2 o3 : HO} (na : H1 a = none) (ne : dx ≠ a) : del (upd (upd (upd H1 a o1) dx o2) a o3) a = upd H1 dx o2 := by
  funext b
  by_cases hb : b = a
  · subst hb
    rw [del_same, upd_ne (Ne.symm ne), na]
  · rw [del_ne hb, upd_ne hb]
    by_cases hd : b = dx
    · subst hd
      rw [upd_same, upd_same]
    · rw [upd_ne hd, upd_ne hd, upd_ne hb]
/-- what C(y) asks, C with that __init__: the exception and its field -/
theorem made_F {K : PySem.W.Frag} {C : Addr} {y : V} {H1 : Hp} {Q : VK} (T : OexC K C) (nf : PySem.W.findIn K (.ref C) "at" = some none) (h : ∀ a H2, H1 a = none → Same H1 H2 → ExF H2 a C y → Q (.ref a) H2) :
    [y].length ≤ 1000 ∧ ∀ a, H1 a = none → spInit K (.ref a :: ([y] ++ [])) (upd H1 a (exo a C none)) (fun v H2 => v = .non ∧ ∃ (d : Addr) (fs : List (Str × V)), H2 a = some (exo a C (some d)) ∧ H2 d = some (exd d fs) ∧ H1 d = none ∧
      Made (upd (del H2 a) d (.xd fs)) (Value.ref C) (some d) Q) (fun _ _ _ => False) := by
  refine ⟨by simp, fun a na => ⟨a, C, y, rfl, T, nf, upd_same, fun dx nd ne => ?_⟩⟩
  have nd1 : H1 dx = none := by
    rw [upd_ne ne] at nd
    exact nd
  refine ⟨rfl, dx, [(("at" : Str), y)], upd_same, by rw [upd_ne ne, upd_same], nd1, ?_⟩
  rw [del_new na ne, upd_upd]
  intro b H3 nb s3 e3
  have sd : Same H1 (upd H1 dx (.xd [(("at" : Str), y)])) := same_new nd1
  exact h b H3 (sd.free nb) (sd.trans s3) ⟨dx, e3, s3 _ _ upd_same⟩
end Ev1
namespace Gx
open PySem PySem.Spec PyProof.Rows L2 GxR
/-! ### any, all of a generator expression whose element is run by the layer's own rules -/
/-- the generator's frame running, awake under any | all -/
abbrev gCx (X : Cx) (ge : Expr) (s : Shared) (H : Hp) (cenv : Env) (it : Addr) (fp : List Addr) (pn : List (Addr × Obj)) : Cx :=
  { X with
    s_0 := s
    H_0 := H
    env := cenv
    outer := X.stack
    stack := cenv :: X.stack
    ex := fp
    fn := fun _ => false
    pn := pn
    xe := fun _ _ => False
    A := X.A.in1.in1.over (.compLoop ge 0 (.ref it) .none cenv) [] }
theorem room_gen {k : Nat} {X : Cx} {elt : Expr} {gs : List Comprehension} {scope : Scope} {pos : Pos} {s : Shared} {H : Hp} {cenv : Env} {it : Addr} {fp : List Addr} {pn : List (Addr × Obj)} (r : Room (k + 1) X.A) :
    Room k (gCx X (.GeneratorExp elt gs scope pos) s H cenv it fp pn).A := by
  refine ⟨r.hd, ?_, ?_⟩
  · have := r.dp
    show X.A.depth + 0 + 1 + 3 * k + 5 < recursionLimit
    omega
  · have := r.un
    show X.A.units + 1 + 1 + 0 + 3 + 16 * k + 200 < cLine
    omega
/-- gens, drawn and toks say nothing but that all are bare -/
theorem inv_gens {X : Cx} {pins : List (Addr × Obj)} {σ : L2.St} {H : Hp} {s s' : Shared} (I : Inv X pins σ H s) (hh : s'.heap = s.heap) (ho : s'.os = s.os) (hb : AllBare s'.gens) : Inv X pins σ H s' := by
  obtain ⟨h, g, d, t, o⟩ := s
  obtain ⟨h', g', d', t', o'⟩ := s'
  dsimp only at hh ho hb
  subst hh ho
  exact { ok := I.ok, os := I.os, bare := hb, base := I.base, loc := I.loc, cell := I.cell, free := I.free, freeC := I.freeC, pin := I.pin, hok := I.hok, len := I.len }
theorem bare_set {s : Shared} {g : Nat} {x : GenState} (h : AllBare s.gens) (hx : x.bare = true) : AllBare (s.setGen g x).gens := by
  intro y hy
  have hy' : y ∈ s.gens.setIfInBounds g x := hy
  obtain ⟨i, hi, e⟩ := Array.mem_iff_getElem.mp hy'
  by_cases hg : g = i
  · subst hg
    rw [Array.getElem_setIfInBounds_self] at e
    rw [← e]
    exact hx
  · rw [Array.getElem_setIfInBounds_ne (by simpa using hi) hg] at e
    rw [← e]
    exact h _ (Array.getElem_mem _)
section
variable {X : Cx} {pins : List (Addr × Obj)} {σ : L2.St} {H : Hp} {s : Shared}
/-- what the frame of the generator knows as it begins -/
theorem gen_start {ge : Expr} {scope : Scope} {own : List (Str × Nat)} {fp : List Addr} {it a : Addr} {code : Value} {go : Obj} {gs : Array GenState} {tk : Nat} {h5 : Heap} {m : Str → Option Value} (I : Inv X pins σ H s) (hc : X.calm = true) (ok : BlkOk X.N X.env.scope scope own) (hN : X.N.Nodup)
    (nc : ∀ y ∈ scope.names, y.2 ≠ .cell) (hfp : ∀ b ∈ fp, FpOk X pins H b ∧ b < s.heap.objs.size) (fr : (X.A.in1.in1.over (.compLoop ge 0 (.ref it) .none (genEnv scope (cloFrom X.env.cells scope.names []) s.heap.objs.size code builtinsNs X.env)) []).frames = some (genEnv scope (cloFrom X.env.cells scope.names []) s.heap.objs.size code builtinsNs X.env :: X.stack))
    (hg : AllBare gs) (kp : ∀ b o, s.heap.get? b = some o → h5.get? b = some o) (hns : h5.Ns s.heap.objs.size m) (ha : h5.get? a = some go) (ha1 : s.heap.objs.size < a) (hd : ∀ v, go.data ≠ .cell v) :
    Inv (gCx X ge s H (genEnv scope (cloFrom X.env.cells scope.names []) s.heap.objs.size code builtinsNs X.env) it fp [(a, go)]) [] (wipe σ (own.map (·.2))) H { s with gens := gs, toks := tk, heap := h5 } := by
  have cm : ∀ {y : Str} {c : Addr}, (cloFrom X.env.cells scope.names []).lookup y = some c → X.env.cells.lookup y = some c := fun {y c} e => by
    rcases cloFrom_mem (PySem.mem_of_lookup e) with z | ⟨h1, z⟩
    · cases z
    · have q : ∃ c', X.env.cells.lookup y = some c' := by
        rcases ok.free (y, .free) h1 rfl with k | k
        · exact I.ok.has y (.inl k)
        · exact I.ok.has y (.inr k)
      obtain ⟨c', q⟩ := q
      rw [q] at z
      rw [q, z]
      rfl
  have ch : ∀ {y : Str}, scope.names.lookup y = some .free → ∃ c, (cloFrom X.env.cells scope.names []).lookup y = some c := fun {y} e => mem_lookup (cloFrom_has (PySem.mem_of_lookup e))
  have noc : ∀ {y : Str}, scope.names.lookup y ≠ some .cell := fun {y} e => nc _ (PySem.mem_of_lookup e) rfl
  have stL : ∀ b ∈ frs X.stack, b < s.heap.objs.size := fun b hb => by
    obtain ⟨_, o, e, _⟩ := I.stack.mem hb
    exact Heap.lt_size e
  have okG : (gCx X ge s H (genEnv scope (cloFrom X.env.cells scope.names []) s.heap.objs.size code builtinsNs X.env) it fp [(a, go)]).Ok := {
    mod := I.ok.mod
    kind := ok.kind
    glob := I.ok.glob
    blt := rfl
    above := Nat.le_refl _
    inj := fun x y c h1 h2 => I.ok.inj x y c (cm h1) (cm h2)
    has := fun x h => h.elim (fun k => absurd k noc) fun k => ch k
    cab := fun x c h => Bool.noConfusion h
    hd := fun h => I.ok.hd h
    frames := fr
    stk := .inr ⟨rfl, rfl⟩
    exf := fun b hb => ⟨Nat.ne_of_lt (hfp b hb).2, fun x c e => (hfp b hb).1.2.2.2.2.1 x c (cm e)⟩
    bs := I.bs
    bsz := Nat.le_trans I.ok.bsz I.sz
    noex := fun b o e hb => by
      rcases (hfp b hb).1.2.2.2.1 with z | z
      · exact I.ok.noex b o e z
      · exact Nat.lt_irrefl _ (Nat.lt_of_lt_of_le (Heap.lt_size e) (Nat.le_trans I.ok.bsz z))
    exfs := fun b hb z => by
      rcases List.mem_cons.mp (I.stkSub b z) with y | y
      · exact (hfp b hb).1.2.1 y
      · exact (hfp b hb).1.2.2.1 y
    funs := I.stack
    frf := I.stkFree }
  refine { ok := okG, os := rfl, bare := hg, base := Un.kept kp, loc := ⟨m, hns, fun i x v e1 e2 e3 => ?_⟩, cell := fun x c e => ?_, free := I.hok.fresh (Nat.le_refl _), freeC := fun x c e => I.freeC x c (cm e), pin := fun p hp => ?_, hok := I.hok.kept kp, len := (wipe_length _ _).trans I.len }
  · obtain ⟨e2, hi⟩ := wipe_some e2
    have hf : scope.names.lookup x = some .free := by
      have no : ∀ k, scope.names.lookup x = some k → ¬ (k = .local ∨ k = .cell) := fun k hk hh => by
        rcases ok.own _ (PySem.mem_of_lookup hk) hh with z | z
        · obtain ⟨p, hp, hx⟩ := List.mem_map.mp z
          have q := ok.ix p hp
          have hx' : p.1 = x := hx
          rw [hx'] at q
          exact hi (List.mem_map.mpr ⟨p, hp, nodup_ix hN q e1⟩)
        · exact z (List.mem_of_getElem? e1)
      have e3 : Vis scope x := e3
      rcases e3 with k | k | k
      · exact absurd (.inl rfl) (no _ k)
      · exact absurd (.inr rfl) (no _ k)
      · exact k
    have hv := ok.free _ (PySem.mem_of_lookup hf) rfl
    obtain ⟨m0, _, hl⟩ := I.loc
    obtain ⟨u, ru, q⟩ := hl i x v e1 e2 (.inr hv)
    refine ⟨u, ru, .inr ⟨.inr hf, ?_⟩⟩
    rcases q with ⟨k, _⟩ | ⟨_, c, ec, z⟩
    · have k' : X.env.scope.names.lookup x = some .local := k
      rcases hv with y | y
      · have y' : X.env.scope.names.lookup x = some .cell := y
        rw [k'] at y'
        cases y'
      · have y' : X.env.scope.names.lookup x = some .free := y
        rw [k'] at y'
        cases y'
    · obtain ⟨c', e'⟩ := ch hf
      have e2 := cm e'
      rw [ec] at e2
      cases e2
      exact ⟨c, e', z.keeps kp⟩
  · obtain ⟨v, z⟩ := I.cell x c (cm e)
    exact ⟨v, z.keeps kp⟩
  · have hp' : p ∈ [(a, go)] ++ ([] : List (Addr × Obj)) := hp
    have e : p = (a, go) := by simpa using hp'
    subst e
    refine ⟨ha, I.hok.fresh (Nat.le_of_lt ha1), Nat.ne_of_gt ha1, fun z => ?_, hd⟩
    exact Nat.lt_irrefl _ (Nat.lt_trans (stL _ z) ha1)
end
/-- what a turn's way through the generator must reach. stopb: the truth at which any (true), all (false) stops -/
def GEndP (Y : Cx) (σw : L2.St) (stopb : Bool) (Q : VK) : Nat → Shared → Shared → Prop := fun _ _ s => ∃ H', Inv Y [] σw H' s ∧ Q (.bl (!stopb)) H'
def GProto (Y : Cx) (σw : L2.St) (fp : List Addr) (tn : Nat → Heap → Prop) (W : Nat → Nat → Hp → Prop) (stopb : Bool) (Q : VK) : Protocol := fun n _ v s kap => ∃ (k : Bool) (H' : Hp), v = .bool k ∧ Inv Y [] σw H' s ∧
  ((k = stopb ∧ Q (.bl stopb) H') ∨ (k = !stopb ∧ ∃ i m, m < n ∧ W i m H' ∧ ∀ s'' : Shared, s''.heap = s.heap → s''.os = s.os → AllBare s''.gens → kap (.send .none) s''))
section
variable {X : Cx} {elt tg iter : Expr} {ifs : List Expr} {scope : Scope} {gpos : Pos} {s4 : Shared} {H4 : Hp} {cenv : Env} {it : Addr} {fp : List Addr} {pn : List (Addr × Obj)} {J : It} {tn : Nat → Heap → Prop} {g : TG} {tt : TT} {te : TE} {own : List Nat} {σ : L2.St} {stopb : Bool} {Q : VK} {W : Nat → Nat → Hp → Prop}
/-- the turns of the generator's own loop -/
theorem gen_loop (hc : X.calm = true) (hco : cenv.scope.isCoroutine = false) (T : Turn X.prog X.w X.K tg J fp it tn) (hpn : ∀ p ∈ pn, ∀ b ∈ fp, p.1 ≠ b)
    (pg : PG (gCx X (.GeneratorExp elt [⟨tg, iter, ifs, 0⟩] scope gpos) s4 H4 cenv it fp pn) tg g) (pt : PTs (gCx X (.GeneratorExp elt [⟨tg, iter, ifs, 0⟩] scope gpos) s4 H4 cenv it fp pn) ifs tt) (pe : PE (gCx X (.GeneratorExp elt [⟨tg, iter, ifs, 0⟩] scope gpos) s4 H4 cenv it fp pn) elt te)
    (turn : ∀ i m H, W i m H → (J.stop i H ∧ Q (.bl (!stopb)) H) ∨ (J.go i H ∧ ∃ Nx : Hp → Prop, (∀ H', Nx H' → ∃ m', m' < m ∧ W (i + 1) m' H') ∧ ∀ x H', J.yld i H x H' → g x (wipe σ own) H' fun σ2 H2 => wipe σ2 own = wipe σ own ∧ tt σ2 H2 fun b H3 =>
      if b = true then te σ2 H3 fun y H4 => (y = .bl stopb ∧ Q (.bl stopb) H4) ∨ (y = .bl (!stopb) ∧ Nx H4) else Nx H3)) :
    ∀ (m n i : Nat) (s0 s : Shared) (H' : Hp), m < n → W i m H' → Inv (gCx X (.GeneratorExp elt [⟨tg, iter, ifs, 0⟩] scope gpos) s4 H4 cenv it fp pn) [] (wipe σ own) H' s → tn i s.heap → (∀ b ∈ fp, H' b = none) →
      Seg (model X.prog X.w) X.A.in1.in1 (fun n s0 r s1 => r = .ok .next ∧ GEndP (gCx X (.GeneratorExp elt [⟨tg, iter, ifs, 0⟩] scope gpos) s4 H4 cenv it fp pn) (wipe σ own) stopb Q n s0 s1)
        (GProto (gCx X (.GeneratorExp elt [⟨tg, iter, ifs, 0⟩] scope gpos) s4 H4 cenv it fp pn) (wipe σ own) fp tn W stopb Q) n s0
        (.compLoop (.GeneratorExp elt [⟨tg, iter, ifs, 0⟩] scope gpos) 0 (.ref it) .none cenv) ((model X.prog X.w).den (.compLoop (.GeneratorExp elt [⟨tg, iter, ifs, 0⟩] scope gpos) 0 (.ref it) .none cenv)) [] s := by
  intro m
  induction m using Nat.strongRecOn with
  | ind m ih =>
    intro n i s0 s H' hmn w I st nf
    have fpk : ∀ {σ' : L2.St} {H' : Hp} {s' : Shared}, Inv (gCx X (.GeneratorExp elt [⟨tg, iter, ifs, 0⟩] scope gpos) s4 H4 cenv it fp pn) [] σ' H' s' → (∀ b ∈ fp, H' b = none) → ∀ b ∈ fp, FpOk (gCx X (.GeneratorExp elt [⟨tg, iter, ifs, 0⟩] scope gpos) s4 H4 cenv it fp pn) [] H' b := fun {σ' H' s'} I' hn b hb =>
      ⟨hn b hb, (I'.ok.exf b hb).1, I'.ok.exfs b hb, .inl hb, (I'.ok.exf b hb).2, fun p hp => hpn p (by simpa using hp) b hb⟩
    show Seg _ _ _ _ n s0 _ ((compTurn (.GeneratorExp elt [⟨tg, iter, ifs, 0⟩] scope gpos) 0 (.ref it) .none cenv).onRaise (leaving cenv)) [] s
    rw [compTurn_gen, Sem.onRaise_eq_wrap]
    refine seg_bind_wrap (wpAny_standAt ?_)
    rcases turn i m H' w with ⟨stop, q⟩ | ⟨go, Nx, hNx, step⟩
    · refine seg_bind_wrap (thnF (T.done (gCx X (.GeneratorExp elt [⟨tg, iter, ifs, 0⟩] scope gpos) s4 H4 cenv it fp pn) rfl rfl rfl hc i [] s _ H' (fun _ _ => False) I (fpk I nf) st stop) fun r s1 z => ?_)
      obtain ⟨rfl, I1⟩ := z
      exact seg_end (.ok .next) ⟨rfl, H', I1, q⟩
    · refine seg_bind_wrap (thnF (T.item (gCx X (.GeneratorExp elt [⟨tg, iter, ifs, 0⟩] scope gpos) s4 H4 cenv it fp pn) rfl rfl rfl hc i [] s _ H' (fun _ _ => False) I (fpk I nf) st go) fun r s1 z => ?_)
      obtain ⟨u, rfl, z⟩ := z
      refine seg_bind_wrap (thnF z fun _ s2 z2 => ?_)
      obtain ⟨x, H2, I2, r2, y2, st2, n2⟩ := z2
      have P2 := I2.pinned (fpk I2 n2) (T.obj _ _ st2)
      refine seg_bind_wrap (thnF (pg.run _ s2 _ H2 x u _ P2 r2 (step x H2 y2)) fun _ s3 z3 => ?_)
      obtain ⟨σ3, H3, I3, hw, q3⟩ := z3
      refine seg_bind_wrap (thnF (pt.run _ s3 σ3 H3 _ I3 q3) fun b sb zb => ?_)
      obtain ⟨Hb, Ib, qb⟩ := zb
      have back : ∀ {s' : Shared} {H' : Hp}, Inv (gCx X (.GeneratorExp elt [⟨tg, iter, ifs, 0⟩] scope gpos) s4 H4 cenv it fp pn) ([] ++ pinsAt fp s2.heap) σ3 H' s' →
          Inv (gCx X (.GeneratorExp elt [⟨tg, iter, ifs, 0⟩] scope gpos) s4 H4 cenv it fp pn) [] (wipe σ own) H' s' ∧ tn (i + 1) s'.heap ∧ ∀ b ∈ fp, H' b = none := fun {s' H'} I' => by
        have pin' : ∀ b ∈ fp, ∀ o, s2.heap.get? b = some o → s'.heap.get? b = some o ∧ H' b = none := fun b hb o e =>
          have y := I'.pin (b, o) (List.mem_append_right _ (List.mem_append_right _ (mem_pinsAt hb e)))
          ⟨y.1, y.2.1⟩
        have hl : (wipe σ own).length = σ3.length := by
          rw [← hw, wipe_length]
        refine ⟨(I'.unpinned (pins := [])).weak hl (fun j v e => ?_), T.keep _ _ _ st2 (fun b hb o e => (pin' b hb o e).1), fun b hb => ?_⟩
        · rw [← hw] at e
          exact (wipe_some e).1
        · obtain ⟨o, e, _⟩ := T.obj _ _ st2 b hb
          exact (pin' b hb o e).2
      cases b with
      | false =>
        simp only [Bool.false_eq_true, if_false] at qb ⊢
        obtain ⟨m', hm, w'⟩ := hNx _ qb
        obtain ⟨I', st', n'⟩ := back Ib
        exact seg_again rfl (ih m' hm n (i + 1) s0 sb Hb (Nat.lt_trans hm hmn) w' I' st' n')
      | true =>
        simp only [if_true] at qb ⊢
        have hy : ∀ v, yieldOut cenv v = yieldValue v := fun v => by simp only [yieldOut, hco, Bool.false_eq_true, if_false]
        simp only [hy]
        rw [Sem.bind_eq_wrap', Sem.bind_eq_wrap', Sem.wrap_wrap, Sem.wrap_wrap]
        refine seg_wrap (thnF (pe.run _ sb σ3 Hb _ Ib qb) fun z sy zy => ?_)
        obtain ⟨v, Hy, Iy, ry, qy⟩ := zy
        obtain ⟨I', st', n'⟩ := back Iy
        obtain ⟨n1, rfl⟩ : ∃ n1, n = n1 + 1 := ⟨n - 1, by omega⟩
        refine seg_at (seg_yield rfl rfl rfl ?_)
        rcases qy with ⟨rfl, q⟩ | ⟨rfl, q⟩
        · cases ry
          exact ⟨stopb, Hy, rfl, I', .inl ⟨rfl, q⟩⟩
        · cases ry
          obtain ⟨m', hm, w'⟩ := hNx _ q
          refine ⟨!stopb, Hy, rfl, I', .inr ⟨rfl, i + 1, m', by omega, w', fun s'' hh ho hb => ?_⟩⟩
          exact seg_again rfl (ih m' hm n1 (i + 1) s'' s'' Hy (by omega) w' (inv_gens I' hh ho hb) (by rw [hh]; exact st') n')
/-- the start of the generator's code -/
theorem gen_begin {n : Nat} {s0 s : Shared} {R : GenEnd} {Y : Protocol} (T : Turn X.prog X.w X.K tg J fp it tn) (st : tn 0 s.heap)
    (loop : Seg (model X.prog X.w) X.A.in1.in1 R Y n s0 (.compLoop (.GeneratorExp elt [⟨tg, iter, ifs, 0⟩] scope gpos) 0 (.ref it) .none cenv) ((model X.prog X.w).den (.compLoop (.GeneratorExp elt [⟨tg, iter, ifs, 0⟩] scope gpos) 0 (.ref it) .none cenv)) [] s) :
    Seg (model X.prog X.w) X.A.in1.in1 R Y n s0 (.compStart (.GeneratorExp elt [⟨tg, iter, ifs, 0⟩] scope gpos) 0 (.ref it) .none cenv) ((model X.prog X.w).den (.compStart (.GeneratorExp elt [⟨tg, iter, ifs, 0⟩] scope gpos) 0 (.ref it) .none cenv)) [] s := by
  show Seg _ _ _ _ n s0 _ ((compStart (.GeneratorExp elt [⟨tg, iter, ifs, 0⟩] scope gpos) 0 (.ref it) .none cenv).onRaise (leaving cenv)) [] s
  unfold compStart
  rw [Sem.onRaise_eq_wrap]
  refine seg_bind_wrap (wpAny_askSetting ?_)
  split
  · exact seg_again rfl loop
  · refine seg_bind_wrap (wpAny_rule ?_)
    show Seg _ _ _ _ n s0 _ ((standAt iter.pos >>= _).wrap _ _ _ _) [] s
    refine seg_bind_wrap (wpAny_standAt (seg_bind_wrap ?_))
    exact T.self _ 0 s _ _ st (seg_again rfl loop)
end
/-- the generator at a, number gn, is asleep (or fresh), with n turns at most -/
def Asleep (X Y : Cx) (σw : L2.St) (fp : List Addr) (tn : Nat → Heap → Prop) (W : Nat → Nat → Hp → Prop) (stopb : Bool) (Q : VK) (gn n : Nat) (s : Shared) : Prop :=
  ∃ (gs : GenState) (H' : Hp), s.gens[gn]? = some gs ∧ Inv Y [] σw H' s ∧ ∀ s'' : Shared, s''.heap = s.heap → s''.os = s.os → AllBare s''.gens →
    gs.Goes (model X.prog X.w) X.A.in1.in1 (fun n s0 r s1 => r = .ok .next ∧ GEndP Y σw stopb Q n s0 s1) (GProto Y σw fp tn W stopb Q) n (.send .none) s''
section
variable {X Y : Cx} {σw : L2.St} {fp : List Addr} {tn : Nat → Heap → Prop} {W : Nat → Nat → Hp → Prop} {Q : VK} {gn : Nat} {a : Addr} {go : Obj} {R : Result → Shared → Prop}
theorem set_at {s : Shared} {x : GenState} (h : gn < s.gens.size) : (s.setGen gn x).gens[gn]? = some x := by
  show (s.gens.setIfInBounds gn x)[gn]? = some x
  rw [Array.getElem?_setIfInBounds_self_of_lt h]
/-- one waking of the generator -/
theorem wake {stopb : Bool} {n : Nat} {s : Shared} {Q' : Option Value → Shared → Prop} {E : Value → Shared → Prop} (hh : X.A.handled = none) (hroom : X.A.depth < recursionLimit) (hp : (a, go) ∈ Y.pn) (hgo : ∀ h : Heap, h.get? a = some go → h.IsGen a gn) (S : Asleep X Y σw fp tn W stopb Q gn n s)
    (stop : ∀ s' H', Inv Y [] σw H' s' → Q (.bl stopb) H' → Q' (some (.bool stopb)) s') (next : ∀ s' m, m < n → Asleep X Y σw fp tn W stopb Q gn m s' → Q' (some (.bool (!stopb))) s') (done : ∀ s' H', Inv Y [] σw H' s' → Q (.bl (!stopb)) H' → Q' none s') :
    wpAny (model X.prog X.w) X.A.in1 (pyNext (.ref a)) Q' E s := by
  obtain ⟨gs, H', hg, I, hG⟩ := S
  have hlt : gn < s.gens.size := by
    rcases Nat.lt_or_ge gn s.gens.size with z | z
    · exact z
    · rw [Array.getElem?_eq_none z] at hg
      cases hg
  have ig : s.heap.IsGen a gn := hgo _ (I.pin (a, go) (List.mem_append_left _ hp)).1
  refine GenW.wpAny_gsz (n := s.gens.size) (Nat.le_refl _) ?_
  refine wpAny_pyNext_genexpQ (A := X.A.in1) hh I.nolimit hroom ig hg (hG _ rfl rfl (bare_set I.bare rfl)) (fun v s1 gs' hb hv sz => ?_) (fun s1 hp1 h' hk sz => ?_)
  · obtain ⟨k, H1, rfl, I1, z⟩ := hv
    have sz1 : gn < s1.gens.size := by
      have e : (s1.setGen gn gs').gens.size = s1.gens.size := GenW.setGen_size _ _ _
      rw [e] at sz
      omega
    have I2 : Inv Y [] σw H1 (s1.setGen gn gs') := inv_gens I1 rfl rfl (bare_set I1.bare hb)
    rcases z with ⟨rfl, q⟩ | ⟨rfl, i, m, hm, w, kap⟩
    · exact stop _ H1 I2 q
    · cases n with
      | zero => omega
      | succ n1 =>
        refine next _ n1 (Nat.lt_succ_self _) ⟨gs', H1, set_at sz1, I2, fun s'' h1 h2 h3 => ?_⟩
        exact kap s'' h1 h2 h3
  · obtain ⟨H1, I1, q⟩ := hp1
    refine done _ H1 ?_ q
    have I2 : Inv Y [] σw H1 (s1.setGen gn .finished) := inv_gens I1 rfl rfl (bare_set I1.bare rfl)
    exact I2.kept (h' := h') (t' := s1.toks) fun b o e => hk b o e
theorem any_loop (hh : X.A.handled = none) (hroom : X.A.depth < recursionLimit) (hp : (a, go) ∈ Y.pn) (hgo : ∀ h : Heap, h.get? a = some go → h.IsGen a gn)
    (fin : ∀ s' H' b, Inv Y [] σw H' s' → Q (.bl b) H' → R (.ok (.ret (.bool b))) s') : ∀ (n : Nat) (s : Shared), Asleep X Y σw fp tn W true Q gn n s → codeAny (model X.prog X.w) X.A (.builtin "any.loop" ⟨[.ref a], []⟩) R s := by
  intro n
  induction n using Nat.strongRecOn with
  | ind n ih =>
    intro s S
    refine codeAny_builtin F.entry_any_loop ?_
    rw [Around.under_plainId F.plain_any_loop _]
    show wpAny _ X.A.in1 (pyNext (.ref a) >>= _) _ _ s
    refine wpAny_bind (wake hh hroom hp hgo S (fun s' H' I q => ?_) (fun s' m hm S' => ?_) (fun s' H' I q => ?_))
    · refine wpAny_bind (wpAny_holding (wpAny_truthy_bool (wpAny_bind (wpAny_letGo ?_))))
      simp only [if_true]
      exact wpAny_bind (wpAny_rule (wpAny_pure (fin s' H' true I q)))
    · refine wpAny_bind (wpAny_holding (wpAny_truthy_bool (wpAny_bind (wpAny_letGo ?_))))
      simp only [Bool.not_true, Bool.false_eq_true, if_false]
      exact wpAny_pure ⟨plainId_quiet F.plain_any_loop _, ih m hm s' S'⟩
    · exact wpAny_bind (wpAny_rule (wpAny_pure (fin s' H' false I q)))
theorem all_loop (hh : X.A.handled = none) (hroom : X.A.depth < recursionLimit) (hp : (a, go) ∈ Y.pn) (hgo : ∀ h : Heap, h.get? a = some go → h.IsGen a gn)
    (fin : ∀ s' H' b, Inv Y [] σw H' s' → Q (.bl b) H' → R (.ok (.ret (.bool b))) s') : ∀ (n : Nat) (s : Shared), Asleep X Y σw fp tn W false Q gn n s → codeAny (model X.prog X.w) X.A (.builtin "all.loop" ⟨[.ref a], []⟩) R s := by
  intro n
  induction n using Nat.strongRecOn with
  | ind n ih =>
    intro s S
    refine codeAny_builtin F.entry_all_loop ?_
    rw [Around.under_plainId F.plain_all_loop _]
    show wpAny _ X.A.in1 (pyNext (.ref a) >>= _) _ _ s
    refine wpAny_bind (wake hh hroom hp hgo S (fun s' H' I q => ?_) (fun s' m hm S' => ?_) (fun s' H' I q => ?_))
    · refine wpAny_bind (wpAny_holding (wpAny_truthy_bool (wpAny_bind (wpAny_letGo ?_))))
      simp only [Bool.false_eq_true, if_false]
      exact wpAny_bind (wpAny_rule (wpAny_pure (fin s' H' false I q)))
    · refine wpAny_bind (wpAny_holding (wpAny_truthy_bool (wpAny_bind (wpAny_letGo ?_))))
      simp only [Bool.not_false, if_true]
      exact wpAny_pure ⟨plainId_quiet F.plain_all_loop _, ih m hm s' S'⟩
    · exact wpAny_bind (wpAny_rule (wpAny_pure (fin s' H' true I q)))
end
/-- any(elt for target in iter if ..) (stopb true), all(..) (stopb false): W by the turn and a measure, Nx what a turn is to reach; P: the def's table of code objects -/
def tAA (P : Addr) (stopb : Bool) (wi : TI) (g : TG) (tt : TT) (te : TE) (vs : List Nat) : TE := fun σ H Q => wi σ H fun J H1 => TabG H1 P ∧ ∀ H2, Tabbed P H1 H2 → ∃ W : Nat → Nat → Hp → Prop, (∃ m, W 0 m H2) ∧
  ∀ i m H, W i m H → (J.stop i H ∧ Q (.bl (!stopb)) H) ∨ (J.go i H ∧ ∃ Nx : Hp → Prop, (∀ H', Nx H' → ∃ m', m' < m ∧ W (i + 1) m' H') ∧ ∀ x H', J.yld i H x H' → g x (wipe σ vs) H' fun σ2 H2 => wipe σ2 vs = wipe σ vs ∧ tt σ2 H2 fun b H3 =>
    if b = true then te σ2 H3 fun y H4 => (y = .bl stopb ∧ Q (.bl stopb) H4) ∨ (y = .bl (!stopb) ∧ Nx H4) else Nx H3)
/-- over a tuple that stays -/
theorem aa_tup {K : PySem.W.Frag} {a : Addr} {xs : List V} {g : TG} {tt : TT} {te : TE} {vs : List Nat} {σ : L2.St} {H1 : Hp} {stopb : Bool} {Q : VK} (Pv : Nat → Hp → Prop) (h0 : Pv 0 H1) (hl : ∀ i H, i ≤ xs.length → Pv i H → SqT K H a xs)
    (hs : ∀ i x H, xs[i]? = some x → Pv i H → g x (wipe σ vs) H fun σ2 H2 => wipe σ2 vs = wipe σ vs ∧ tt σ2 H2 fun b H3 => if b = true then te σ2 H3 fun y H4 => (y = .bl stopb ∧ Q (.bl stopb) H4) ∨ (y = .bl (!stopb) ∧ Pv (i + 1) H4) else Pv (i + 1) H3) (hd : ∀ H, Pv xs.length H → Q (.bl (!stopb)) H) :
    ∃ W : Nat → Nat → Hp → Prop, (∃ m, W 0 m H1) ∧ ∀ i m H, W i m H → ((Itt K a).stop i H ∧ Q (.bl (!stopb)) H) ∨ ((Itt K a).go i H ∧ ∃ Nx : Hp → Prop, (∀ H', Nx H' → ∃ m', m' < m ∧ W (i + 1) m' H') ∧ ∀ x H', (Itt K a).yld i H x H' → g x (wipe σ vs) H' fun σ2 H2 => wipe σ2 vs = wipe σ vs ∧ tt σ2 H2 fun b H3 =>
      if b = true then te σ2 H3 fun y H4 => (y = .bl stopb ∧ Q (.bl stopb) H4) ∨ (y = .bl (!stopb) ∧ Nx H4) else Nx H3) := by
  refine ⟨fun i m H => i + m = xs.length ∧ Pv i H, ⟨xs.length, Nat.zero_add _, h0⟩, fun i m H ⟨e, p⟩ => ?_⟩
  have sq := hl i H (by omega) p
  cases m with
  | zero =>
    have ei : i = xs.length := by omega
    subst ei
    exact .inl ⟨⟨xs, sq, Nat.le_refl _⟩, hd H p⟩
  | succ m =>
    have lt : i < xs.length := by omega
    refine .inr ⟨⟨xs, xs[i], sq, List.getElem?_eq_getElem lt⟩, Pv (i + 1), fun H' q => ⟨m, Nat.lt_succ_self m, by omega, q⟩, fun x H' y => ?_⟩
    obtain ⟨rfl, y⟩ := y
    exact hs i x _ (y xs sq) p
section
variable {X : Cx} {pins : List (Addr × Obj)} {σ : L2.St} {H : Hp} {s : Shared} {c P : Addr} {elt tg iter : Expr} {ifs : List Expr} {scope : Scope} {own : List (Str × Nat)} {gpos : Pos} {wi : TI} {g : TG} {tt : TT} {te : TE} {stopb : Bool} {k : Nat}
/-- the scope of a generator expression: no cells of its own -/
structure GSc (scope : Scope) : Prop where
  co : scope.isCoroutine = false
  nc : ∀ y ∈ scope.names, y.2 ≠ .cell
  dot : scope.names.lookup (".0" : Str) = some NameKind.local
theorem gen_make {Q : VK} {Q' : Value → Shared → Prop} (hr : Room k X.A) (hc : X.calm = true) (hN : X.N.Nodup) (TB : TabB X.base X.mg c P) (hcode : X.env.code = .ref c) (hi : PI X tg iter wi) (ok : BlkOk X.N X.env.scope scope own) (S : GSc scope)
    (hg : ∀ (s : Shared) (H : Hp) (C : Addr) (code : Value) (it : Addr) (fp : List Addr) (pn : List (Addr × Obj)), PG (gCx X (.GeneratorExp elt [⟨tg, iter, ifs, 0⟩] scope gpos) s H (genEnv scope (cloFrom X.env.cells scope.names []) C code builtinsNs X.env) it fp pn) tg g)
    (ht : ∀ (s : Shared) (H : Hp) (C : Addr) (code : Value) (it : Addr) (fp : List Addr) (pn : List (Addr × Obj)), PTs (gCx X (.GeneratorExp elt [⟨tg, iter, ifs, 0⟩] scope gpos) s H (genEnv scope (cloFrom X.env.cells scope.names []) C code builtinsNs X.env) it fp pn) ifs tt)
    (he : ∀ (s : Shared) (H : Hp) (C : Addr) (code : Value) (it : Addr) (fp : List Addr) (pn : List (Addr × Obj)), PE (gCx X (.GeneratorExp elt [⟨tg, iter, ifs, 0⟩] scope gpos) s H (genEnv scope (cloFrom X.env.cells scope.names []) C code builtinsNs X.env) it fp pn) elt te)
    (hs : ∀ x, genFold iter X.env x = pure x) (I : Inv X pins σ H s) (h : tAA P stopb wi g tt te (own.map (·.2)) σ H Q)
    (hQ : ∀ (a : Addr) (go : Obj) (gn n : Nat) (Y : Cx) (fp : List Addr) (tn : Nat → Heap → Prop) (W : Nat → Nat → Hp → Prop) (s5 : Shared), (a, go) ∈ Y.pn → (∀ h : Heap, h.get? a = some go → h.IsGen a gn) → (∀ s' H', Inv Y [] (wipe σ (own.map (·.2))) H' s' → Inv X pins σ H' s') → s5.heap.get? a = some go →
      Asleep X Y (wipe σ (own.map (·.2))) fp tn W stopb Q gn n s5 → Q' (.ref a) s5) :
    wpAny (model X.prog X.w) X.A (eval (.GeneratorExp elt [⟨tg, iter, ifs, 0⟩] scope gpos) X.env) Q' X.xe s := by
  have hfree : ∀ y ∈ scope.names, y.2 = .free → ∃ c, X.env.cells.lookup y.1 = some c := fun y hy e => by
    rcases ok.free y hy e with z | z
    · exact I.ok.has _ (.inl z)
    · exact I.ok.has _ (.inr z)
  refine wpAny_GeneratorExp_make S.co (closure_ok hfree) S.nc S.dot ok.kind (by have := hr.dp; omega) (thn (hi.run pins s σ H _ I h) fun xv s1 hx => thn hx fun itv s2 h2 => ?_) hs
  obtain ⟨it, fp, tn, J, H2, rfl, I2, T, st2, f2, ⟨ps, hP, hT⟩, q⟩ := h2
  have hPs : s2.heap.get? P = some { cls := .none, data := .fields ps } := I2.hok P _ hP
  have cd : PySem.W.CodeHd s2.heap c P := TB.code.keeps I2.bk
  have szf : ∀ b ∈ fp, b < s2.heap.objs.size := fun b hb => by
    obtain ⟨o, e, _⟩ := T.obj _ _ st2 b hb
    exact Heap.lt_size e
  have nP : ∀ b ∈ fp, b ≠ P := fun b hb z => by
    have e := (f2 b hb).1
    rw [z, hP] at e
    cases e
  refine ⟨I2.nolimit, ?_⟩
  have cont : ∀ (code : Value) (h3 : Heap) (tk : Nat) (more : Array Value), Heap.ExtBut P s2.heap h3 → s2.heap.objs.size ≤ h3.objs.size → h3.get? P = some { cls := .none, data := .fields (ps ++ more) } → TriplesOk (ps ++ more).toList →
      wpAny (model X.prog X.w) X.A (builtinsFor X.env.globals X.env.builtins) (fun bi s4 => ∀ h', h'.Ns s4.heap.objs.size (fun y => if y = ".0" then some (.ref it) else none) → Heap.SameBut s4.heap.objs.size (s4.heap.push { cls := .type "frame", data := .dict #[] }) h' →
        Q' (.ref h'.objs.size) { s4 with
          gens := s4.gens.push (.fresh (.compStart (.GeneratorExp elt [⟨tg, iter, ifs, 0⟩] scope gpos) 0 (.ref it) .none (genEnv scope (cloFrom X.env.cells scope.names []) s4.heap.objs.size code bi X.env))),
          toks := s4.toks + 1 + 1 + 1,
          heap := h'.push { cls := .type "generator", data := .fields #[.int s4.gens.size 0, .str "<genexpr>" (s4.toks + 1), .str (X.env.qual ++ "<genexpr>") (s4.toks + 1 + 1)] } }) X.xe { s2 with heap := h3, toks := tk } := by
    intro code h3 tk more hx hsz hP3 hT3
    obtain ⟨bm, ob, e1, e2, e3, e4, e5, e6, e7, e8⟩ := TB.bm
    have I3 : Inv X pins σ (upd H2 P (.tbl (ps ++ more))) { s2 with heap := h3, toks := tk } := inv_tab (g' := s2.gens) (d' := s2.drawn) (t' := tk) I2 hP (fun b o hb e => hx b o hb e) hP3 I2.bare
    have f3 : ∀ b ∈ fp, FpOk X pins (upd H2 P (.tbl (ps ++ more))) b ∧ b < h3.objs.size := fun b hb => ⟨⟨by rw [upd_ne (nP b hb)]; exact (f2 b hb).1, (f2 b hb).2⟩, Nat.lt_of_lt_of_le (szf b hb) hsz⟩
    have st3 : tn 0 h3 := T.keep _ _ _ st2 fun b hb o e => hx b o (nP b hb) e
    obtain ⟨W, ⟨m0, w0⟩, turn⟩ := q (upd H2 P (.tbl (ps ++ more))) ⟨⟨_, upd_same, hT3⟩, fun b hb => upd_ne hb⟩
    refine wpAny_builtinsFor (m := X.mg) (by rw [I3.ok.glob]; exact I3.mod.glob.keeps I3.bk) e1 e2 (hx _ _ e4 (I2.bk _ _ e5)) e6 e7 e8 ?_
    intro h' hn' hs'
    have hsz' : h'.objs.size = h3.objs.size + 1 := by
      rw [hs'.1]
      exact Heap.size_push ..
    have kp : ∀ b o, h3.get? b = some o → (h'.push { cls := .type "generator", data := .fields #[.int s2.gens.size 0, .str "<genexpr>" (tk + 1), .str (X.env.qual ++ "<genexpr>") (tk + 1 + 1)] }).get? b = some o := fun b o e =>
      Heap.get?_push_of_some _ (hs'.extBut b o (Nat.ne_of_lt (Heap.lt_size e)) (Heap.get?_push_of_some _ e))
    have st5 := T.keep _ _ _ st3 fun b hb o e => kp b o e
    have nf : ∀ b ∈ fp, (upd H2 P (.tbl (ps ++ more))) b = none := fun b hb => (f3 b hb).1.1
    have IG := gen_start (ge := .GeneratorExp elt [⟨tg, iter, ifs, 0⟩] scope gpos) (it := it) (code := code) (tk := tk + 1 + 1 + 1)
      (gs := s2.gens.push (.fresh (.compStart (.GeneratorExp elt [⟨tg, iter, ifs, 0⟩] scope gpos) 0 (.ref it) .none (genEnv scope (cloFrom X.env.cells scope.names []) h3.objs.size code builtinsNs X.env)))) I3 hc ok hN S.nc f3
      (by show pushEnvs [_] (pushEnvs [] X.A.frames) = _; rw [I.ok.frames]; rfl) (I2.bare.push rfl) kp (hn'.keeps fun b o e => Heap.get?_push_of_some _ e) (Heap.get?_push_size h' rfl) (show h3.objs.size < h'.objs.size by omega) (fun v z => by cases z)
    refine hQ h'.objs.size _ s2.gens.size (m0 + 1) _ fp tn W _ List.mem_cons_self (fun h0 e => ?_) (fun s' H' J' => ?_) (Heap.get?_push_size h' rfl) ⟨_, _, Array.getElem?_push_size .., IG, fun s'' h1 h2 h3' => ?_⟩
    · exact ⟨_, _, _, e, rfl, rfl, rfl⟩
    · exact I3.call' (ch := fp) J'.os J'.base J'.hok J'.bare fun b hb => ⟨(f3 b hb).1.2.2.2.1, (f3 b hb).1.2.1, (f3 b hb).1.2.2.2.2.1, (f3 b hb).1.2.2.2.2.2⟩
    · refine ⟨rfl, gen_begin T (by rw [h1]; exact st5) ?_⟩
      refine gen_loop hc S.co T (fun p hp b hb z => ?_) (hg _ _ _ _ _ _ _) (ht _ _ _ _ _ _ _) (he _ _ _ _ _ _ _) turn m0 (m0 + 1) 0 s'' s'' _ (Nat.lt_succ_self _) w0 (inv_gens IG h1 h2 h3') (by rw [h1]; exact st5) nf
      rw [List.mem_singleton.mp hp] at z
      have z1 := (f3 b hb).2
      rw [← z] at z1
      have z2 : h'.objs.size < h3.objs.size := z1
      omega
  cases hf : codeAmong gpos ps.toList with
  | none =>
    refine wpAny_genexprCodeX hcode (cd.code hPs hT) (cd.tab hPs) hf fun c' h' tk hx hge hlt hco' _ htab' _ => ?_
    have tr : TriplesOk (ps ++ #[rawInt gpos.line, rawInt gpos.col, Value.ref c']).toList := by
      obtain ⟨_, _, _, _, _, _, _, _, _, _, _, _, _, _, _, _, _, _, _, z, _⟩ := hco'
      exact z
    exact cont _ h' tk _ hx (Nat.le_trans hge (Nat.le_of_lt hlt)) htab'.2 tr
  | some cv =>
    refine wpAny_genexprCode_hit hcode (cd.code hPs hT) hf ?_
    exact cont cv s2.heap s2.toks #[] (Heap.ExtBut.refl _ _) (Nat.le_refl _) (by rw [Array.append_empty]; exact hPs) (by rw [Array.append_empty]; exact hT)
theorem pe_any {p pos : Pos} (hr : Room k X.A) (hb : Gl X "any") (hm : X.mg "any" = none) (hc : X.calm = true) (hN : X.N.Nodup) (TB : TabB X.base X.mg c P) (hcode : X.env.code = .ref c) (hi : PI X tg iter wi) (ok : BlkOk X.N X.env.scope scope own) (S : GSc scope)
    (hg : ∀ (s : Shared) (H : Hp) (C : Addr) (code : Value) (it : Addr) (fp : List Addr) (pn : List (Addr × Obj)), PG (gCx X (.GeneratorExp elt [⟨tg, iter, ifs, 0⟩] scope gpos) s H (genEnv scope (cloFrom X.env.cells scope.names []) C code builtinsNs X.env) it fp pn) tg g)
    (ht : ∀ (s : Shared) (H : Hp) (C : Addr) (code : Value) (it : Addr) (fp : List Addr) (pn : List (Addr × Obj)), PTs (gCx X (.GeneratorExp elt [⟨tg, iter, ifs, 0⟩] scope gpos) s H (genEnv scope (cloFrom X.env.cells scope.names []) C code builtinsNs X.env) it fp pn) ifs tt)
    (he : ∀ (s : Shared) (H : Hp) (C : Addr) (code : Value) (it : Addr) (fp : List Addr) (pn : List (Addr × Obj)), PE (gCx X (.GeneratorExp elt [⟨tg, iter, ifs, 0⟩] scope gpos) s H (genEnv scope (cloFrom X.env.cells scope.names []) C code builtinsNs X.env) it fp pn) elt te)
    (hs : ∀ x, genFold iter X.env x = pure x := by intro _; rfl)
    (hst : starEach [.GeneratorExp elt [⟨tg, iter, ifs, 0⟩] scope gpos] X.env = (false, eval (.GeneratorExp elt [⟨tg, iter, ifs, 0⟩] scope gpos) X.env) :: starEach [] X.env := by rfl) :
    PE X (.Call (.Name "any" p) [.GeneratorExp elt [⟨tg, iter, ifs, 0⟩] scope gpos] [] pos) (tAA P true wi g tt te (own.map (·.2))) := by
  refine ⟨fun pins s σ H Q I h => wpAny_Call_Name_kw (ld_blt I hb hm boot_any (PyProof.Rows.callWith_builtin1 ?_ hst (by rfl)))⟩
  rw [hst]
  refine Calls.spliced_cons (gen_make hr hc hN TB hcode hi ok S hg ht he hs I h fun a go gn n Y fp tn W s5 h1 h2 h3 h4 SL => Calls.spliced_nil ?_)
  refine call_function_tree F.kind_any F.plain_any F.entry_any (F.args_any1 _) ?_
  unfold Builtin.«any»
  refine wpAny_bind (m := oneArg "any" _) (wpAny_pure (wpAny_bind (wpAny_pyIter_gen (h2 _ h4) (wpAny_pure ⟨plainId_quiet F.plain_any_loop _, ?_⟩))))
  exact any_loop (I.ok.hd hc) hr.depth h1 h2 (fun s' H' b J q => ⟨.bl b, H', h3 s' H' J, rfl, q⟩) n s5 SL
theorem pe_all {p pos : Pos} (hr : Room k X.A) (hb : Gl X "all") (hm : X.mg "all" = none) (hc : X.calm = true) (hN : X.N.Nodup) (TB : TabB X.base X.mg c P) (hcode : X.env.code = .ref c) (hi : PI X tg iter wi) (ok : BlkOk X.N X.env.scope scope own) (S : GSc scope)
    (hg : ∀ (s : Shared) (H : Hp) (C : Addr) (code : Value) (it : Addr) (fp : List Addr) (pn : List (Addr × Obj)), PG (gCx X (.GeneratorExp elt [⟨tg, iter, ifs, 0⟩] scope gpos) s H (genEnv scope (cloFrom X.env.cells scope.names []) C code builtinsNs X.env) it fp pn) tg g)
    (ht : ∀ (s : Shared) (H : Hp) (C : Addr) (code : Value) (it : Addr) (fp : List Addr) (pn : List (Addr × Obj)), PTs (gCx X (.GeneratorExp elt [⟨tg, iter, ifs, 0⟩] scope gpos) s H (genEnv scope (cloFrom X.env.cells scope.names []) C code builtinsNs X.env) it fp pn) ifs tt)
    (he : ∀ (s : Shared) (H : Hp) (C : Addr) (code : Value) (it : Addr) (fp : List Addr) (pn : List (Addr × Obj)), PE (gCx X (.GeneratorExp elt [⟨tg, iter, ifs, 0⟩] scope gpos) s H (genEnv scope (cloFrom X.env.cells scope.names []) C code builtinsNs X.env) it fp pn) elt te)
    (hs : ∀ x, genFold iter X.env x = pure x := by intro _; rfl)
    (hst : starEach [.GeneratorExp elt [⟨tg, iter, ifs, 0⟩] scope gpos] X.env = (false, eval (.GeneratorExp elt [⟨tg, iter, ifs, 0⟩] scope gpos) X.env) :: starEach [] X.env := by rfl) :
    PE X (.Call (.Name "all" p) [.GeneratorExp elt [⟨tg, iter, ifs, 0⟩] scope gpos] [] pos) (tAA P false wi g tt te (own.map (·.2))) := by
  refine ⟨fun pins s σ H Q I h => wpAny_Call_Name_kw (ld_blt I hb hm (show bootBuiltins "all" = some (.builtin "all") by decide +kernel) (PyProof.Rows.callWith_builtin1 ?_ hst (by rfl)))⟩
  rw [hst]
  refine Calls.spliced_cons (gen_make hr hc hN TB hcode hi ok S hg ht he hs I h fun a go gn n Y fp tn W s5 h1 h2 h3 h4 SL => Calls.spliced_nil ?_)
  refine call_function_tree F.kind_all F.plain_all F.entry_all (F.args_all1 _) ?_
  unfold Builtin.«all»
  refine wpAny_bind (m := oneArg "all" _) (wpAny_pure (wpAny_bind (wpAny_pyIter_gen (h2 _ h4) (wpAny_pure ⟨plainId_quiet F.plain_all_loop _, ?_⟩))))
  exact all_loop (I.ok.hd hc) hr.depth h1 h2 (fun s' H' b J q => ⟨.bl b, H', h3 s' H' J, rfl, q⟩) n s5 SL
end
end Gx
namespace Dr
open PySem PySem.Spec PyProof.Rows L2
/-! ### the drawing of numbers: smixed, sdraw, sopen -/
def topS (i : Nat) : Stmt := PySem.Challenge.pw_sparecut_k23_rows_of_trees.main.body.getD i (.Pass ⟨0, 0, 0, 0⟩)
abbrev sMix : Stmt := topS 30
abbrev sDrw : Stmt := topS 31
abbrev sOpn : Stmt := topS 32
theorem scMix : FnScope ["cell", "at", "one", "two", "three"] ["cell", "at"] (defScope sMix) := ⟨rfl, rfl, rfl, by decide +kernel, rfl, by decide +kernel, by decide +kernel⟩
theorem scDrw : FnScope ["feed", "many", "at", "cell", "digit"] ["feed", "many"] (defScope sDrw) := ⟨rfl, rfl, rfl, by decide +kernel, rfl, by decide +kernel, by decide +kernel⟩
theorem scOpn : FnScope ["script"] ["script"] (defScope sOpn) := ⟨rfl, rfl, rfl, by decide +kernel, rfl, by decide +kernel, by decide +kernel⟩
/-- what lies at f: cells (at c), a place, a rest; at most B cells were taken -/
def Feed (H : Hp) (f c : Addr) (B : Nat) : Prop := ∃ (ns : List Int) (n : Nat) (r : Int),
  H f = some (.lst [.ref c, .int n, .int r]) ∧ H c = some (.lst (ns.map V.int)) ∧ ns.length ≤ 60 ∧ n ≤ B
/-- all but f is as it was -/
def But (f : Addr) (H H' : Hp) : Prop := ∀ b, b ≠ f → H' b = H b
theorem But.refl (f : Addr) (H : Hp) : But f H H := fun _ _ => rfl
theorem But.trans {f : Addr} {H H1 H2 : Hp} (a : But f H H1) (b : But f H1 H2) : But f H H2 := fun x n => (b x n).trans (a x n)
theorem Feed.mono {H : Hp} {f c : Addr} {B B' : Nat} (h : Feed H f c B) (l : B ≤ B') : Feed H f c B' := by
  obtain ⟨ns, n, r, h1, h2, h3, h4⟩ := h
  exact ⟨ns, n, r, h1, h2, h3, Nat.le_trans h4 l⟩
theorem Feed.same {H H' : Hp} {f c : Addr} {B : Nat} (h : Feed H f c B) (s : Same H H') : Feed H' f c B := by
  obtain ⟨ns, n, r, h1, h2, h3, h4⟩ := h
  exact ⟨ns, n, r, s _ _ h1, s _ _ h2, h3, h4⟩
theorem Feed.upd {H : Hp} {f c D : Addr} {B : Nat} {o : HO} (h : Feed H f c B) (nf : D ≠ f) (nc : D ≠ c) : Feed (upd H D o) f c B := by
  obtain ⟨ns, n, r, h1, h2, h3, h4⟩ := h
  exact ⟨ns, n, r, by rw [upd_ne (Ne.symm nf)]; exact h1, by rw [upd_ne (Ne.symm nc)]; exact h2, h3, h4⟩
theorem Feed.nf {H : Hp} {f c D : Addr} {B : Nat} (h : Feed H f c B) (n : H D = none) : D ≠ f := by
  obtain ⟨_, _, _, h1, _⟩ := h
  exact Ne.symm (ne_of_none h1 n)
theorem Feed.nc {H : Hp} {f c D : Addr} {B : Nat} (h : Feed H f c B) (n : H D = none) : D ≠ c := by
  obtain ⟨_, _, _, _, h2, _⟩ := h
  exact Ne.symm (ne_of_none h2 n)
theorem feed_ne {H : Hp} {f c : Addr} {ns : List Int} {a : V} {as : List V} (h1 : H f = some (.lst (.ref c :: as))) (h2 : H c = some (.lst (ns.map V.int))) : c ≠ f := by
  intro e
  rw [e, h1] at h2
  have z := HO.lst.inj (Option.some.inj h2)
  cases ns with
  | nil => cases z
  | cons x r => cases z
section
variable {P : Program} {w : World} {K : PySem.W.Frag} {mg : Str → Option Value} {base : Heap}
def spMix : Sp := fun vs H Q _ => ∃ (c : Int) (n : Nat), vs = [.int c, .int n] ∧ n ≤ 2 ^ 60 ∧ ∀ r : Int, Q (.int r) H
theorem ok_mix {f : Addr} {fd : FuncData} {k : Nat} (F : Fun K "_law_smixed" "_law_smixed" sMix f fd) : FnOk P w K mg base CX0 (k + 1) f fd ["cell", "at"] spMix := by
  refine F.ok scMix (fun vs H Q E h => ?_) (fun cdv A outer s H vs Q E hr h => ?_)
  · obtain ⟨c, n, rfl, _⟩ := h
    rfl
  · obtain ⟨c, n, rfl, hn, q⟩ := h
    refine ⟨_, pss_cons (ps_set (i := 2) scMix.nd rfl (.inl rfl) (pe_op op_mod (pe_op op_add (pe_op op_add (pe_op op_mul (pe_op op_mod (pv 0) pe_int) pe_int) (pe_op op_mul (pv 1) pe_int)) pe_int) pe_int))
      (pss_cons (ps_set (i := 3) scMix.nd rfl (.inl rfl) (pe_op op_mod (pe_op op_add (pe_op op_add (pe_op op_mul (pv 2) (pv 2)) (pe_op op_mul (pe_op op_mul (pv 1) (pv 1)) pe_int)) pe_int) pe_int))
      (pss_cons (ps_set (i := 4) scMix.nd rfl (.inl rfl) (pe_op op_mod (pe_op op_add (pe_op op_add (pe_op op_mul (pv 3) (pv 3)) (pv 2)) (pv 1)) pe_int))
      (pss_one (ps_ret (pe_op op_add (pe_op op_mul (pe_op op_add (pe_op op_mul (pv 4) pe_int) (pv 3)) pe_int) (pv 2)))))), ?_⟩
    refine ⟨_, rfl, _, _, rfl, rfl, by show (0 : Int) < 2147483647; decide, _, _, rfl, rfl, .inr ⟨by decide, by decide⟩, _, rfl, _, _, rfl, rfl, .inr ⟨by decide, by decide⟩, _, _, rfl, rfl, _, _, rfl, rfl, _, _, rfl, rfl, by show (0 : Int) < 2147483629; decide, ?_⟩
    generalize e1 : (c % 2147483647 * 48271 + (n : Int) * 7919 + 11) % 2147483629 = one
    have o1 : 0 ≤ one := by rw [← e1]; exact Int.emod_nonneg _ (by decide)
    have o2 : one < 2147483629 := by rw [← e1]; exact Int.emod_lt_of_pos _ (by decide)
    refine ⟨_, rfl, _, rfl, _, _, rfl, rfl, .inl ⟨by omega, by omega⟩, _, rfl, _, rfl, _, _, rfl, rfl, .inl ⟨by omega, by omega⟩, _, _, rfl, rfl, .inr ⟨by decide, by decide⟩, _, _, rfl, rfl, _, _, rfl, rfl, _, _, rfl, rfl, by show (0 : Int) < 2147483587; decide, ?_⟩
    generalize e2 : (one * one + (n : Int) * (n : Int) * 31 + 5) % 2147483587 = two
    have t1 : 0 ≤ two := by rw [← e2]; exact Int.emod_nonneg _ (by decide)
    have t2 : two < 2147483587 := by rw [← e2]; exact Int.emod_lt_of_pos _ (by decide)
    refine ⟨_, rfl, _, rfl, _, _, rfl, rfl, .inl ⟨by omega, by omega⟩, _, rfl, _, _, rfl, rfl, _, rfl, _, _, rfl, rfl, _, _, rfl, rfl, by show (0 : Int) < 2147483563; decide, ?_⟩
    exact ⟨_, rfl, _, _, rfl, rfl, .inr ⟨by decide, by decide⟩, _, rfl, _, _, rfl, rfl, _, _, rfl, rfl, .inr ⟨by decide, by decide⟩, _, rfl, _, _, rfl, rfl, q _⟩
/-- sdraw(feed, many): any number from 0 to many - 1 -/
def spDrw : Sp := fun vs H Q _ => ∃ (f c : Addr) (m : Int) (B : Nat), vs = [.ref f, .int m] ∧ 0 < m ∧ m < 2 ^ 29 ∧ Feed H f c B ∧ B ≤ 2 ^ 59 ∧
  ∀ (d : Int) (H' : Hp), 0 ≤ d → d < m → Feed H' f c (B + 1) → But f H H' → Q (.int d) H'
theorem ok_drw {f fM : Addr} {fd fdM : FuncData} {k : Nat} (F : Fun K "_law_sdraw" "_law_sdraw" sDrw f fd) (FM : Fun K "_law_smixed" "_law_smixed" sMix fM fdM) (bM : Binds K fdM ["cell", "at"] []) (gM : mg "_law_smixed" = some (.ref fM)) (ml : mg "len" = none) :
    FnOk P w K mg base CX0 (k + 2) f fd ["feed", "many"] spDrw := by
  have GM : FnOk P w K mg base CX0 1 fM fdM ["cell", "at"] spMix := ok_mix FM
  refine F.ok scDrw (fun vs H Q E h => ?_) (fun cdv A outer s H vs Q E hr h => ?_)
  · obtain ⟨f, c, m, B, rfl, _⟩ := h
    rfl
  · obtain ⟨f, c, m, B, rfl, m0, m1, hF, hB, q⟩ := h
    have hr1 : Room 1 _ := hr.mono (by omega)
    refine ⟨_, Evl.pss_cut (ps_if (pt_cmpR op_lt (pe_ix ix_list (pv 0) pe_int (fun _ _ => rfl)) (pv 1) (nomark _))
        (pss_cons (ps_set (i := 2) scDrw.nd rfl (.inl rfl) (pe_ix ix_list (pv 0) pe_int (fun _ _ => rfl)))
        (pss_cons (ps_set (i := 3) scDrw.nd rfl (.inl rfl) (pe_op op_mul (pv 2) pe_int))
        (Evl.pss_cut (ps_if (pt_cmpR op_gt (pe_callB call_len_seq (by rfl) ml PySem.boot_len (pa_cons (pe_ix ix_list (pv 0) pe_int (fun _ _ => rfl)) pa_nil)) pe_int (nomark _))
            (pss_one (ps_set (i := 3) scDrw.nd rfl (.inl rfl) (pe_ix ix_list (pe_ix ix_list (pv 0) pe_int (fun _ _ => rfl)) (pe_op op_mod (pv 2) (pe_callB call_len_seq (by rfl) ml PySem.boot_len (pa_cons (pe_ix ix_list (pv 0) pe_int (fun _ _ => rfl)) pa_nil))) (fun _ _ => rfl)))) pss_nil)
        (pss_cons (ps_asg (pe_op op_add (pv 2) pe_int) (pg_sub (pv 0) pe_int set_list))
        (Evl.pss_cut (ps_asg (pv 3) (pg_sub (pv 0) pe_int set_list))
        (pss_one (ps_if (PW.pt (pw_or (pt_cmpR op_lt (pv 3) (pe_op op_pow pe_int pe_int) (nomark _)) (pw_or1 (pt_cmpR op_ge (pv 2) (pe_callB call_len_seq (by rfl) ml PySem.boot_len (pa_cons (pe_ix ix_list (pv 0) pe_int (fun _ _ => rfl)) pa_nil)) (nomark _)))))
          (pss_one (ps_asg (pe_call GM hr1 (by rfl) gM FM.kp bM .nil pass0 (pa_cons (pv 3) (pa_cons (pv 2) pa_nil))) (pg_sub (pv 0) pe_int set_list))) pss_nil)))))))
        pss_nil)
      (pss_cons (ps_set (i := 4) scDrw.nd rfl (.inl rfl) (pe_op op_mod (pe_ix ix_list (pv 0) pe_int (fun _ _ => rfl)) (pv 1)))
      (pss_cons (ps_asg (pe_op op_fdiv (pe_ix ix_list (pv 0) pe_int (fun _ _ => rfl)) (pv 1)) (pg_sub (pv 0) pe_int set_list))
      (pss_one (ps_ret (pv 4))))), ?_⟩
    obtain ⟨ns, n, r, h1, h2, h3, h4⟩ := hF
    have hcf : c ≠ f := feed_ne (a := .non) h1 h2
    have hS : SqL K H f [.ref c, .int n, .int r] := .of h1
    have hC : SqL K H c (ns.map V.int) := .of h2
    refine Evl.q_cut (M := fun σ' H' => ∃ (y2 y3 : Option V) (n' : Nat) (r' : Int), σ' = [some (.ref f), some (.int m), y2, y3, none] ∧ H' f = some (.lst [.ref c, .int n', .int r']) ∧ n' ≤ B + 1 ∧ But f H H') ?_ ?_
    · refine ⟨.ref f, rfl, f, _, 2, _, rfl, rfl, hS, rfl, .int m, rfl, _, _, rfl, rfl, _, rfl, ite2 (fun e => ?_) (fun e => ?_)⟩
      · refine ⟨.ref f, rfl, f, _, 1, _, rfl, rfl, hS, rfl, ?_⟩
        refine ⟨_, rfl, _, _, rfl, rfl, .inr ⟨by decide, by decide⟩, ?_⟩
        refine Evl.q_cut (M := fun σ' H' => ∃ (z : Int), σ' = [some (.ref f), some (.int m), some (.int n), some (.int z), none] ∧ H' = H) ?_ ?_
        · refine ⟨.ref f, rfl, f, _, 0, _, rfl, rfl, hS, rfl, c, _, rfl, .inl hC, _, _, rfl, rfl, _, rfl, ite2 (fun e => ?_) (fun e => ?_)⟩
          · have l0 : 0 < ns.length := by
              have z : (0 : Int) < ((ns.map V.int).length : Int) := of_decide_eq_true e
              rw [List.length_map] at z
              omega
            have l1 : n % ns.length < ns.length := Nat.mod_lt _ l0
            refine ⟨.ref f, rfl, f, _, 0, _, rfl, rfl, hS, rfl, _, rfl, .ref f, rfl, f, _, 0, _, rfl, rfl, hS, rfl, c, _, rfl, .inl hC, _, _, rfl, rfl, ?_, c, _, _, .int (ns[n % ns.length]), rfl, rfl, hC, ?_, ?_⟩
            · show (0 : Int) < ((ns.map V.int).length : Int)
              rw [List.length_map]
              omega
            · refine at_of (j := n % ns.length) ?_ ?_
              · rw [List.length_map]
                exact (Int.natCast_emod n ns.length).symm
              · rw [List.getElem?_map, List.getElem?_eq_getElem l1]
                rfl
            · exact ⟨_, rfl, rfl⟩
          · exact ⟨_, rfl, rfl⟩
        · rintro σ' H' ⟨z, rfl, rfl⟩
          refine ⟨_, rfl, _, _, rfl, rfl, _, rfl, f, _, 1, 1, rfl, rfl, h1, rfl, ?_⟩
          refine Evl.q_cut (M := fun σ' H2 => σ' = [some (.ref f), some (.int m), some (.int n), some (.int z), none] ∧ But f H' H2 ∧ H2 f = some (.lst [.ref c, .int ((n + 1 : Nat) : Int), .int z])) ?_ ?_
          · refine ⟨_, rfl, _, rfl, f, _, 2, 2, rfl, rfl, upd_same, rfl, rfl, fun b nb => ?_, upd_same⟩
            rw [upd_ne nb, upd_ne nb]
          rintro σ' H2 ⟨rfl, b2, f2⟩
          have hS2 : SqL K H2 f [.ref c, .int ((n + 1 : Nat) : Int), .int z] := .of f2
          have hC2 : SqL K H2 c (ns.map V.int) := .of ((b2 c hcf).trans h2)
          have mix : ∀ D : Ends, D.nx = (fun σ' H'' => ∃ (y2 y3 : Option V) (n' : Nat) (r' : Int), σ' = [some (.ref f), some (.int m), y2, y3, none] ∧ H'' f = some (.lst [.ref c, .int n', .int r']) ∧ n' ≤ B + 1 ∧ But f H' H'') →
              tAsg (tCall spMix [] E0 (tCons (tVar 3) (tCons (tVar 2) tNil))) (gSub (tVar 0) (tC (.int 2)) rSetL) D [some (.ref f), some (.int m), some (.int n), some (.int z), none] H2 := by
            intro D hD
            refine ⟨_, rfl, _, rfl, z, n, rfl, by omega, fun r2 => ?_⟩
            refine ⟨_, rfl, f, _, 2, 2, rfl, rfl, f2, rfl, ?_⟩
            rw [hD]
            exact ⟨_, _, n + 1, r2, rfl, upd_same, by omega, fun b nb => by rw [upd_ne nb]; exact b2 b nb⟩
          refine ⟨_, rfl, _, _, rfl, rfl, ⟨by decide, by decide, by decide⟩, _, _, rfl, rfl, _, rfl, ite2 (fun e => ?_) (fun e => ?_)⟩
          · exact iteT (mix _ rfl)
          · refine ⟨_, rfl, .ref f, rfl, f, _, 0, _, rfl, rfl, hS2, rfl, c, _, rfl, .inl hC2, _, _, rfl, rfl, _, rfl, ite2 (fun e => ?_) (fun e => ?_)⟩
            · exact mix _ rfl
            · exact ⟨_, _, n + 1, z, rfl, f2, by omega, b2⟩
      · exact ⟨none, none, n, r, rfl, h1, by omega, But.refl f H⟩
    · rintro σ' H' ⟨y2, y3, n', r', rfl, f1, ln, b1⟩
      have hS1 : SqL K H' f [.ref c, .int n', .int r'] := .of f1
      refine ⟨.ref f, rfl, f, _, 2, _, rfl, rfl, hS1, rfl, .int m, rfl, _, _, rfl, rfl, m0, ?_⟩
      refine ⟨.ref f, rfl, f, _, 2, _, rfl, rfl, hS1, rfl, .int m, rfl, _, _, rfl, rfl, ⟨m0, by omega⟩, .ref f, rfl, f, _, 2, 2, rfl, rfl, f1, rfl, ?_⟩
      refine ⟨_, rfl, q (r' % m) _ (Int.emod_nonneg _ (by omega)) (Int.emod_lt_of_pos _ m0) ⟨ns, n', r' / m, upd_same, ?_, h3, ln⟩ fun b nb => ?_⟩
      · rw [upd_ne hcf, b1 c hcf]
        exact h2
      · rw [upd_ne nb]
        exact b1 b nb
/-- sopen(script) -/
def spOpn (K : PySem.W.Frag) : Sp := fun vs H Q _ => ∃ (a : Addr) (ns : List Int), vs = [.ref a] ∧ SqL K H a (ns.map V.int) ∧ ∀ (f c : Addr) (H' : Hp), H f = none → H c = none → Same H H' → Feed H' f c 0 → Q (.ref f) H'
theorem cut60 (ns : List Int) : cutV (ns.map V.int) none (some 60) = (ns.take 60).map V.int := by
  unfold cutV
  rw [HT.sIx_none, show HT.sIx (ns.map V.int).length (ns.map V.int).length (some 60) = min 60 (ns.map V.int).length from HT.sIx_nat _ _ 60]
  rw [List.drop_zero, Nat.sub_zero, List.map_take, List.length_map]
  by_cases h : ns.length ≤ 60
  · rw [Nat.min_eq_right h, List.take_of_length_le (by rw [List.length_map]; exact Nat.le_refl _), List.take_of_length_le (by rw [List.length_map]; exact h)]
  · rw [Nat.min_eq_left (by omega)]
theorem same_upd {H : Hp} {p : Addr} {o : HO} (h : H p = none) : Same H (upd H p o) := fun b x e => by
  rw [upd_ne (ne_of_none e h)]
  exact e
theorem ok_opn {f : Addr} {fd : FuncData} {k : Nat} (F : Fun K "_law_sopen" "_law_sopen" sOpn f fd) (ml : mg "list" = none) : FnOk P w K mg base CX0 (k + 1) f fd ["script"] (spOpn K) := by
  refine F.ok scOpn (fun vs H Q E h => ?_) (fun cdv A outer s H vs Q E hr h => ?_)
  · obtain ⟨a, ns, rfl, _⟩ := h
    rfl
  · obtain ⟨a, ns, rfl, hS, q⟩ := h
    refine ⟨_, pss_one (ps_ret (pe_lst (pa_cons (pe_callTy call_list_of (by rfl) ml (by decide +kernel) (pa_cons (pe_slice sl_list (pv 0) po_none (po_some pe_int)) pa_nil)) (pa_cons pe_int (pa_cons pe_int pa_nil))))), ?_⟩
    refine ⟨.ref a, rfl, 60, rfl, a, _, rfl, hS, fun c nc => ?_⟩
    refine ⟨c, _, rfl, .inl (.of upd_same), fun d nd => ?_⟩
    refine ⟨by show 3 ≤ sizeLine; decide, fun p np => ?_⟩
    have s1 : Same H (upd H c (.lst (cutV (ns.map V.int) none (some 60)))) := same_upd nc
    have s2 := s1.trans (same_upd (o := .lst (cutV (ns.map V.int) none (some 60))) nd)
    have s3 := s2.trans (same_upd (o := .lst [.ref d, .int 0, .int 0]) np)
    refine q p d _ (s2.free np) (s1.free nd) s3 ⟨ns.take 60, 0, 0, upd_same, ?_, ?_, Nat.le_refl _⟩
    · have ndp : d ≠ p := ne_of_none (upd_same (H := upd H c (.lst (cutV (ns.map V.int) none (some 60)))) (a := d) (o := .lst (cutV (ns.map V.int) none (some 60)))) np
      rw [upd_ne ndp, upd_same, cut60]
    · rw [List.length_take]
      omega
end
end Dr
namespace Kp
open PySem PySem.Spec PyProof.Rows L2 GxR Nw Dr
/-! ### what a call leaves as it was: all but the feed (F) and the tables of code objects -/
structure Ke (F : Addr → Prop) (H H' : Hp) : Prop where
  keep : ∀ b o, H b = some o → (∀ ps, o ≠ .tbl ps) → ¬ F b → H' b = some o
  tabs : ∀ P, TabG H P → TabG H' P
  tups : ∀ b xs, H b = some (.tup xs) → H' b = some (.tup xs)
abbrev Nof : Addr → Prop := fun _ => False
variable {F G : Addr → Prop} {H H1 H2 H' : Hp} {f c P : Addr} {B : Nat}
theorem Ke.refl (F : Addr → Prop) (H : Hp) : Ke F H H := ⟨fun _ _ h _ _ => h, fun _ h => h, fun _ _ h => h⟩
theorem Ke.trans (a : Ke F H H1) (b : Ke F H1 H2) : Ke F H H2 := ⟨fun x o h n m => b.keep x o (a.keep x o h n m) n m, fun Q h => b.tabs Q (a.tabs Q h), fun x xs h => b.tups x xs (a.tups x xs h)⟩
theorem Ke.mono (a : Ke F H H1) (h : ∀ b, F b → G b) : Ke G H H1 := ⟨fun x o e n m => a.keep x o e n fun z => m (h x z), a.tabs, a.tups⟩
theorem Ke.all (a : Ke Nof H H1) : Ke F H H1 := a.mono fun _ z => z.elim
theorem Ke.same (s : Same H H1) : Ke F H H1 := ⟨fun b o e _ _ => s b o e, fun Q ⟨ps, h, t⟩ => ⟨ps, s _ _ h, t⟩, fun b xs e => s _ _ e⟩
theorem Ke.lst {a : Addr} {xs : List V} (k : Ke F H H1) (h : H a = some (.lst xs)) (n : ¬ F a) : H1 a = some (.lst xs) := k.keep a _ h (fun ps z => by cases z) n
theorem Ke.tabbed (t : TabG H P) (x : Tabbed P H H1) : Ke F H H1 := by
  obtain ⟨ps, hP, _⟩ := t
  have nP : ∀ b o, H b = some o → (∀ qs, o ≠ .tbl qs) → b ≠ P := fun b o e n z => by
    rw [z, hP] at e
    exact n ps (Option.some.inj e).symm
  refine ⟨fun b o e n _ => (x.2 b (nP b o e n)).trans e, fun Q hQ => ?_, fun b xs e => (x.2 b (nP b _ e fun qs z => by cases z)).trans e⟩
  by_cases hq : Q = P
  · rw [hq]
    exact x.1
  · obtain ⟨qs, h1, h2⟩ := hQ
    exact ⟨qs, (x.2 Q hq).trans h1, h2⟩
theorem Ke.but (h : Feed H f c B) (b : But f H H1) : Ke (· = f) H H1 := by
  obtain ⟨ns, n, r, h1, _⟩ := h
  refine ⟨fun x o e _ m => (b x m).trans e, fun Q ⟨qs, e, t⟩ => ⟨qs, (b Q fun z => ?_).trans e, t⟩, fun x xs e => (b x fun z => ?_).trans e⟩
  · rw [z, h1] at e
    cases e
  · rw [z, h1] at e
    cases e
/-- a write to an object of ours that was new behind H -/
theorem Ke.upd {p : Addr} {o : HO} (k : Ke F H H1) (n : H p = none) : Ke F H (upd H1 p o) := by
  refine ⟨fun b x e t m => ?_, fun Q hQ => ?_, fun b xs e => ?_⟩
  · rw [upd_ne (ne_of_none e n)]
    exact k.keep b x e t m
  · obtain ⟨ps, e, t⟩ := hQ
    obtain ⟨qs, e2, t2⟩ := k.tabs Q ⟨ps, e, t⟩
    exact ⟨qs, by rw [upd_ne (ne_of_none e n)]; exact e2, t2⟩
  · rw [upd_ne (ne_of_none e n)]
    exact k.tups b xs e
theorem Ke.feed (k : Ke Nof H H1) (h : Feed H f c B) : Feed H1 f c B := by
  obtain ⟨ns, n, r, h1, h2, h3, h4⟩ := h
  exact ⟨ns, n, r, k.lst h1 (fun z => z), k.lst h2 (fun z => z), h3, h4⟩
/-- p holds nothing that H knows (but a table, perhaps) -/
def Frs (H : Hp) (p : Addr) : Prop := ∀ b o, H b = some o → (∀ ps, o ≠ .tbl ps) → b ≠ p
theorem Frs.of {p : Addr} (h : H p = none) : Frs H p := fun b o e _ => ne_of_none e h
theorem Frs.ke {p : Addr} (k : Ke (· = f) H H1) (hF : Feed H1 f c B) (h : Frs H1 p) : Frs H p := fun b o e n => by
  by_cases hb : b = f
  · obtain ⟨_, _, _, h1, _⟩ := hF
    rw [hb]
    exact h f _ h1 fun ps z => by cases z
  · exact h b o (k.keep b o e n hb) n
theorem Frs.ke0 {p : Addr} (k : Ke Nof H H1) (h : Frs H1 p) : Frs H p := fun b o e n => h b o (k.keep b o e n fun z => z) n
theorem Ke.write {p : Addr} {xs : List V} {o : HO} (k : Ke F H H1) (fr : Frs H p) (h1 : H1 p = some (.lst xs)) : Ke F H (L2.upd H1 p o) := by
  refine ⟨fun b x e t m => ?_, fun Q hQ => ?_, fun b ys e => ?_⟩
  · rw [upd_ne (fr b x e t)]
    exact k.keep b x e t m
  · obtain ⟨qs, e2, t2⟩ := k.tabs Q hQ
    have n : Q ≠ p := fun z => by
      rw [z, h1] at e2
      cases e2
    exact ⟨qs, by rw [upd_ne n]; exact e2, t2⟩
  · rw [upd_ne (fr b _ e fun ps z => by cases z)]
    exact k.tups b ys e
/-- whole numbers in a tuple, truths in a tuple -/
def TupI (H : Hp) (v : V) (ns : List Int) : Prop := ∃ a, v = .ref a ∧ H a = some (.tup (ns.map V.int))
def TupB (H : Hp) (v : V) (bs : List Bool) : Prop := ∃ a, v = .ref a ∧ H a = some (.tup (bs.map V.bl))
def LstI (H : Hp) (v : V) (ns : List Int) : Prop := ∃ a, v = .ref a ∧ H a = some (.lst (ns.map V.int))
/-- a tuple of claims -/
def Bk (H : Hp) (v : V) (css : List (List Int)) : Prop := ∃ a vs, v = .ref a ∧ H a = some (.tup vs) ∧ vs.length = css.length ∧ ∀ (i : Nat) (x : V) (cs : List Int), vs[i]? = some x → css[i]? = some cs → TupI H x cs
theorem TupI.ke {v : V} {ns : List Int} (h : TupI H v ns) (k : Ke F H H1) : TupI H1 v ns := by
  obtain ⟨a, e, h⟩ := h
  exact ⟨a, e, k.tups _ _ h⟩
theorem TupB.ke {v : V} {ns : List Bool} (h : TupB H v ns) (k : Ke F H H1) : TupB H1 v ns := by
  obtain ⟨a, e, h⟩ := h
  exact ⟨a, e, k.tups _ _ h⟩
theorem Bk.ke {v : V} {css : List (List Int)} (h : Bk H v css) (k : Ke F H H1) : Bk H1 v css := by
  obtain ⟨a, vs, e, h, l, t⟩ := h
  exact ⟨a, vs, e, k.tups _ _ h, l, fun i x cs h1 h2 => (t i x cs h1 h2).ke k⟩
/-! ### claims -/
def rising : List Int → Bool
  | a :: b :: r => decide (a < b) && rising (b :: r)
  | _ => true
structure IsCl (cs : List Int) : Prop where
  up : cs.Pairwise (· < ·)
  says : ∀ k ∈ cs, k ≠ 0 ∧ -8 ≤ k ∧ k ≤ 8
  opp : ∀ k ∈ cs, -k ∉ cs
  len : cs.length ≤ 8
theorem IsCl.nil : IsCl [] := { up := .nil, says := fun _ h => (nomatch h), opp := fun _ h => (nomatch h), len := by decide }
end Kp
namespace Se
open PySem PySem.Spec PyProof.Rows L2 GxR Nw Dr Kp
/-- a def of the text whose code object stands at c -/
structure FunC (K : PySem.W.Frag) (x qual : Str) (st : Stmt) (f c : Addr) (fd : FuncData) : Prop where
  ex : ∃ (oc : Value) (od : Option Addr) (kV doc pm : Value) (an : Option Addr) (ct : Value) (osl : Array (Option Value)), fd = PySem.W.fnOf x qual (defArgs st) (defBody st) (defScope st) .none kV doc pm an (.ref c) ct ∧ K.lookup f = some ⟨oc, od, .func fd, osl⟩ ∧ PySem.W.codeIn K (.ref c) qual = true
  kp : PySem.W.keepIn K (.ref f) = true
section
variable {P : Program} {w : World} {K : PySem.W.Frag} {mg : Str → Option Value} {base : Heap}
theorem FunC.fn {x qual : Str} {st : Stmt} {f c : Addr} {fd : FuncData} (F : FunC K x qual st f c fd) : Fun K x qual st f fd := by
  obtain ⟨oc, od, kV, doc, pm, an, ct, osl, e, l, cd⟩ := F.ex
  exact ⟨⟨oc, od, kV, doc, pm, an, .ref c, ct, osl, e, l, cd⟩, F.kp⟩
theorem FunC.ok {x qual : Str} {st : Stmt} {f c : Addr} {fd : FuncData} {N ps : List Str} {k : Nat} {sp : Sp} (F : FunC K x qual st f c fd) (S : FnScope N ps (defScope st)) (len : ∀ vs H Q E, sp vs H Q E → vs.length = ps.length)
    (body : ∀ (A : Around) (outer : List Env) (s : Shared) (H : Hp) (vs : List V) (Q : VK) (E : XK), Room k (A.deeper (envOfC qual (defScope st) s.heap.objs.size f (.ref c))) → sp vs H Q E →
      ∃ t, PSs (cxOf CX0 P w K mg base N qual (defScope st) f (.ref c) A outer s H E).nox (defBody st) t ∧ t { nx := fun _ H' => Q .non H', rt := Q } (start N vs) H) : FnOk P w K mg base CX0 (k + 1) f fd ps sp := by
  obtain ⟨oc, od, kV, doc, pm, an, ct, osl, rfl, lk, hcd⟩ := F.ex
  refine fn_of lk hcd S len fun A outer s H vs Q E hr hsp => ?_
  obtain ⟨t, h, q⟩ := body A outer s H vs Q E hr hsp
  exact ⟨t, h.nox, q⟩
end
end Se
namespace Sl
open PySem PySem.Spec PyProof.Rows L2
theorem filter_take {α : Type} {f : α → Bool} {l : List α} {i : Nat} {x : α} (h : l[i]? = some x) : (l.take (i + 1)).filter f = (l.take i).filter f ++ (if f x = true then [x] else []) := by
  rw [List.take_add_one, h, List.filter_append]
  congr 1
  show List.filter f [x] = _
  cases e : f x with
  | true => rw [List.filter_cons_of_pos e]; rfl
  | false => rw [List.filter_cons_of_neg (by rw [e]; decide)]; rfl
theorem filter_all {α : Type} (f : α → Bool) (l : List α) : decide (V.int ((l.filter (fun x => !f x)).length : Int) = V.int 0) = l.all f := by
  cases e : l.all f with
  | true =>
    have z : l.filter (fun x => !f x) = [] := List.filter_eq_nil_iff.mpr fun x hx h => by
      have := List.all_eq_true.mp e x hx
      rw [this] at h
      cases h
    rw [z]
    rfl
  | false =>
    obtain ⟨x, hx, h⟩ := List.all_eq_false.mp e
    have := List.length_pos_of_mem (List.mem_filter (p := fun x => !f x).mpr ⟨hx, (by cases g : f x with | true => exact absurd g h | false => rfl : (!f x) = true)⟩)
    exact decide_eq_false fun z => by
      have := V.int.inj z
      omega
end Sl
namespace Cl
open PySem PySem.Spec PyProof.Rows L2 GxR Nw Dr Kp
abbrev sThg : Stmt := topS 33
abbrev sClm : Stmt := topS 34
abbrev sBok : Stmt := topS 35
theorem scThg : FnScope ["feed", "least", "most", "left", "many", "some", "turn"] ["feed", "least", "most"] (defScope sThg) := ⟨rfl, rfl, rfl, by decide +kernel, rfl, by decide +kernel, by decide +kernel⟩
theorem scClm : FnScope ["feed", "things", "most", "left", "says", "turn", "thing"] ["feed", "things", "most"] (defScope sClm) := ⟨rfl, rfl, rfl, by decide +kernel, rfl, by decide +kernel, by decide +kernel⟩
theorem scBok : FnScope ["feed", "things", "most", "claims", "turn", "claim"] ["feed", "things", "most"] (defScope sBok) := ⟨rfl, rfl, rfl, by decide +kernel, rfl, by decide +kernel, by decide +kernel⟩
/-- the built-ins that stand as they stood -/
structure Zs (mg : Str → Option Value) : Prop where
  z_len : mg "len" = none
  z_list : mg "list" = none
  z_range : mg "range" = none
  z_min : mg "min" = none
  z_tuple : mg "tuple" = none
  z_sorted : mg "sorted" = none
/-- things: numbers from 1 to 8, none twice -/
structure Thg (ks : List Int) : Prop where
  nd : ks.Nodup
  one : ∀ k ∈ ks, 1 ≤ k ∧ k ≤ 8
  len : ks.length ≤ 8
theorem perm_pop : ∀ {l : List Int} {d : Nat} {y : Int}, l[d]? = some y → (y :: l.eraseIdx d).Perm l
  | [], _, _, h => by simp at h
  | a :: r, 0, y, h => by
    have e : a = y := Option.some.inj h
    subst e
    exact .refl _
  | a :: r, d + 1, y, h => by
    have ih := perm_pop (l := r) (d := d) (y := y) h
    exact (List.Perm.swap a y _).trans (.cons a ih)
theorem erase_len {l : List Int} {d : Nat} (h : d < l.length) : (l.eraseIdx d).length = l.length - 1 := List.length_eraseIdx_of_lt h
theorem erase_map : ∀ (l : List Int) (d : Nat), (l.map V.int).eraseIdx d = (l.eraseIdx d).map V.int
  | [], _ => rfl
  | _ :: _, 0 => rfl
  | a :: r, d + 1 => congrArg (V.int a :: ·) (erase_map r d)
theorem ix_seq {d : Int} {n : Nat} (h0 : 0 ≤ d) (h1 : d < (n : Int)) : seqIndex? d n = some d.toNat := by
  have e : ixN n d = some d.toNat := by
    unfold ixN
    rw [if_pos h0, if_pos h1]
  exact (ixN_seq e).1
section
variable {P : Program} {w : World} {K : PySem.W.Frag} {mg : Str → Option Value} {base : Heap} {fD fM : Addr} {fdD fdM : FuncData}
def spThg : Sp := fun vs H Q _ => ∃ (f c : Addr) (l m : Int) (B : Nat), vs = [.ref f, .int l, .int m] ∧ 1 ≤ l ∧ l ≤ m ∧ m ≤ 8 ∧ Feed H f c B ∧ B ≤ 2 ^ 58 ∧
  ∀ (ks : List Int) (p : Addr) (H' : Hp), Feed H' f c (B + 10) → Ke (· = f) H H' → Frs H p → H' p = some (.lst (ks.map V.int)) → Thg ks → l ≤ ks.length → (ks.length : Int) ≤ m → Q (.ref p) H'
theorem ok_thg {f : Addr} {fd : FuncData} {k : Nat} (F : Fun K "_law_sthings" "_law_sthings" sThg f fd) (T : Zs mg) (FD : Fun K "_law_sdraw" "_law_sdraw" sDrw fD fdD) (bD : Binds K fdD ["feed", "many"] []) (gD : mg "_law_sdraw" = some (.ref fD)) (GD : FnOk P w K mg base CX0 2 fD fdD ["feed", "many"] spDrw) :
    FnOk P w K mg base CX0 (k + 3) f fd ["feed", "least", "most"] spThg := by
  refine F.ok scThg (fun vs H Q E h => ?_) (fun cdv A outer s H vs Q E hr h => ?_)
  · obtain ⟨f, c, l, m, B, rfl, _⟩ := h
    rfl
  · obtain ⟨f, c, l, m, B, rfl, l0, lm, m8, hF, hB, q⟩ := h
    have hr2 : Room 2 _ := hr.mono (by omega)
    refine ⟨_, (pss_cons (ps_set (i := 3) scThg.nd rfl (.inl rfl) (pe_lstN (pa_cons pe_int (pa_cons pe_int (pa_cons pe_int (pa_cons pe_int (pa_cons pe_int (pa_cons pe_int (pa_cons pe_int (pa_cons pe_int pa_nil))))))))))
      (Evl.pss_cut (ps_set (i := 4) scThg.nd rfl (.inl rfl) (pe_op op_add (pv 1) (pe_call GD hr2 (by rfl) gD FD.kp bD .nil pass0 (pa_cons (pv 0) (pa_cons (pe_op op_sub (pe_op op_add (pv 2) pe_int) (pv 1)) pa_nil)))))
      (pss_cons (ps_set (i := 5) scThg.nd rfl (.inl rfl) (pe_lstN pa_nil))
      (pss_cons (ps_for PassesOwn.never rfl (pi_range1 (by rfl) T.z_range (pa_cons (pv 4) pa_nil)) (pg_name (i := 6) scThg.nd rfl (.inl rfl)) (pss_one (ps_expr (pe_bm PySem.F.plainAttrs_list PySem.F.slot_list_append PySem.F.type_list_append mt_append (pv 5) (pa_cons (pe_bm PySem.F.plainAttrs_list PySem.F.slot_list_pop PySem.F.type_list_pop mt_popAt (pv 3) (pa_cons (pe_call GD hr2 (by rfl) gD FD.kp bD .nil pass0 (pa_cons (pv 0) (pa_cons (pe_callB call_len_seq (by rfl) T.z_len (by decide +kernel) (pa_cons (pv 3) pa_nil)) pa_nil))) pa_nil)) pa_nil)))))
      (pss_one (ps_ret (pv 5))))))), ?_⟩
    refine ⟨by show 8 ≤ sizeLine; decide, fun L H1 nL s1 hL _ => ?_⟩
    have nLf : L ≠ f := hF.nf nL
    have nLc : L ≠ c := hF.nc nL
    refine Evl.q_cut (M := fun σ' H' => ∃ n : Nat, σ' = [some (.ref f), some (.int l), some (.int m), some (.ref L), some (.int n), none, none] ∧ l ≤ n ∧ (n : Int) ≤ m ∧ Feed H' f c (B + 1) ∧ Ke (· = f) H H' ∧ H' L = some (.lst (([1, 2, 3, 4, 5, 6, 7, 8] : List Int).map V.int))) ?_ ?_
    · have F1 : Feed H1 f c B := hF.same s1
      refine ⟨_, rfl, _, rfl, _, rfl, _, _, rfl, rfl, _, rfl, _, _, rfl, rfl, f, c, _, B, rfl, by omega, by omega, F1, by omega, fun d H2 d0 d1 F2 b2 => ?_⟩
      refine ⟨_, _, rfl, rfl, (l + d).toNat, ?_, by omega, by omega, F2, (Ke.same s1).trans (.but F1 b2), (b2 L nLf).trans hL⟩
      rw [Int.toNat_of_nonneg (by omega)]
      rfl
    rintro σ' H2 ⟨n, rfl, ln, nm, F2, k2, hL2⟩
    refine ⟨Nat.zero_le _, fun S H3 nS s3 hS _ => ?_⟩
    have nSL : S ≠ L := Ne.symm (ne_of_none hL2 nS)
    have nSf : S ≠ f := F2.nf nS
    have nSc : S ≠ c := F2.nc nS
    have frS : Frs H S := .ke k2 F2 (.of nS)
    have frL : Frs H L := .of nL
    refine ⟨_, rfl, n, rfl, by omega, by omega, for_range (Pv := fun i σ H' => ∃ (y6 : Option V) (left ks : List Int), σ = [some (.ref f), some (.int l), some (.int m), some (.ref L), some (.int n), some (.ref S), y6] ∧ Feed H' f c (B + 1 + i) ∧ Ke (· = f) H H' ∧ H' L = some (.lst (left.map V.int)) ∧ H' S = some (.lst (ks.map V.int)) ∧
      left.length = 8 - i ∧ ks.length = i ∧ (ks ++ left).Perm [1, 2, 3, 4, 5, 6, 7, 8]) ?_ ?_ ?_⟩
    · exact ⟨none, _, [], rfl, F2.same s3, k2.trans (.same s3), s3 _ _ hL2, hS, rfl, rfl, .refl _⟩
    · rintro i σ H' hi ⟨y6, left, ks, rfl, F4, k4, hL4, hS4, ll, lk, pm⟩
      have hi : i < n := by simpa using hi
      refine ⟨_, rfl, .inl ⟨rfl, _, .of hS4⟩, _, rfl, .inl ⟨rfl, _, .of hL4⟩, _, rfl, _, rfl, L, _, rfl, .inl (.of hL4), f, c, _, B + 1 + i, rfl, ?_, ?_, F4, by omega, fun d H5 d0 d1 F5 b5 => ?_⟩
      · rw [List.length_map]
        omega
      · rw [List.length_map]
        omega
      rw [List.length_map] at d1
      have dl : d.toNat < left.length := by omega
      have hL5 : H5 L = some (.lst (left.map V.int)) := (b5 L nLf).trans hL4
      have hS5 : H5 S = some (.lst (ks.map V.int)) := (b5 S nSf).trans hS4
      have k5 : Ke (· = f) H H5 := k4.trans (.but F4 b5)
      refine ⟨L, _, d, d.toNat, .int left[d.toNat], rfl, rfl, hL5, by omega, by omega, by rw [List.length_map]; exact ix_seq d0 d1, by rw [List.getElem?_map, List.getElem?_eq_getElem dl]; rfl, ?_⟩
      refine ⟨S, _, _, rfl, rfl, by rw [upd_ne nSL]; exact hS5, by rw [List.length_map]; exact small1000 (by omega), ?_⟩
      refine ⟨_, left.eraseIdx d.toNat, ks ++ [left[d.toNat]], rfl, ((F5.upd nLf nLc).upd nSf nSc).mono (by omega), (k5.write frL hL5).write frS (by rw [upd_ne nSL]; exact hS5), ?_, ?_, ?_, ?_, ?_⟩
      · rw [upd_ne (Ne.symm nSL), upd_same, erase_map]
      · rw [upd_same, List.map_append]
        rfl
      · rw [erase_len dl]
        omega
      · rw [List.length_append, lk]
        rfl
      · refine List.Perm.trans ?_ pm
        rw [List.append_assoc]
        exact (List.Perm.refl ks).append (perm_pop (List.getElem?_eq_getElem dl))
    · rintro σ H' ⟨y6, left, ks, rfl, F4, k4, hL4, hS4, ll, lk, pm⟩
      have lk' : ks.length = n := by simpa using lk
      have nd : (ks ++ left).Nodup := pm.nodup_iff.mpr (by decide)
      refine ⟨_, rfl, q ks S H' (F4.mono (by omega)) k4 frS hS4 ⟨(List.nodup_append.mp nd).1, fun k hk => ?_, by omega⟩ (by omega) (by omega)⟩
      have hm : k ∈ ([1, 2, 3, 4, 5, 6, 7, 8] : List Int) := pm.mem_iff.mp (List.mem_append_left _ hk)
      simp only [List.mem_cons, List.not_mem_nil, or_false] at hm
      omega
/-- sclaim(feed, things, most) -/
def spClm : Sp := fun vs H Q _ => ∃ (f c t : Addr) (m : Int) (B : Nat) (ks : List Int), vs = [.ref f, .ref t, .int m] ∧ 0 ≤ m ∧ m ≤ 8 ∧ H t = some (.lst (ks.map V.int)) ∧ Thg ks ∧ Feed H f c B ∧ B ≤ 2 ^ 58 ∧
  ∀ (cs : List Int) (p : Addr) (H' : Hp), Feed H' f c (B + 20) → Ke (· = f) H H' → Frs H p → H' p = some (.tup (cs.map V.int)) → IsCl cs → (∀ s ∈ cs, (s.natAbs : Int) ∈ ks) → (cs.length : Int) ≤ m → Q (.ref p) H'
theorem abs_nd : ∀ {l : List Int}, (l.map fun s => (s.natAbs : Int)).Nodup → l.Nodup ∧ ∀ k ∈ l, k ≠ 0 → -k ∉ l := fun {l} h => by
  refine ⟨(List.pairwise_map.mp h).imp (fun {a b} z e => z (by rw [e])), fun k hk h0 hn => ?_⟩
  have inj : ∀ a ∈ l, ∀ b ∈ l, (a.natAbs : Int) = b.natAbs → a = b := fun a ha b hb e => by
    obtain ⟨i, hi, ei⟩ := List.getElem_of_mem ha
    obtain ⟨j, hj, ej⟩ := List.getElem_of_mem hb
    have hij : (l.map fun s => (s.natAbs : Int))[i]'(by rw [List.length_map]; exact hi) = (l.map fun s => (s.natAbs : Int))[j]'(by rw [List.length_map]; exact hj) := by
      rw [List.getElem_map, List.getElem_map, ei, ej]
      exact e
    have := (List.getElem_inj h).mp hij
    subst this
    rw [← ei, ← ej]
  have := inj k hk (-k) hn (by omega)
  omega
theorem cl_of {says left ks ns : List Int} (T : Thg ks) (pm : ((says.map fun s => (s.natAbs : Int)) ++ left).Perm ks) (pn : ns.Perm says) (so : ns.Pairwise (· ≤ ·)) : IsCl ns ∧ ∀ s ∈ ns, (s.natAbs : Int) ∈ ks := by
  have nd := (List.nodup_append.mp (pm.nodup_iff.mpr T.nd)).1
  obtain ⟨n1, n2⟩ := abs_nd nd
  have mem : ∀ s ∈ ns, (s.natAbs : Int) ∈ ks := fun s hs => pm.mem_iff.mp (List.mem_append_left _ (List.mem_map.mpr ⟨s, pn.mem_iff.mp hs, rfl⟩))
  have nn : ns.Nodup := pn.nodup_iff.mpr n1
  have bd : ∀ s ∈ ns, s ≠ 0 ∧ -8 ≤ s ∧ s ≤ 8 := fun s hs => by
    have := T.one _ (mem s hs)
    omega
  refine ⟨⟨?_, bd, fun k hk hn => n2 k (pn.mem_iff.mp hk) (bd k hk).1 (pn.mem_iff.mp hn), ?_⟩, mem⟩
  · have := List.Pairwise.and so nn
    exact this.imp fun {a b} h => by
      obtain ⟨h1, h2⟩ := h
      omega
  · have l1 := pn.length_eq
    have l2 := pm.length_eq
    rw [List.length_append, List.length_map] at l2
    have := T.len
    omega
theorem ok_clm {f : Addr} {fd : FuncData} {k : Nat} (F : Fun K "_law_sclaim" "_law_sclaim" sClm f fd) (T : Zs mg) (FD : Fun K "_law_sdraw" "_law_sdraw" sDrw fD fdD) (bD : Binds K fdD ["feed", "many"] []) (gD : mg "_law_sdraw" = some (.ref fD)) (GD : FnOk P w K mg base CX0 2 fD fdD ["feed", "many"] spDrw) :
    FnOk P w K mg base CX0 (k + 3) f fd ["feed", "things", "most"] spClm := by
  refine F.ok scClm (fun vs H Q E h => ?_) (fun cdv A outer s H vs Q E hr h => ?_)
  · obtain ⟨f, c, t, m, B, ks, rfl, _⟩ := h
    rfl
  · obtain ⟨f, c, t, m, B, ks, rfl, m0, m8, ht, Tk, hF, hB, q⟩ := h
    have hr2 : Room 2 _ := hr.mono (by omega)
    refine ⟨_, (Evl.pss_cut (ps_set (i := 3) scClm.nd rfl (.inl rfl) (pe_callTy call_list_ofN (by rfl) T.z_list (by decide +kernel) (pa_cons (pv 1) pa_nil)))
      (pss_cons (ps_set (i := 4) scClm.nd rfl (.inl rfl) (pe_lstN pa_nil))
      (Evl.pss_cut (ps_for PassesOwn.never rfl (pi_range1 (by rfl) T.z_range (pa_cons (pe_callB (call_min2 rfl) (by rfl) T.z_min (by decide +kernel) (pa_cons (pe_callB call_len_seq (by rfl) T.z_len (by decide +kernel) (pa_cons (pv 3) pa_nil)) (pa_cons (pe_call GD hr2 (by rfl) gD FD.kp bD .nil pass0 (pa_cons (pv 0) (pa_cons (pe_op op_add (pv 2) pe_int) pa_nil))) pa_nil))) pa_nil)) (pg_name (i := 5) scClm.nd rfl (.inl rfl)) (pss_cons (ps_set (i := 6) scClm.nd rfl (.inl rfl) (pe_bm PySem.F.plainAttrs_list PySem.F.slot_list_pop PySem.F.type_list_pop mt_popAt (pv 3) (pa_cons (pe_call GD hr2 (by rfl) gD FD.kp bD .nil pass0 (pa_cons (pv 0) (pa_cons (pe_callB call_len_seq (by rfl) T.z_len (by decide +kernel) (pa_cons (pv 3) pa_nil)) pa_nil))) pa_nil)))
      (pss_one (ps_expr (pe_bm PySem.F.plainAttrs_list PySem.F.slot_list_append PySem.F.type_list_append mt_append (pv 4) (pa_cons (pe_ix ix_list (pe_lstN (pa_cons (pv 6) (pa_cons (pe_op op_sub pe_int (pv 6)) pa_nil))) (pe_call GD hr2 (by rfl) gD FD.kp bD .nil pass0 (pa_cons (pv 0) (pa_cons pe_int pa_nil))) (fun _ _ => rfl)) pa_nil))))))
      (pss_one (ps_ret (pe_callTy call_tuple_ofN (by rfl) T.z_tuple (by decide +kernel) (pa_cons (pe_callB cr_sortedN (by rfl) T.z_sorted (by decide +kernel) (pa_cons (pv 4) pa_nil)) pa_nil))))))), ?_⟩
    -- left
    refine Evl.q_cut (M := fun σ' H' => ∃ L, σ' = [some (.ref f), some (.ref t), some (.int m), some (.ref L), none, none, none] ∧ H L = none ∧ Same H H' ∧ H' L = some (.lst (ks.map V.int))) ?_ ?_
    · exact ⟨_, rfl, t, _, rfl, .inl (.of ht), fun L H1 nL s1 hL _ => ⟨L, rfl, nL, s1, hL⟩⟩
    rintro σ' H1 ⟨L, rfl, nL, s1, hL⟩
    refine ⟨Nat.zero_le _, fun S H2 nS s2 hS _ => ?_⟩
    have F2 : Feed H2 f c B := hF.same (s1.trans s2)
    have nLf : L ≠ f := hF.nf nL
    have nLc : L ≠ c := hF.nc nL
    have nSL : S ≠ L := Ne.symm (ne_of_none hL nS)
    have nSf : S ≠ f := (hF.same s1).nf nS
    have nSc : S ≠ c := (hF.same s1).nc nS
    have frL : Frs H L := .of nL
    have frS : Frs H S := .of (s1.free nS)
    have hL2 : H2 L = some (.lst (ks.map V.int)) := s2 _ _ hL
    -- the loop
    refine Evl.q_cut (M := fun σ' H' => ∃ (y5 y6 : Option V) (left says : List Int), σ' = [some (.ref f), some (.ref t), some (.int m), some (.ref L), some (.ref S), y5, y6] ∧ Feed H' f c (B + 20) ∧ Ke (· = f) H H' ∧ H' S = some (.lst (says.map V.int)) ∧ (says.length : Int) ≤ m ∧ ((says.map fun s => (s.natAbs : Int)) ++ left).Perm ks) ?_ ?_
    · refine ⟨_, rfl, L, _, rfl, .inl (.of hL2), _, rfl, _, rfl, _, _, rfl, rfl, f, c, _, B, rfl, by omega, by omega, F2, by omega, fun d H3 d0 d1 F3 b3 => ?_⟩
      refine ⟨_, _, rfl, ?_⟩
      generalize hn : (if d < ((ks.map V.int).length : Int) then d else ((ks.map V.int).length : Int)) = n
      have n0 : 0 ≤ n ∧ n ≤ m ∧ n ≤ ks.length := by
        rw [List.length_map] at hn
        split at hn <;> omega
      have tl := Tk.len
      have hL3 : H3 L = some (.lst (ks.map V.int)) := (b3 L nLf).trans hL2
      have hS3 : H3 S = some (.lst (([] : List Int).map V.int)) := (b3 S nSf).trans hS
      have k3 : Ke (· = f) H H3 := (Ke.same (s1.trans s2)).trans (.but F2 b3)
      refine ⟨n, rfl, by omega, by omega, for_range (Pv := fun i σ H' => ∃ (y5 y6 : Option V) (left says : List Int), σ = [some (.ref f), some (.ref t), some (.int m), some (.ref L), some (.ref S), y5, y6] ∧ Feed H' f c (B + 1 + 2 * i) ∧ Ke (· = f) H H' ∧ H' L = some (.lst (left.map V.int)) ∧ H' S = some (.lst (says.map V.int)) ∧
        left.length = ks.length - i ∧ says.length = i ∧ ((says.map fun s => (s.natAbs : Int)) ++ left).Perm ks) ?_ ?_ ?_⟩
      · exact ⟨none, none, ks, [], rfl, F3, k3, hL3, hS3, rfl, rfl, .refl _⟩
      · rintro i σ H' hi ⟨y5, y6, left, says, rfl, F4, k4, hL4, hS4, ll, ls, pm⟩
        have hi : i < n.toNat := hi
        refine ⟨_, rfl, .inl ⟨rfl, _, .of hL4⟩, _, rfl, _, rfl, L, _, rfl, .inl (.of hL4), f, c, _, B + 1 + 2 * i, rfl, ?_, ?_, F4, by omega, fun d H5 d0 d1 F5 b5 => ?_⟩
        · rw [List.length_map]
          omega
        · rw [List.length_map]
          omega
        rw [List.length_map] at d1
        have dl : d.toNat < left.length := by omega
        have hL5 : H5 L = some (.lst (left.map V.int)) := (b5 L nLf).trans hL4
        have hS5 : H5 S = some (.lst (says.map V.int)) := (b5 S nSf).trans hS4
        have k5 : Ke (· = f) H H5 := k4.trans (.but F4 b5)
        refine ⟨L, _, d, d.toNat, .int left[d.toNat], rfl, rfl, hL5, by omega, by omega, by rw [List.length_map]; exact ix_seq d0 d1, by rw [List.getElem?_map, List.getElem?_eq_getElem dl]; rfl, ?_⟩
        have pp := perm_pop (List.getElem?_eq_getElem dl)
        have y1 := Tk.one left[d.toNat] (pm.mem_iff.mp (List.mem_append_right _ (List.getElem_mem dl)))
        generalize left[d.toNat] = y at pp y1
        have F6 : Feed (upd H5 L (.lst ((left.map V.int).eraseIdx d.toNat))) f c (B + 1 + 2 * i + 1) := F5.upd nLf nLc
        have k6 : Ke (· = f) H (upd H5 L (.lst ((left.map V.int).eraseIdx d.toNat))) := k5.write frL hL5
        have hL6 : (upd H5 L (.lst ((left.map V.int).eraseIdx d.toNat))) L = some (.lst ((left.eraseIdx d.toNat).map V.int)) := by rw [upd_same, erase_map]
        have hS6 : (upd H5 L (.lst ((left.map V.int).eraseIdx d.toNat))) S = some (.lst (says.map V.int)) := by rw [upd_ne nSL]; exact hS5
        generalize (upd H5 L (.lst ((left.map V.int).eraseIdx d.toNat))) = H6 at F6 k6 hL6 hS6 ⊢
        -- says.append([thing, 0 - thing][..])
        refine ⟨_, rfl, .inl ⟨rfl, _, .of hS6⟩, _, rfl, _, rfl, _, _, rfl, rfl, by show 2 ≤ sizeLine; decide, fun p H7 np s7 hp _ => ?_⟩
        refine ⟨_, rfl, f, c, 2, B + 1 + 2 * i + 1, rfl, by decide, by decide, F6.same s7, by omega, fun e H8 e0 e1 F8 b8 => ?_⟩
        have npf : p ≠ f := F6.nf np
        have hp8 := (b8 p npf).trans hp
        have hS8 : H8 S = some (.lst (says.map V.int)) := (b8 S nSf).trans (s7 _ _ hS6)
        have hL8 : H8 L = some (.lst ((left.eraseIdx d.toNat).map V.int)) := (b8 L nLf).trans (s7 _ _ hL6)
        have k8 : Ke (· = f) H H8 := (k6.trans (.same s7)).trans (.but (F6.same s7) b8)
        have two : e = 0 ∨ e = 1 := by omega
        have go : ∀ z : Int, (z.natAbs : Int) = y → ((says ++ [z]).map (fun s => (s.natAbs : Int)) ++ left.eraseIdx d.toNat).Perm ks := fun z hz => by
          refine List.Perm.trans ?_ pm
          rw [List.map_append, List.append_assoc, List.map_singleton, hz]
          exact (List.Perm.refl _).append pp
        rcases two with rfl | rfl
        · refine ⟨p, _, 0, .int y, rfl, rfl, .of hp8, rfl, S, _, _, rfl, rfl, hS8, by rw [List.length_map]; exact small1000 (by omega), ?_⟩
          refine ⟨_, _, left.eraseIdx d.toNat, says ++ [y], rfl, (F8.upd nSf nSc).mono (by omega), k8.write frS hS8, by rw [upd_ne (Ne.symm nSL)]; exact hL8, by rw [upd_same, List.map_append]; rfl, by rw [erase_len dl]; omega, by rw [List.length_append, ls]; rfl, go y (by omega)⟩
        · refine ⟨p, _, 1, .int (0 - y), rfl, rfl, .of hp8, rfl, S, _, _, rfl, rfl, hS8, by rw [List.length_map]; exact small1000 (by omega), ?_⟩
          refine ⟨_, _, left.eraseIdx d.toNat, says ++ [0 - y], rfl, (F8.upd nSf nSc).mono (by omega), k8.write frS hS8, by rw [upd_ne (Ne.symm nSL)]; exact hL8, by rw [upd_same, List.map_append]; rfl, by rw [erase_len dl]; omega, by rw [List.length_append, ls]; rfl, go (0 - y) (by omega)⟩
      · rintro σ H' ⟨y5, y6, left, says, rfl, F4, k4, hL4, hS4, ll, ls, pm⟩
        exact ⟨y5, y6, left, says, rfl, F4.mono (by omega), k4, hS4, by omega, pm⟩
    rintro σ' H3 ⟨y5, y6, left, says, rfl, F3, k3, hS3, ls, pm⟩
    refine ⟨_, rfl, S, says, rfl, .of hS3, fun ns pn so p H4 np s4 hp _ => ?_⟩
    refine ⟨p, _, rfl, .of hp, fun p2 H5 np2 s5 hp2 _ => ?_⟩
    obtain ⟨h1, h2⟩ := cl_of Tk pm pn so
    refine q ns p2 H5 (F3.same (s4.trans s5)) (k3.trans (.same (s4.trans s5))) (.ke k3 F3 (.of (s4.free np2))) hp2 h1 h2 ?_
    rw [pn.length_eq]
    exact ls
/-- the claims css are of the things ks -/
def Of (ks : List Int) (cs : List Int) : Prop := IsCl cs ∧ ∀ s ∈ cs, (s.natAbs : Int) ∈ ks
/-- a list of claims as it grows -/
def Ls (H : Hp) (L : Addr) (css : List (List Int)) : Prop := ∃ vs, H L = some (.lst vs) ∧ vs.length = css.length ∧ ∀ (i : Nat) (x : V) (cs : List Int), vs[i]? = some x → css[i]? = some cs → TupI H x cs
theorem ix_append {α β : Type} {R : α → β → Prop} {vs : List α} {ys : List β} {v : α} {y : β} (l : vs.length = ys.length) (h : ∀ (i : Nat) (x : α) (z : β), vs[i]? = some x → ys[i]? = some z → R x z) (r : R v y) :
    ∀ (i : Nat) (x : α) (z : β), (vs ++ [v])[i]? = some x → (ys ++ [y])[i]? = some z → R x z := by
  intro i x z h1 h2
  by_cases hi : i < vs.length
  · rw [List.getElem?_append_left hi] at h1
    rw [List.getElem?_append_left (by omega)] at h2
    exact h i x z h1 h2
  · have e : i = vs.length := by
      have := (List.getElem?_eq_some_iff.mp h1).1
      rw [List.length_append, List.length_singleton] at this
      omega
    subst e
    rw [List.getElem?_append_right (Nat.le_refl _), Nat.sub_self] at h1
    rw [List.getElem?_append_right (by omega), show vs.length - ys.length = 0 by omega] at h2
    cases h1
    cases h2
    exact r
/-- sbook(feed, things, most) -/
def spBok : Sp := fun vs H Q _ => ∃ (f c t : Addr) (m : Int) (B : Nat) (ks : List Int), vs = [.ref f, .ref t, .int m] ∧ 1 ≤ m ∧ m ≤ 16 ∧ H t = some (.lst (ks.map V.int)) ∧ Thg ks ∧ ks ≠ [] ∧ t ≠ f ∧ Feed H f c B ∧ B ≤ 2 ^ 57 ∧
  ∀ (css : List (List Int)) (p : Addr) (H' : Hp), Feed H' f c (B + 500) → Ke (· = f) H H' → Frs H p → Bk H' (.ref p) css → (∀ cs ∈ css, Of ks cs) → 1 ≤ css.length → (css.length : Int) ≤ m → Q (.ref p) H'
theorem ok_bok {f fC : Addr} {fd fdC : FuncData} {k : Nat} (F : Fun K "_law_sbook" "_law_sbook" sBok f fd) (T : Zs mg) (FD : Fun K "_law_sdraw" "_law_sdraw" sDrw fD fdD) (bD : Binds K fdD ["feed", "many"] []) (gD : mg "_law_sdraw" = some (.ref fD)) (GD : FnOk P w K mg base CX0 2 fD fdD ["feed", "many"] spDrw)
    (FC : Fun K "_law_sclaim" "_law_sclaim" sClm fC fdC) (bC : Binds K fdC ["feed", "things", "most"] []) (gC : mg "_law_sclaim" = some (.ref fC)) (GC : FnOk P w K mg base CX0 3 fC fdC ["feed", "things", "most"] spClm) :
    FnOk P w K mg base CX0 (k + 4) f fd ["feed", "things", "most"] spBok := by
  refine F.ok scBok (fun vs H Q E h => ?_) (fun cdv A outer s H vs Q E hr h => ?_)
  · obtain ⟨f, c, t, m, B, ks, rfl, _⟩ := h
    rfl
  · obtain ⟨f, c, t, m, B, ks, rfl, m0, m8, ht, Tk, kn, ntf, hF, hB, q⟩ := h
    have hr2 : Room 2 _ := hr.mono (by omega)
    have hr3 : Room 3 _ := hr.mono (by omega)
    refine ⟨_, (pss_cons (ps_set (i := 3) scBok.nd rfl (.inl rfl) (pe_lstN pa_nil))
      (Evl.pss_cut (ps_for PassesOwn.never rfl (pi_range1 (by rfl) T.z_range (pa_cons (pe_op op_add pe_int (pe_call GD hr2 (by rfl) gD FD.kp bD .nil pass0 (pa_cons (pv 0) (pa_cons (pv 2) pa_nil)))) pa_nil)) (pg_name (i := 4) scBok.nd rfl (.inl rfl)) (Evl.pss_cut (ps_set (i := 5) scBok.nd rfl (.inl rfl) (pe_call GC hr3 (by rfl) gC FC.kp bC .nil pass0 (pa_cons (pv 0) (pa_cons (pv 1) (pa_cons (pe_ix ix_list (pe_lstN (pa_cons pe_int (pa_cons pe_int (pa_cons pe_int (pa_cons pe_int pa_nil))))) (pe_call GD hr2 (by rfl) gD FD.kp bD .nil pass0 (pa_cons (pv 0) (pa_cons pe_int pa_nil))) (fun _ _ => rfl)) pa_nil)))))
      (Evl.pss_cut (ps_if (PW.pt (pw_and (pt_cmpR (op_eqD hr.units) (pv 5) (pe_tupN pa_nil) (nomark _)) (pw_and1 (pt_cmpR op_gt (pe_call GD hr2 (by rfl) gD FD.kp bD .nil pass0 (pa_cons (pv 0) (pa_cons pe_int pa_nil))) pe_int (nomark _))))) (pss_one (ps_set (i := 5) scBok.nd rfl (.inl rfl) (pe_tupN (pa_cons (pe_ix ix_list (pv 1) pe_int (fun _ _ => rfl)) pa_nil)))) pss_nil)
      (pss_one (ps_expr (pe_bm PySem.F.plainAttrs_list PySem.F.slot_list_append PySem.F.type_list_append mt_append (pv 3) (pa_cons (pv 5) pa_nil)))))))
      (pss_one (ps_ret (pe_callTy call_tuple_ofN (by rfl) T.z_tuple (by decide +kernel) (pa_cons (pv 3) pa_nil)))))), ?_⟩
    refine ⟨Nat.zero_le _, fun L H1 nL s1 hL _ => ?_⟩
    have nLf : L ≠ f := hF.nf nL
    have nLc : L ≠ c := hF.nc nL
    have frL : Frs H L := .of nL
    have nLt : L ≠ t := Ne.symm (ne_of_none ht nL)
    obtain ⟨k0, kr, rfl⟩ : ∃ k0 kr, ks = k0 :: kr := by
      cases ks with
      | nil => exact absurd rfl kn
      | cons a r => exact ⟨a, r, rfl⟩
    have hk0 := Tk.one k0 List.mem_cons_self
    have of0 : Of (k0 :: kr) [k0] := by
      refine ⟨⟨.cons (fun _ h => (nomatch h)) .nil, fun k hk => ?_, fun k hk hn => ?_, by show 1 ≤ 8; decide⟩, fun s hs => ?_⟩
      · rw [List.mem_singleton.mp hk]
        omega
      · rw [List.mem_singleton.mp hk] at hn
        have := List.mem_singleton.mp hn
        omega
      · rw [List.mem_singleton.mp hs, show ((k0.natAbs : Nat) : Int) = k0 by omega]
        exact List.mem_cons_self
    refine Evl.q_cut (M := fun σ' H' => ∃ (y4 y5 : Option V) (css : List (List Int)), σ' = [some (.ref f), some (.ref t), some (.int m), some (.ref L), y4, y5] ∧ Feed H' f c (B + 500) ∧ Ke (· = f) H H' ∧ Ls H' L css ∧ (∀ cs ∈ css, Of (k0 :: kr) cs) ∧ 1 ≤ css.length ∧ (css.length : Int) ≤ m) ?_ ?_
    · have F1 : Feed H1 f c B := hF.same s1
      refine ⟨_, rfl, _, rfl, f, c, _, B, rfl, by omega, by omega, F1, by omega, fun d H2 d0 d1 F2 b2 => ?_⟩
      refine ⟨_, _, rfl, rfl, 1 + d, rfl, by omega, by omega, for_range (Pv := fun i σ H' => ∃ (y4 y5 : Option V) (css : List (List Int)), σ = [some (.ref f), some (.ref t), some (.int m), some (.ref L), y4, y5] ∧ Feed H' f c (B + 1 + 30 * i) ∧ Ke (· = f) H H' ∧ Ls H' L css ∧ (∀ cs ∈ css, Of (k0 :: kr) cs) ∧ css.length = i) ?_ ?_ ?_⟩
      · exact ⟨none, none, [], rfl, F2, (Ke.same s1).trans (.but F1 b2), ⟨[], (b2 L nLf).trans hL, rfl, fun i x cs h => by simp at h⟩, fun cs h => (nomatch h), rfl⟩
      · rintro i σ H3 hi ⟨y4, y5, css, rfl, F3, k3, ⟨vs, hL3, lv, hv⟩, oc, lc⟩
        have hi : i < (1 + d).toNat := hi
        have ht3 : H3 t = some (.lst ((k0 :: kr).map V.int)) := k3.lst ht ntf
        refine Evl.q_cut (M := fun σ' H' => ∃ (p : Addr) (cs : List Int), σ' = [some (.ref f), some (.ref t), some (.int m), some (.ref L), some (.int (0 + (i : Int))), some (.ref p)] ∧ Feed H' f c (B + 1 + 30 * i + 21) ∧ Ke (· = f) H3 H' ∧ H' p = some (.tup (cs.map V.int)) ∧ Of (k0 :: kr) cs) ?_ ?_
        · refine ⟨_, rfl, _, rfl, by show 4 ≤ sizeLine; decide, fun p4 H4 np4 s4 hp4 _ => ?_⟩
          have F4 := F3.same s4
          refine ⟨_, rfl, f, c, 4, _, rfl, by decide, by decide, F4, by omega, fun e H5 e0 e1 F5 b5 => ?_⟩
          have k5 : Ke (· = f) H3 H5 := (Ke.same s4).trans (.but F4 b5)
          have np4f : p4 ≠ f := F3.nf np4
          have ht5 : H5 t = some (.lst ((k0 :: kr).map V.int)) := k5.lst ht3 ntf
          have pk : ∃ mm : Int, 0 ≤ mm ∧ mm ≤ 8 ∧ atI [V.int 3, V.int 3, V.int 3, V.int 6] e = some (.int mm) := by
            have four : e = 0 ∨ e = 1 ∨ e = 2 ∨ e = 3 := by omega
            rcases four with rfl | rfl | rfl | rfl
            · exact ⟨3, by decide, by decide, rfl⟩
            · exact ⟨3, by decide, by decide, rfl⟩
            · exact ⟨3, by decide, by decide, rfl⟩
            · exact ⟨6, by decide, by decide, rfl⟩
          obtain ⟨mm, mm0, mm1, ha⟩ := pk
          refine ⟨p4, _, e, .int mm, rfl, rfl, .of ((b5 p4 np4f).trans hp4), ha, f, c, t, mm, _, k0 :: kr, rfl, mm0, mm1, ht5, Tk, F5, by omega, fun cs p H6 F6 k6 _ hp h1 h2 _ => ?_⟩
          exact ⟨p, cs, rfl, F6.mono (by omega), k5.trans k6, hp, h1, h2⟩
        rintro σ' H4 ⟨p, cs, rfl, F4, k4, hp, hc⟩
        -- if claim == () and ..
        refine Evl.q_cut (M := fun σ' H' => ∃ (p : Addr) (cs : List Int), σ' = [some (.ref f), some (.ref t), some (.int m), some (.ref L), some (.int (0 + (i : Int))), some (.ref p)] ∧ Feed H' f c (B + 1 + 30 * i + 22) ∧ Ke (· = f) H3 H' ∧ H' p = some (.tup (cs.map V.int)) ∧ Of (k0 :: kr) cs) ?_ ?_
        · refine ⟨_, rfl, Nat.zero_le _, fun p5 H5 np5 s5 hp5 _ => ?_⟩
          have F5 := F4.same s5
          have k5 : Ke (· = f) H3 H5 := k4.trans (.same s5)
          refine ⟨_, _, .tup (.of (s5 _ _ hp)) (dp_ints cs), .tup (.of hp5) .nil, shaped_tuple (flat_ints _), shaped_tuple rfl, _, rfl, ite2 (fun e => ?_) (fun e => ?_)⟩
          · refine ⟨_, rfl, f, c, 6, _, rfl, by decide, by decide, F5, by omega, fun g H6 g0 g1 F6 b6 => ?_⟩
            have k6 : Ke (· = f) H3 H6 := k5.trans (.but F5 b6)
            refine ⟨_, _, rfl, rfl, _, rfl, ite2 (fun e => ?_) (fun e => ?_)⟩
            · have ht6 : H6 t = some (.lst ((k0 :: kr).map V.int)) := k6.lst ht3 ntf
              refine ⟨_, rfl, t, _, 0, .int k0, rfl, rfl, .of ht6, atI_nat (j := 0) rfl, by show 1 ≤ sizeLine; decide, fun p7 H7 np7 s7 hp7 _ => ?_⟩
              exact ⟨p7, [k0], rfl, (F6.same s7).mono (by omega), k6.trans (.same s7), hp7, of0⟩
            · exact ⟨p, cs, rfl, F6.mono (by omega), k6, (Ke.but F5 b6).tups _ _ (s5 _ _ hp), hc⟩
          · exact ⟨p, cs, rfl, F5.mono (by omega), k5, s5 _ _ hp, hc⟩
        rintro σ' H5 ⟨p, cs, rfl, F5, k5, hp, hc⟩
        -- claims.append(claim)
        have hL5 : H5 L = some (.lst vs) := k5.lst hL3 nLf
        refine ⟨_, rfl, .inl ⟨rfl, _, .of hL5⟩, _, rfl, L, _, _, rfl, rfl, hL5, small1000 (by omega), ?_⟩
        have k6 : Ke (· = f) H (upd H5 L (.lst (vs ++ [.ref p]))) := (k3.trans k5).write frL hL5
        have tp : ∀ {x : V} {ds : List Int}, TupI H5 x ds → TupI (upd H5 L (.lst (vs ++ [.ref p]))) x ds := fun {x ds} ⟨a, e, h⟩ => ⟨a, e, by
          have n : a ≠ L := fun z => by
            rw [z, hL5] at h
            cases h
          rw [upd_ne n]
          exact h⟩
        refine ⟨_, _, css ++ [cs], rfl, (F5.upd nLf nLc).mono (by omega), k6, ⟨vs ++ [.ref p], upd_same, by rw [List.length_append, List.length_append, lv]; rfl, ix_append lv (fun i x ds h1 h2 => tp ((hv i x ds h1 h2).ke k5)) (tp ⟨p, rfl, hp⟩)⟩, fun ds hd => ?_, by rw [List.length_append, lc]; rfl⟩
        rcases List.mem_append.mp hd with z | z
        · exact oc ds z
        · rw [List.mem_singleton.mp z]
          exact hc
      · rintro σ H3 ⟨y4, y5, css, rfl, F3, k3, ls, oc, lc⟩
        have lc' : css.length = (1 + d).toNat := lc
        exact ⟨y4, y5, css, rfl, F3.mono (by omega), k3, ls, oc, by omega, by omega⟩
    rintro σ' H2 ⟨y4, y5, css, rfl, F2, k2, ⟨vs, hL2, lv, hv⟩, oc, l1, l2⟩
    refine ⟨_, rfl, L, vs, rfl, .of hL2, fun p H3 np s3 hp _ => ?_⟩
    have k3 : Ke (· = f) H2 H3 := .same s3
    exact q css p H3 (F2.same s3) (k2.trans k3) (.ke k2 F2 (.of np)) ⟨p, vs, rfl, hp, lv, fun i x cs h1 h2 => (hv i x cs h1 h2).ke k3⟩ oc l1 l2
end
end Cl
namespace St
open PySem PySem.Spec PyProof.Rows L2 Nw
/-! ### set(xs) of a list of whole numbers, and sorted of it -/
/-- a set as it begins -/
abbrev bare (w : World) : Obj := { cls := .type "set", dict := none, data := .set #[] 0 (.fresh 0 0 (!w.params.followText "set-order")) }
section
variable {P : Program} {w : World} {A : Around} {E : Value → Shared → Prop} {s : Shared}
set_option maxRecDepth 100000 in
set_option maxHeartbeats 3200000 in
theorem set_of_list {l : Addr} {xs : Array Value} (ks : List Int) {Q : Value → Shared → Prop} (hA : A.handled = none) (hx : s.heap.IsList l xs) (hk : IntsAre xs.toList ks) (few : ks.length + 1 < scanBound)
    (want : ∀ (h' : Heap) (tk c : Nat), SetR w h' s.heap.objs.size (fun j => decide (j ∈ ks)) c → c ≤ ks.length → (∀ b o, s.heap.get? b = some o → h'.get? b = some o) → Q (.ref s.heap.objs.size) { s with heap := h', toks := tk }) :
    wpAny (model P w) A (call (.type "set") [.ref l]) Q E s := by
  have sz : xs.size = ks.length := by rw [← Array.length_toList]; exact IntsAre.length hk
  obtain ⟨c, tl, hmro⟩ := F.called_set.mro
  have m1 := F.called_set.made
  have m2 := F.called_set.sub
  have m3 := F.called_set.notType
  have m4 := F.called_set.canCreate
  have m5 := F.typeCall_set_1 (.ref l)
  refine wpAny_call (codeAny_of_tree (wpAny_pure ⟨Code.quiet_builtin _ (by decide +kernel), codeAny_builtin F.entry_type_call ?_⟩))
  rw [Around.under_plain (weight_type_call_type "set" [.ref l] []) rfl]
  repeat (any_goals (first | assumption | wp_step))
  refine codeAny_mono (code_set_led1 (.ref l) (E := E) (Q₁ := fun o s1 => o = .ref s.heap.objs.size ∧ s1 = { s with heap := s.heap.push (bare w) }) ⟨rfl, rfl⟩) fun r s1 hr => ?_
  cases r with
  | error e => exact hr
  | ok fl =>
    cases fl with
    | next => exact hr.elim
    | brk => exact hr.elim
    | cont => exact hr.elim
    | ret o =>
      obtain ⟨rfl, rfl⟩ := hr
      have g0 : (s.heap.push (bare w)).get? s.heap.objs.size = some (bare w) := Heap.get?_push_size _ rfl
      have t0 : Shared.TypeIs { s with heap := s.heap.push (bare w) } (.ref s.heap.objs.size) "set" := ⟨_, g0, rfl⟩
      have m6 := F.called_set.init.lookup
      have m7 := F.called_set.init.bind (.ref s.heap.objs.size)
      repeat (any_goals (first | assumption | wp_step))
      refine codeAny_mono (codeAny_call_builtin (R := wants (fun r s2 => r = .none ∧ ∃ h' tk c, s2 = { s with heap := h', toks := tk } ∧ SetR w h' s.heap.objs.size (fun j => decide (j ∈ ks)) c ∧ c ≤ ks.length ∧ ∀ b o, s.heap.get? b = some o → h'.get? b = some o) E) F.called_set.init.plain F.entry_set_init (check_set_init_1 t0 ?_)) fun r2 s2 hr2 => ?_
      · obtain ⟨ol, g1, hc, nl, hd⟩ := hx
        have lt : l < s.heap.objs.size := Heap.lt_size g1
        obtain ⟨oc, od, oda, osl⟩ := ol
        dsimp only at hc hd
        subst hc hd
        have g2 : (s.heap.push (bare w)).get? l = some { cls := .type "list", dict := od, data := .seq xs nl, slots := osl } := Heap.get?_push_of_some _ g1
        have i1 : (s.heap.push (bare w)).IsList l xs := ⟨_, g2, rfl, nl, rfl⟩
        have m8 := F.sub_list_set
        have m9 := F.sub_list_frozenset
        have m10 : (Value.type "list" == Value.type "dict") = false := by decide
        have szp : (s.heap.push (bare w)).objs.size = s.heap.objs.size + 1 := Heap.size_push ..
        unfold Builtin.«set.__init__» noKeywords Builtin.Frozenset.updateFrom
        generalize hPI : pyIter = PI
        wp_walk
        subst hPI
        refine wpAny_pyIter_list i1 (wpAny_bind (wpAny_runValue ?_))
        have ne1 : l ≠ (s.heap.push (bare w)).objs.size := by rw [szp]; exact Nat.ne_of_lt (Nat.lt_succ_of_lt lt)
        have ne2 : s.heap.objs.size ∉ [(s.heap.push (bare w)).objs.size, l] := by
          rw [szp]
          simp only [List.mem_cons, List.not_mem_nil, or_false, not_or]
          exact ⟨Nat.ne_of_lt (Nat.lt_succ_self _), Nat.ne_of_gt lt⟩
        have at_ : ∀ (i : Nat) (v : Value), xs[i]? = some v → ∃ k t, ks[i]? = some k ∧ v = .int k t := fun i v hv => by
          have hi : i < ks.length := by rw [← sz]; exact (Array.getElem?_eq_some_iff.mp hv).1
          obtain ⟨t, e⟩ := IntsAre.int_at hk i v (by rw [Array.getElem?_toList]; exact hv)
          rw [List.getD_eq_getElem?_getD, List.getElem?_eq_getElem hi, Option.getD_some] at e
          exact ⟨ks[i], t, List.getElem?_eq_getElem hi, e⟩
        have hA3 : A.in1.in1.in1.handled = none := by simp [hA]
        refine set_update_ints ((Walks.list hA3 _ l ne1 xs).toS) s.heap.objs.size ne2 ks sz few at_ (xs.size - 0) 0 _ (by omega) (Nat.zero_le _) ⟨⟨_, Heap.get?_push_size _ rfl, rfl, rfl⟩, i1.push _⟩ ⟨0, Nat.le_refl 0, setR_new_at (Heap.get?_push_of_some _ g0)⟩ ?_
        intro s' c' hm hc' hS'
        obtain ⟨h', g', d', tk', os'⟩ := s'
        obtain rfl : g' = s.gens := hm.gens
        obtain rfl : d' = s.drawn := hm.drawn
        obtain rfl : os' = s.os := hm.os
        show wpAny _ _ _ _ _ _
        refine wpAny_pure (wpAny_pure ⟨rfl, h', tk', c', rfl, hS', by omega, fun b o e => ?_⟩)
        have lb : b < s.heap.objs.size := Heap.lt_size e
        refine hm.heap b o ?_ (Heap.get?_push_of_some _ (Heap.get?_push_of_some _ e))
        rw [szp]
        simp only [List.mem_cons, List.not_mem_nil, or_false, not_or]
        exact ⟨Nat.ne_of_lt lb, Nat.ne_of_lt (Nat.lt_succ_of_lt lb)⟩
      · cases r2 with
        | error e => exact hr2
        | ok f2 =>
          cases f2 with
          | next => exact hr2.elim
          | brk => exact hr2.elim
          | cont => exact hr2.elim
          | ret r =>
            obtain ⟨rfl, h', tk, c', rfl, hS', hc', hk'⟩ := hr2
            repeat (any_goals (first | assumption | wp_step))
            exact want _ _ _ hS' hc' hk'
end
end St
namespace St
open PySem PySem.Spec PyProof.Rows L2 Nw
theorem cr_setL {X : Cx} (hc : X.calm = true) : CallR X (.type "set") (fun xs H Q => ∃ (a : Addr) (ns : List Int), xs = [.ref a] ∧ SqL X.K H a (ns.map V.int) ∧ ns.length ≤ 60 ∧ ∀ p H2 n, H p = none → Same H H2 → H2 p = some (SetO X.w p (fun j => decide (j ∈ ns)) n) → n ≤ ns.length → Q (.ref p) H2) := by
  intro pins s σ H xs us Q I r h
  obtain ⟨a, ns, rfl, hs, hl, q⟩ := h
  obtain ⟨u, rfl, ru⟩ := Vals.one r
  cases ru
  obtain ⟨its, ri, pl, _⟩ := I.list hs
  have hn : H s.heap.objs.size = none := I.hok.fresh (Nat.le_refl _)
  refine set_of_list ns (I.ok.hd hc) (PlainL.isList pl) (by rw [List.toList_toArray]; exact Vals.ints ri) (by unfold scanBound; omega) fun h' tk c R lc k => ?_
  exact ⟨.ref s.heap.objs.size, upd H s.heap.objs.size (SetO X.w s.heap.objs.size (fun j => decide (j ∈ ns)) c), I.laid (t' := tk) k (Nat.le_refl _) (setO_new R), rfl, q _ _ c hn (same_new hn) upd_same lc⟩
theorem cr_sortedS {X : Cx} (hc : X.calm = true) : CallR X (.builtin "sorted") (fun vs H Q => ∃ (a : Addr) (S : Int → Bool) (n : Nat), vs = [V.ref a] ∧ H a = some (SetO X.w a S n) ∧ n < 64 ∧ ∀ ns : List Int, ns.Pairwise (· < ·) → (∀ k : Int, k ∈ ns ↔ S k = true) → ns.length = n → New H (.lst (ns.map V.int)) Q) :=
  call_weak (cr_sortedSet hc) fun _ _ _ ⟨a, S, n, h1, h2, h3, h4⟩ => ⟨a, S, n, h1, h2, h3, fun ns p x1 x2 x3 np => (h4 ns x1 x2 x3).to p np⟩
end St
namespace St
open PySem PySem.Spec PyProof.Rows L2 Nw
section
variable {X : Cx}
/-- sorted(t), t a tuple of whole numbers: the items are gathered in a list, then a list of these is sorted in its place -/
theorem cr_sortedT : CallR X (.builtin "sorted") (fun vs H Q => ∃ (a : Addr) (ns : List Int), vs = [V.ref a] ∧ SqT X.K H a (ns.map V.int) ∧ ∀ ns' : List Int, ns'.Perm ns → ns'.Pairwise (· ≤ ·) → New H (.lst (ns'.map V.int)) Q) := by
  intro pins s σ H vs us Q I r h
  obtain ⟨a, ns, rfl, hs, q⟩ := h
  obtain ⟨its, rv, ⟨o, ho, hcl, n, hd⟩, hz⟩ := I.tuple hs
  obtain ⟨u, rfl, ru⟩ := Vals.one r
  cases ru
  have hin := Vals.ints rv
  have lz : its.length ≤ sizeLine := by rw [← Vals.length rv]; exact hz
  refine Calls.call_function_entry PyProof.Rows.kind_sorted PyProof.Rows.plain_sorted PyProof.Rows.entry_sorted (PyProof.Rows.args_sorted1 _) ?_
  unfold Builtin.«sorted»
  refine wpAny_bind (m := checkCount "sorted" 1 1 _) (wpAny_pure (wpAny_bind (wpAny_collect_seq a (.inr rfl) ho hcl hd (fun h1 k1 => ?_) (by rw [List.size_toArray]; exact lz))))
  refine wpAny_bind (wpAny_newList ?_ (by rw [List.toList_toArray]; exact lz))
  rw [List.toList_toArray]
  have at1 : (h1.push (seqObj "list" its.toArray 0)).get? h1.objs.size = some (seqObj "list" its.toArray 0) := Heap.get?_push_size _ rfl
  have up1 : ∀ b o, s.heap.get? b = some o → b ≠ h1.objs.size ∧ (h1.push (seqObj "list" its.toArray 0)).get? b = some o := fun b o e => ⟨Nat.ne_of_lt (Heap.lt_size (k1 b o e)), Heap.get?_push_of_some _ (k1 b o e)⟩
  refine wpAny_bind (wpAny_holding (wpAny_call_entry PyProof.Rows.slot_list_sort ⟨_, at1, rfl⟩ PyProof.Rows.entry_list_sort (SrtO.list_sort_ord SrtO.swo_int at1 lz (fun h2 => SrtO.ints_sortable hin h2) fun out g1 g2 => ⟨_, rfl, ?_⟩) (PyProof.Rows.args_list_sort _)))
  obtain ⟨i1, i2, i3⟩ := SrtO.ints_out hin g1 g2
  obtain ⟨ep, hat⟩ := PyProof.Rows.sortedHeap_at (out := out.toArray) at1
  have gone : s.heap.get? h1.objs.size = none := by
    cases e : s.heap.get? h1.objs.size with
    | none => rfl
    | some o => exact absurd (Heap.lt_size (k1 _ o e)) (Nat.lt_irrefl _)
  have hn : H h1.objs.size = none := I.hok.gone gone
  have old : ∀ b o, s.heap.get? b = some o → (PyProof.Rows.sortedHeap (h1.push (seqObj "list" its.toArray 0)) h1.objs.size its out.toArray).get? b = some o := fun b o e => by
    rw [PyProof.Rows.sortedHeap_old (up1 b o e).1 (Heap.lt_size (up1 b o e).2)]
    exact (up1 b o e).2
  have len : ((out.map SrtO.iv).map V.int).length ≤ sizeLine := by
    rw [List.length_map, i2.length_eq]
    rw [List.length_map] at hz
    exact hz
  refine wpAny_pure ⟨_, rfl, .ref h1.objs.size, upd H h1.objs.size (.lst ((out.map SrtO.iv).map V.int)), I.laidN (t' := s.toks) old gone hn ⟨len, out, ep, vals_of_ints i1, hat⟩, rfl, (q _ i2 i3).to _ hn⟩
end
end St
namespace St2
open PySem PySem.Spec PyProof.Rows L2 Nw
/-! ### set(t) of a tuple of whole numbers -/
/-- a set as it begins -/
abbrev bare (w : World) : Obj := { cls := .type "set", dict := none, data := .set #[] 0 (.fresh 0 0 (!w.params.followText "set-order")) }
section
variable {P : Program} {w : World} {A : Around} {E : Value → Shared → Prop} {s : Shared}
set_option maxRecDepth 100000 in
set_option maxHeartbeats 3200000 in
theorem set_of_tup {l : Addr} {xs : Array Value} (ks : List Int) {Q : Value → Shared → Prop} (hA : A.handled = none) (hx : s.heap.IsTuple l xs) (hk : IntsAre xs.toList ks) (few : ks.length + 1 < scanBound)
    (want : ∀ (h' : Heap) (tk c : Nat), SetR w h' s.heap.objs.size (fun j => decide (j ∈ ks)) c → c ≤ ks.length → (∀ b o, s.heap.get? b = some o → h'.get? b = some o) → Q (.ref s.heap.objs.size) { s with heap := h', toks := tk }) :
    wpAny (model P w) A (call (.type "set") [.ref l]) Q E s := by
  have sz : xs.size = ks.length := by rw [← Array.length_toList]; exact IntsAre.length hk
  obtain ⟨c, tl, hmro⟩ := F.called_set.mro
  have m1 := F.called_set.made
  have m2 := F.called_set.sub
  have m3 := F.called_set.notType
  have m4 := F.called_set.canCreate
  have m5 := F.typeCall_set_1 (.ref l)
  refine wpAny_call (codeAny_of_tree (wpAny_pure ⟨Code.quiet_builtin _ (by decide +kernel), codeAny_builtin F.entry_type_call ?_⟩))
  rw [Around.under_plain (weight_type_call_type "set" [.ref l] []) rfl]
  repeat (any_goals (first | assumption | wp_step))
  refine codeAny_mono (code_set_led1 (.ref l) (E := E) (Q₁ := fun o s1 => o = .ref s.heap.objs.size ∧ s1 = { s with heap := s.heap.push (bare w) }) ⟨rfl, rfl⟩) fun r s1 hr => ?_
  cases r with
  | error e => exact hr
  | ok fl =>
    cases fl with
    | next => exact hr.elim
    | brk => exact hr.elim
    | cont => exact hr.elim
    | ret o =>
      obtain ⟨rfl, rfl⟩ := hr
      have g0 : (s.heap.push (bare w)).get? s.heap.objs.size = some (bare w) := Heap.get?_push_size _ rfl
      have t0 : Shared.TypeIs { s with heap := s.heap.push (bare w) } (.ref s.heap.objs.size) "set" := ⟨_, g0, rfl⟩
      have m6 := F.called_set.init.lookup
      have m7 := F.called_set.init.bind (.ref s.heap.objs.size)
      repeat (any_goals (first | assumption | wp_step))
      refine codeAny_mono (codeAny_call_builtin (R := wants (fun r s2 => r = .none ∧ ∃ h' tk c, s2 = { s with heap := h', toks := tk } ∧ SetR w h' s.heap.objs.size (fun j => decide (j ∈ ks)) c ∧ c ≤ ks.length ∧ ∀ b o, s.heap.get? b = some o → h'.get? b = some o) E) F.called_set.init.plain F.entry_set_init (check_set_init_1 t0 ?_)) fun r2 s2 hr2 => ?_
      · obtain ⟨ol, g1, hc, nl, hd⟩ := hx
        have lt : l < s.heap.objs.size := Heap.lt_size g1
        obtain ⟨oc, od, oda, osl⟩ := ol
        dsimp only at hc hd
        subst hc hd
        have g2 : (s.heap.push (bare w)).get? l = some { cls := .type "tuple", dict := od, data := .seq xs nl, slots := osl } := Heap.get?_push_of_some _ g1
        have i1 : (s.heap.push (bare w)).IsTuple l xs := ⟨_, g2, rfl, nl, rfl⟩
        have m8 := F.sub_tuple_set
        have m9 := F.sub_tuple_frozenset
        have m10 : (Value.type "tuple" == Value.type "dict") = false := by decide
        have szp : (s.heap.push (bare w)).objs.size = s.heap.objs.size + 1 := Heap.size_push ..
        unfold Builtin.«set.__init__» noKeywords Builtin.Frozenset.updateFrom
        generalize hPI : pyIter = PI
        wp_walk
        subst hPI
        refine wpAny_pyIter_tuple i1 (wpAny_bind (wpAny_runValue ?_))
        have ne1 : l ≠ (s.heap.push (bare w)).objs.size := by rw [szp]; exact Nat.ne_of_lt (Nat.lt_succ_of_lt lt)
        have ne2 : s.heap.objs.size ∉ [(s.heap.push (bare w)).objs.size, l] := by
          rw [szp]
          simp only [List.mem_cons, List.not_mem_nil, or_false, not_or]
          exact ⟨Nat.ne_of_lt (Nat.lt_succ_self _), Nat.ne_of_gt lt⟩
        have at_ : ∀ (i : Nat) (v : Value), xs[i]? = some v → ∃ k t, ks[i]? = some k ∧ v = .int k t := fun i v hv => by
          have hi : i < ks.length := by rw [← sz]; exact (Array.getElem?_eq_some_iff.mp hv).1
          obtain ⟨t, e⟩ := IntsAre.int_at hk i v (by rw [Array.getElem?_toList]; exact hv)
          rw [List.getD_eq_getElem?_getD, List.getElem?_eq_getElem hi, Option.getD_some] at e
          exact ⟨ks[i], t, List.getElem?_eq_getElem hi, e⟩
        have hA3 : A.in1.in1.in1.handled = none := by simp [hA]
        refine set_update_ints ((Walks.tuple hA3 _ l ne1 xs).toS) s.heap.objs.size ne2 ks sz few at_ (xs.size - 0) 0 _ (by omega) (Nat.zero_le _) ⟨⟨_, Heap.get?_push_size _ rfl, rfl, rfl⟩, i1.push _⟩ ⟨0, Nat.le_refl 0, setR_new_at (Heap.get?_push_of_some _ g0)⟩ ?_
        intro s' c' hm hc' hS'
        obtain ⟨h', g', d', tk', os'⟩ := s'
        obtain rfl : g' = s.gens := hm.gens
        obtain rfl : d' = s.drawn := hm.drawn
        obtain rfl : os' = s.os := hm.os
        show wpAny _ _ _ _ _ _
        refine wpAny_pure (wpAny_pure ⟨rfl, h', tk', c', rfl, hS', by omega, fun b o e => ?_⟩)
        have lb : b < s.heap.objs.size := Heap.lt_size e
        refine hm.heap b o ?_ (Heap.get?_push_of_some _ (Heap.get?_push_of_some _ e))
        rw [szp]
        simp only [List.mem_cons, List.not_mem_nil, or_false, not_or]
        exact ⟨Nat.ne_of_lt lb, Nat.ne_of_lt (Nat.lt_succ_of_lt lb)⟩
      · cases r2 with
        | error e => exact hr2
        | ok f2 =>
          cases f2 with
          | next => exact hr2.elim
          | brk => exact hr2.elim
          | cont => exact hr2.elim
          | ret r =>
            obtain ⟨rfl, h', tk, c', rfl, hS', hc', hk'⟩ := hr2
            repeat (any_goals (first | assumption | wp_step))
            exact want _ _ _ hS' hc' hk'
theorem cr_setT {X : Cx} (hc : X.calm = true) : CallR X (.type "set") (fun xs H Q => ∃ (a : Addr) (ns : List Int), xs = [.ref a] ∧ SqT X.K H a (ns.map V.int) ∧ ns.length ≤ 60 ∧ ∀ p H2 n, H p = none → Same H H2 → H2 p = some (SetO X.w p (fun j => decide (j ∈ ns)) n) → n ≤ ns.length → Q (.ref p) H2) := by
  intro pins s σ H xs us Q I r h
  obtain ⟨a, ns, rfl, hs, hl, q⟩ := h
  obtain ⟨u, rfl, ru⟩ := Vals.one r
  cases ru
  obtain ⟨its, ri, pl, _⟩ := I.tuple hs
  have hn : H s.heap.objs.size = none := I.hok.fresh (Nat.le_refl _)
  refine set_of_tup ns (I.ok.hd hc) (show s.heap.IsTuple a its.toArray from pl) (by rw [List.toList_toArray]; exact Vals.ints ri) (by unfold scanBound; omega) fun h' tk c R lc k => ?_
  exact ⟨.ref s.heap.objs.size, upd H s.heap.objs.size (SetO X.w s.heap.objs.size (fun j => decide (j ∈ ns)) c), I.laid (t' := tk) k (Nat.le_refl _) (setO_new R), rfl, q _ _ c hn (same_new hn) upd_same lc⟩
end
end St2
namespace Ct
open PySem PySem.Spec PyProof.Rows L2 GxR Nw Dr Kp Se
structure Zc (mg : Str → Option Value) : Prop where
  z_any : mg "any" = none
  z_isinstance : mg "isinstance" = none
  z_int : mg "int" = none
  z_bool : mg "bool" = none
  z_tuple : mg "tuple" = none
  z_sorted : mg "sorted" = none
  z_set : mg "set" = none
abbrev sHop : Stmt := topS 7
abbrev nHop : List Str := ["says", "say"]
theorem scHop : FnScope nHop ["says"] (defScope sHop) := ⟨rfl, rfl, rfl, by decide +kernel, rfl, by decide +kernel, by decide +kernel⟩
abbrev sWho : Stmt := topS 6
theorem scWho : FnScope ["thing"] ["thing"] (defScope sWho) := ⟨rfl, rfl, rfl, by decide +kernel, rfl, by decide +kernel, by decide +kernel⟩
abbrev sCme : Stmt := topS 9
theorem scCme : FnScope ["one", "other", "k"] ["one", "other", "k"] (defScope sCme) := ⟨rfl, rfl, rfl, by decide +kernel, rfl, by decide +kernel, by decide +kernel⟩
abbrev sCon : Stmt := topS 10
abbrev nCon : List Str := ["one", "other", "k", "says", "say"]
theorem scCon : FnScope nCon ["one", "other", "k"] (defScope sCon) := ⟨rfl, rfl, rfl, by decide +kernel, rfl, by decide +kernel, by decide +kernel⟩
theorem ints_flat (cs : List Int) : (cs.map V.int).all flatV = true := by
  rw [List.all_map, List.all_eq_true]
  exact fun _ _ => rfl
theorem at_int {ks : List Int} {i : Nat} {x : V} (hx : (ks.map V.int)[i]? = some x) : ∃ z, ks[i]? = some z ∧ x = V.int z := by
  rw [List.getElem?_map] at hx
  cases e : ks[i]? with
  | none =>
    rw [e] at hx
    cases hx
  | some z =>
    rw [e] at hx
    exact ⟨z, rfl, (Option.some.inj hx).symm⟩
/-- any/all over a list that stays -/
theorem aa_list {K : PySem.W.Frag} {a : Addr} {xs : List V} {g : TG} {tt : TT} {te : TE} {vs : List Nat} {σ : L2.St} {H1 : Hp} {stopb : Bool} {Q : VK} (Pv : Nat → Hp → Prop) (h0 : Pv 0 H1) (hl : ∀ i H, i ≤ xs.length → Pv i H → SqL K H a xs)
    (hs : ∀ i x H, xs[i]? = some x → Pv i H → g x (wipe σ vs) H fun σ2 H2 => wipe σ2 vs = wipe σ vs ∧ tt σ2 H2 fun b H3 => if b = true then te σ2 H3 fun y H4 => (y = .bl stopb ∧ Q (.bl stopb) H4) ∨ (y = .bl (!stopb) ∧ Pv (i + 1) H4) else Pv (i + 1) H3) (hd : ∀ H, Pv xs.length H → Q (.bl (!stopb)) H) :
    ∃ W : Nat → Nat → Hp → Prop, (∃ m, W 0 m H1) ∧ ∀ i m H, W i m H → ((Itl K a).stop i H ∧ Q (.bl (!stopb)) H) ∨ ((Itl K a).go i H ∧ ∃ Nx : Hp → Prop, (∀ H', Nx H' → ∃ m', m' < m ∧ W (i + 1) m' H') ∧ ∀ x H', (Itl K a).yld i H x H' → g x (wipe σ vs) H' fun σ2 H2 => wipe σ2 vs = wipe σ vs ∧ tt σ2 H2 fun b H3 =>
      if b = true then te σ2 H3 fun y H4 => (y = .bl stopb ∧ Q (.bl stopb) H4) ∨ (y = .bl (!stopb) ∧ Nx H4) else Nx H3) := by
  refine ⟨fun i m H => i + m = xs.length ∧ Pv i H, ⟨xs.length, Nat.zero_add _, h0⟩, fun i m H ⟨e, p⟩ => ?_⟩
  have sq := hl i H (by omega) p
  cases m with
  | zero =>
    have ei : i = xs.length := by omega
    subst ei
    exact .inl ⟨⟨xs, sq, Nat.le_refl _⟩, hd H p⟩
  | succ m =>
    have lt : i < xs.length := by omega
    refine .inr ⟨⟨xs, xs[i], sq, List.getElem?_eq_getElem lt⟩, Pv (i + 1), fun H' q => ⟨m, Nat.lt_succ_self m, by omega, q⟩, fun x H' y => ?_⟩
    obtain ⟨rfl, y⟩ := y
    exact hs i x _ (y xs sq) p
/-- two of the says are opposite -/
def oppB (ns : List Int) : Bool := ns.any fun s => decide (0 < s) && inV (.int (-s)) (ns.map V.int)
theorem take_any {α : Type} {f : α → Bool} {l : List α} {i : Nat} {x : α} (h : l[i]? = some x) (p : (l.take i).any f = false) : (f x = true → l.any f = true) ∧ (f x = false → (l.take (i + 1)).any f = false) := by
  refine ⟨fun z => List.any_eq_true.mpr ⟨x, List.mem_of_getElem? h, z⟩, fun z => ?_⟩
  rw [List.take_add_one, h, List.any_append, p]
  show (f x || false) = false
  rw [z]
  rfl
section
variable {P : Program} {w : World} {K : PySem.W.Frag} {mg : Str → Option Value} {base : Heap}
def spHop (Po : Addr) : Sp := fun vs H Q _ => ∃ (a : Addr) (ns : List Int), vs = [.ref a] ∧ H a = some (.lst (ns.map V.int)) ∧ TabG H Po ∧ ∀ H', Ke Nof H H' → Q (.bl (oppB ns)) H'
theorem ok_hop {f c Po : Addr} {fd : FuncData} {k : Nat} (F : FunC K "has_opposites" "has_opposites" sHop f c fd) (T : Zc mg) (TB : TabB base mg c Po) : FnOk P w K mg base CX0 (k + 3) f fd ["says"] (spHop Po) := by
  refine F.ok scHop (fun vs H Q E h => ?_) (fun A outer s H vs Q E hr h => ?_)
  · obtain ⟨a, ns, rfl, _⟩ := h
    rfl
  · obtain ⟨a, ns, rfl, ha, tg, q⟩ := h
    refine ⟨_, (pss_one (ps_ret (Gx.pe_any hr (by rfl) T.z_any rfl scHop.nd TB rfl (pi_list (pv 0)) (own := [("say", 1)]) (g := gName 1) (blkOk_by (N := nHop) (sc := defScope sHop) (by decide +kernel)) ⟨rfl, by decide +kernel, rfl⟩ (fun _ _ _ _ _ _ _ => pg_name (i := 1) scHop.nd rfl (.inl rfl)) (fun _ _ _ _ _ _ _ => (pts_one (pt_cmpR op_gt (pv 1) pe_int (nomark _)))) (fun _ _ _ _ _ _ _ => (pe_cmpR (op_in_seqB (K := K) rfl) (pe_un un_neg (pv 1)) (pv 0) (by rfl)))))), ?_⟩
    refine ⟨_, rfl, a, rfl, ⟨_, .of ha⟩, tg, fun H1 tb => ?_⟩
    have k1 : Ke Nof H H1 := .tabbed tg tb
    refine aa_list (xs := ns.map V.int) (Pv := fun i H' => Ke Nof H H' ∧ (ns.take i).any (fun s => decide (0 < s) && inV (.int (-s)) (ns.map V.int)) = false) ⟨k1, rfl⟩ (fun i H' _ p => .of (p.1.lst ha fun z => z)) ?_ ?_
    · rintro i x H' hx ⟨k2, p⟩
      obtain ⟨z, hz, rfl⟩ := at_int hx
      obtain ⟨t1, t2⟩ := take_any hz p
      refine ⟨rfl, _, rfl, _, _, rfl, rfl, _, rfl, ite2 (fun y1 => ?_) (fun y1 => ?_)⟩
      · refine ⟨_, rfl, _, rfl, _, rfl, a, _, rfl, .inl (.of (k2.lst ha fun z => z)), rfl, ints_flat ns, ?_⟩
        cases e : inV (.int (-z)) (ns.map V.int) with
        | true =>
          refine .inl ⟨rfl, ?_⟩
          have := q H' k2
          rw [show oppB ns = true from t1 (by rw [e, Bool.and_true]; exact y1)] at this
          exact this
        | false => exact .inr ⟨rfl, k2, t2 (by rw [e, Bool.and_false])⟩
      · exact ⟨k2, t2 (by rw [show decide (0 < z) = false from Bool.eq_false_iff.mpr y1, Bool.false_and])⟩
    · rintro H' ⟨k2, p⟩
      rw [List.length_map, List.take_length] at p
      have := q H' k2
      rw [show oppB ns = false from p] at this
      exact this
def spWho : Sp := fun vs H Q _ => ∃ k : Int, vs = [.int k] ∧ Q (.bl true) H
theorem ok_who {f : Addr} {fd : FuncData} {k : Nat} (F : Fun K "is_whole" "is_whole" sWho f fd) (T : Zc mg) : FnOk P w K mg base CX0 (k + 1) f fd ["thing"] spWho := by
  refine F.ok scWho (fun vs H Q E h => ?_) (fun cdv A outer s H vs Q E hr h => ?_)
  · obtain ⟨k, rfl, _⟩ := h
    rfl
  · obtain ⟨k, rfl, q⟩ := h
    refine ⟨_, (pss_one (ps_ret (pe_and (pe_callB call_isi (by rfl) T.z_isinstance (by decide +kernel) (pa_cons (pv 0) (pa_cons (pe_bltn (v := .ty "int") (u := .type "int") (by rfl) T.z_int (by decide +kernel) rfl) pa_nil))) (pe_one (pe_not (pe_callB call_isi (by rfl) T.z_isinstance (by decide +kernel) (pa_cons (pv 0) (pa_cons (pe_bltn (v := .ty "bool") (u := .type "bool") (by rfl) T.z_bool (by decide +kernel) rfl) pa_nil)))))))), ?_⟩
    refine ⟨_, rfl, .int k, .ty "int", .type "int", .type "int", true, rfl, .ty _, .base (.int k), kit_ty (by decide +kernel), _, rfl, ?_⟩
    refine ⟨_, rfl, .int k, .ty "bool", .type "int", .type "bool", false, rfl, .ty _, .base (.int k), kit_ty (by decide +kernel), _, rfl, q⟩
/-- k meets -/
def meetB (cs ds : List Int) (k : Int) : Bool := decide (1 ≤ k) && decide (k ≤ 8) && inV (.int k) (cs.map V.int) && inV (.int (-k)) (ds.map V.int)
def spCme : Sp := fun vs H Q _ => ∃ (v u : V) (k : Int) (cs ds : List Int), vs = [v, u, .int k] ∧ TupI H v cs ∧ TupI H u ds ∧ Q (.bl (meetB cs ds k)) H
theorem ok_cme {f fW : Addr} {fd fdW : FuncData} {k : Nat} {tk : Tok} (F : Fun K "can_meet" "can_meet" sCme f fd) (T : Zc mg) (M8 : mg "MOST_THINGS" = some (.int 8 tk)) (FW : Fun K "is_whole" "is_whole" sWho fW fdW) (bW : Binds K fdW ["thing"] []) (gW : mg "is_whole" = some (.ref fW)) (GW : FnOk P w K mg base CX0 1 fW fdW ["thing"] spWho) :
    FnOk P w K mg base CX0 (k + 2) f fd ["one", "other", "k"] spCme := by
  refine F.ok scCme (fun vs H Q E h => ?_) (fun cdv A outer s H vs Q E hr h => ?_)
  · obtain ⟨v, u, k, cs, ds, rfl, _⟩ := h
    rfl
  · obtain ⟨v, u, k, cs, ds, rfl, ⟨a, rfl, ha⟩, ⟨b, rfl, hb⟩, q⟩ := h
    have hr1 : Room 1 _ := hr.mono (by omega)
    refine ⟨_, (pss_one (ps_ret (pe_and (pe_call GW hr1 (by rfl) gW FW.kp bW .nil pass0 (pa_cons (pv 2) pa_nil)) (pe_and (pe_chain op_le op_le pe_int (pv 2) (pe_glob (v := .int 8) rfl M8 ⟨_, rfl⟩)) (pe_and (pe_cmpR op_in_seq (pv 2) (pv 0) (by rfl)) (pe_one (pe_cmpR op_in_seq (pe_un un_neg (pv 2)) (pv 1) (by rfl)))))))), ?_⟩
    refine ⟨_, rfl, k, rfl, _, rfl, ?_⟩
    unfold meetB at q
    refine ⟨_, rfl, 1, _, rfl, rfl, decide (1 ≤ k), rfl, ?_⟩
    cases e1 : decide (1 ≤ k) with
    | false =>
      rw [e1] at q
      exact ⟨_, rfl, q⟩
    | true =>
      refine ⟨_, _, rfl, rfl, decide (k ≤ 8), rfl, ?_⟩
      cases e2 : decide (k ≤ 8) with
      | false =>
        rw [e1, e2] at q
        exact q
      | true =>
        refine ⟨_, rfl, _, rfl, a, _, rfl, .inr (.of ha), rfl, ints_flat cs, _, rfl, ?_⟩
        cases e3 : inV (.int k) (cs.map V.int) with
        | false =>
          rw [e1, e2, e3] at q
          exact q
        | true =>
          rw [e1, e2, e3] at q
          exact ⟨_, rfl, _, rfl, _, rfl, b, _, rfl, .inr (.of hb), rfl, ints_flat ds, q⟩
/-- what is said besides -/
def saysB (cs ds : List Int) (k : Int) : List Int := (cs.filter fun s => !decide (V.int s = V.int k)) ++ ds.filter fun s => !decide (V.int s = V.int (-k))
theorem filt_take {α : Type} {f : α → Bool} {l : List α} {i : Nat} {x : α} (h : l[i]? = some x) : (l.take (i + 1)).filter f = (l.take i).filter f ++ (if f x = true then [x] else []) := by
  rw [List.take_add_one, h, List.filter_append]
  congr 1
  show [x].filter f = _
  cases e : f x with
  | true => rw [List.filter_cons_of_pos e]; rfl
  | false => rw [List.filter_cons_of_neg (by rw [e]; decide)]; rfl
def spCon (Po : Addr) : Sp := fun vs H Q _ => ∃ (v u : V) (k : Int) (cs ds : List Int), vs = [v, u, .int k] ∧ TupI H v cs ∧ TupI H u ds ∧ cs.length ≤ 20 ∧ ds.length ≤ 20 ∧ TabG H Po ∧
  (∀ H', Ke Nof H H' → (meetB cs ds k = false ∨ oppB (saysB cs ds k) = true) → Q .non H') ∧
  ∀ (ns : List Int) (p : Addr) (H' : Hp), Ke Nof H H' → meetB cs ds k = true → oppB (saysB cs ds k) = false → ns.Pairwise (· < ·) → (∀ j, j ∈ ns ↔ j ∈ saysB cs ds k) → H' p = some (.tup (ns.map V.int)) → Q (.ref p) H'
theorem ok_con {f fM fH Po : Addr} {fd fdM fdH : FuncData} {k : Nat} (F : Fun K "cut_or_none" "cut_or_none" sCon f fd) (T : Zc mg) (FM : Fun K "can_meet" "can_meet" sCme fM fdM) (bM : Binds K fdM ["one", "other", "k"] []) (gM : mg "can_meet" = some (.ref fM)) (GM : FnOk P w K mg base CX0 2 fM fdM ["one", "other", "k"] spCme)
    (kpH : PySem.W.keepIn K (.ref fH) = true) (bH : Binds K fdH ["says"] []) (gH : mg "has_opposites" = some (.ref fH)) (GH : FnOk P w K mg base CX0 3 fH fdH ["says"] (spHop Po)) :
    FnOk P w K mg base CX0 (k + 4) f fd ["one", "other", "k"] (spCon Po) := by
  refine F.ok scCon (fun vs H Q E h => ?_) (fun cdv A outer s H vs Q E hr h => ?_)
  · obtain ⟨v, u, k, cs, ds, rfl, _⟩ := h
    rfl
  · obtain ⟨v, u, k, cs, ds, rfl, tv, tu, lc, ld, tg, q1, q2⟩ := h
    have hr2 : Room 2 _ := hr.mono (by omega)
    have hr3 : Room 3 _ := hr.mono (by omega)
    refine ⟨_, (pss_cons (ps_if (pt_not (pt_val (pe_call GM hr2 (by rfl) gM FM.kp bM .nil pass0 (pa_cons (pv 0) (pa_cons (pv 1) (pa_cons (pv 2) pa_nil)))))) (pss_one (ps_ret pe_non)) pss_nil)
      (Evl.pss_cut (ps_set (i := 3) scCon.nd rfl (.inl rfl) (pe_op op_catN (pe_lc (own := [("say", 4)]) (g := (gName 4))  rfl scCon.nd (pi_tup (pv 0)) (blkOk_by (N := nCon) (sc := defScope sCon) (by decide +kernel)) (fun _ _ _ _ _ => (pg_name (i := 4) scCon.nd rfl (.inl rfl))) (fun _ _ _ _ _ => (pts_one (pt_cmpR op_ne (pv 4) (pv 2) (nomark _)))) (fun _ _ _ _ _ => (pv 4))) (pe_lc (own := [("say", 4)]) (g := (gName 4))  rfl scCon.nd (pi_tup (pv 1)) (blkOk_by (N := nCon) (sc := defScope sCon) (by decide +kernel)) (fun _ _ _ _ _ => (pg_name (i := 4) scCon.nd rfl (.inl rfl))) (fun _ _ _ _ _ => (pts_one (pt_cmpR op_ne (pv 4) (pe_un un_neg (pv 2)) (nomark _)))) (fun _ _ _ _ _ => (pv 4)))))
      (pss_cons (ps_if (pt_val (pe_call GH hr3 (by rfl) gH kpH bH .nil pass0 (pa_cons (pv 3) pa_nil))) (pss_one (ps_ret pe_non)) pss_nil)
      (pss_one (ps_ret (pe_callTy call_tuple_ofN (by rfl) T.z_tuple (by decide +kernel) (pa_cons (pe_callB (St.cr_sortedS rfl) (by rfl) T.z_sorted (by decide +kernel) (pa_cons (pe_callTy (St.cr_setL rfl) (by rfl) T.z_set (by decide +kernel) (pa_cons (pv 3) pa_nil)) pa_nil)) pa_nil))))))), ?_⟩
    obtain ⟨a, rfl, ha⟩ := id tv
    obtain ⟨b, rfl, hb⟩ := id tu
    refine ⟨_, rfl, _, rfl, _, rfl, .ref a, .ref b, k, cs, ds, rfl, tv, tu, _, rfl, ?_⟩
    cases e1 : meetB cs ds k with
    | false => exact q1 H (.refl _ _) (.inl e1)
    | true =>
      refine Evl.q_cut (M := fun σ' H' => ∃ p : Addr, σ' = [some (.ref a), some (.ref b), some (.int k), some (.ref p), none] ∧ Same H H' ∧ H' p = some (.lst ((saysB cs ds k).map V.int))) ?_ ?_
      · refine ⟨_, rfl, a, rfl, ⟨_, .of ha⟩, fun D nD => ?_⟩
        refine lc_tup (xs := cs.map V.int) (Pv := fun i H' => Same H H' ∧ H' D = some (.lst (((cs.take i).filter fun s => !decide (V.int s = V.int k)).map V.int))) ⟨same_new nD, upd_same⟩ (fun i H' _ p => .of (p.1 _ _ ha)) ?_ ?_
        · rintro i x H' hx ⟨s1, hD⟩
          obtain ⟨z, hz, rfl⟩ := at_int hx
          have ft := filt_take (f := fun s => !decide (V.int s = V.int k)) hz
          refine ⟨rfl, _, rfl, _, rfl, rfl, _, rfl, ite2 (fun y1 => ?_) (fun y1 => ?_)⟩
          · refine ⟨_, rfl, _, hD, ?_, fun c o y => ?_, ?_⟩
            · rw [List.length_map]
              exact small1000 (Nat.le_trans (List.length_filter_le _ _) (by rw [List.length_take]; omega))
            · rw [upd_ne (ne_of_none y nD)]
              exact s1 _ _ y
            · rw [upd_same, ft, if_pos y1, List.map_append]
              rfl
          · refine ⟨s1, ?_⟩
            rw [ft, if_neg y1, List.append_nil]
            exact hD
        rintro H1 ⟨s1, hD⟩
        rw [List.length_map, List.take_length] at hD
        refine ⟨_, rfl, b, rfl, ⟨_, .of (s1 _ _ hb)⟩, fun D2 nD2 => ?_⟩
        refine lc_tup (xs := ds.map V.int) (Pv := fun i H' => Same H1 H' ∧ H' D2 = some (.lst (((ds.take i).filter fun s => !decide (V.int s = V.int (-k))).map V.int))) ⟨same_new nD2, upd_same⟩ (fun i H' _ p => .of (p.1 _ _ (s1 _ _ hb))) ?_ ?_
        · rintro i x H' hx ⟨s2, hD2⟩
          obtain ⟨z, hz, rfl⟩ := at_int hx
          have ft := filt_take (f := fun s => !decide (V.int s = V.int (-k))) hz
          refine ⟨rfl, _, rfl, _, rfl, _, rfl, rfl, _, rfl, ite2 (fun y1 => ?_) (fun y1 => ?_)⟩
          · refine ⟨_, rfl, _, hD2, ?_, fun c o y => ?_, ?_⟩
            · rw [List.length_map]
              exact small1000 (Nat.le_trans (List.length_filter_le _ _) (by rw [List.length_take]; omega))
            · rw [upd_ne (ne_of_none y nD2)]
              exact s2 _ _ y
            · rw [upd_same, ft, if_pos y1, List.map_append]
              rfl
          · refine ⟨s2, ?_⟩
            rw [ft, if_neg y1, List.append_nil]
            exact hD2
        rintro H2 ⟨s2, hD2⟩
        rw [List.length_map, List.take_length] at hD2
        refine ⟨D, D2, _, _, rfl, rfl, s2 _ _ hD, hD2, ?_, fun p H3 np s3 hp _ => ?_⟩
        · rw [List.length_map, List.length_map]
          have h1 := List.length_filter_le (fun s => !decide (V.int s = V.int k)) cs
          have h2 := List.length_filter_le (fun s => !decide (V.int s = V.int (-k))) ds
          exact Nat.le_trans (by omega : _ ≤ 1000) (by decide)
        · rw [← List.map_append] at hp
          exact ⟨p, rfl, (s1.trans s2).trans s3, hp⟩
      rintro σ' H1 ⟨p, rfl, s1, hp⟩
      have k1 : Ke Nof H H1 := .same s1
      refine ⟨_, rfl, p, _, rfl, hp, k1.tabs _ tg, fun H2 k2 => ⟨_, rfl, ?_⟩⟩
      have k12 := k1.trans k2
      cases e2 : oppB (saysB cs ds k) with
      | true => exact q1 H2 k12 (.inr e2)
      | false =>
        have hp2 := k2.lst hp fun z => z
        have ls : (saysB cs ds k).length ≤ 40 := by
          unfold saysB
          rw [List.length_append]
          have h1 := List.length_filter_le (fun s => !decide (V.int s = V.int k)) cs
          have h2 := List.length_filter_le (fun s => !decide (V.int s = V.int (-k))) ds
          omega
        refine ⟨_, rfl, p, _, rfl, .of hp2, by omega, fun r H3 n nr s3 hr' ln => ?_⟩
        refine ⟨r, _, n, rfl, hr', by omega, fun es up me le r2 H4 nr2 s4 h4 _ => ?_⟩
        refine ⟨r2, _, rfl, .of h4, fun r3 H5 nr3 s5 h5 _ => ?_⟩
        exact q2 es r3 H5 (k12.trans (.same ((s3.trans s4).trans s5))) e1 e2 up (fun j => (me j).trans decide_eq_true_iff) h5
end
end Ct
namespace Ct
open PySem PySem.Spec PyProof.Rows L2 GxR Nw Dr Kp Se
structure Zd (mg : Str → Option Value) : Prop where
  z_tuple : mg "tuple" = none
  z_sorted : mg "sorted" = none
  z_set : mg "set" = none
  z_abs : mg "abs" = none
abbrev sSct : Stmt := topS 36
abbrev nSct : List Str := ["one", "other", "k", "says", "say"]
theorem scSct : FnScope nSct ["one", "other", "k"] (defScope sSct) := ⟨rfl, rfl, rfl, by decide +kernel, rfl, by decide +kernel, by decide +kernel⟩
theorem in_ints (k : Int) : ∀ cs : List Int, inV (.int k) (cs.map V.int) = true ↔ k ∈ cs
  | [] => by
    constructor
    · intro h
      cases h
    · intro h
      cases h
  | c :: r => by
    have ih := in_ints k r
    show (eqV (.int c) (.int k) || inV (.int k) (r.map V.int)) = true ↔ _
    rw [Bool.or_eq_true, ih, List.mem_cons]
    have e : eqV (.int c) (.int k) = true ↔ k = c := by
      show (c == k) = true ↔ k = c
      rw [beq_iff_eq]
      exact eq_comm
    rw [e]
/-- what is said besides, told by members -/
def Bes (cs ds : List Int) (k j : Int) : Prop := (j ∈ cs ∨ j ∈ ds) ∧ (j.natAbs : Int) ≠ k
section
variable {P : Program} {w : World} {K : PySem.W.Frag} {mg : Str → Option Value} {base : Heap}
def spSct : Sp := fun vs H Q _ => ∃ (v u : V) (k : Int) (cs ds : List Int), vs = [v, u, .int k] ∧ TupI H v cs ∧ TupI H u ds ∧ cs.length ≤ 20 ∧ ds.length ≤ 20 ∧
  (∀ H', Same H H' → (k < 1 ∨ k ∉ cs ∨ -k ∉ ds ∨ ∃ j, Bes cs ds k j ∧ Bes cs ds k (-j)) → Q .non H') ∧
  ∀ (ns : List Int) (p : Addr) (H' : Hp), Same H H' → 1 ≤ k → k ∈ cs → -k ∈ ds → (∀ j, Bes cs ds k j → ¬ Bes cs ds k (-j)) → ns.Pairwise (· < ·) → (∀ j, j ∈ ns ↔ Bes cs ds k j) → H' p = some (.tup (ns.map V.int)) → Q (.ref p) H'
theorem ok_sct {f : Addr} {fd : FuncData} {k : Nat} (F : Fun K "_law_scut" "_law_scut" sSct f fd) (T : Zd mg) : FnOk P w K mg base CX0 (k + 1) f fd ["one", "other", "k"] spSct := by
  refine F.ok scSct (fun vs H Q E h => ?_) (fun cdv A outer s H vs Q E hr h => ?_)
  · obtain ⟨v, u, k, cs, ds, rfl, _⟩ := h
    rfl
  · obtain ⟨v, u, k, cs, ds, rfl, ⟨a, rfl, ha⟩, ⟨b, rfl, hb⟩, lc, ld, q1, q2⟩ := h
    refine ⟨_, (pss_cons (ps_if (PW.pt (pw_or (pt_cmpR op_lt (pv 2) pe_int (nomark _)) (pw_or (pt_cmpR op_notIn_seq (pv 2) (pv 0) (by rfl)) (pw_or1 (pt_cmpR op_notIn_seq (pe_op op_sub pe_int (pv 2)) (pv 1) (by rfl)))))) (pss_one (ps_ret pe_non)) pss_nil)
      (Evl.pss_cut (ps_set (i := 3) scSct.nd rfl (.inr rfl) (pe_callB (St.cr_sortedS rfl) (by rfl) T.z_sorted (by decide +kernel) (pa_cons (pe_callTy (St2.cr_setT rfl) (by rfl) T.z_set (by decide +kernel) (pa_cons (pe_op op_catTN (pv 0) (pv 1)) pa_nil)) pa_nil)))
      (Evl.pss_cut (ps_set (i := 3) scSct.nd rfl (.inr rfl) (pe_lc (own := [("say", 4)]) (g := (gName 4))  rfl scSct.nd (pi_list (pv 3)) (blkOk_by (N := nSct) (sc := defScope sSct) (by decide +kernel)) (fun _ _ _ _ _ => (pg_name (i := 4) scSct.nd rfl (.inl rfl))) (fun _ _ _ _ _ => (pts_one (pt_cmpR op_ne (pe_callB call_abs (by rfl) T.z_abs (by decide +kernel) (pa_cons (pv 4) pa_nil)) (pv 2) (nomark _)))) (fun _ _ _ _ _ => (pv 4))))
      (pss_cons (ps_if (pt_cmpR (op_neD hr.units) (pe_lc (own := [("say", 4)]) (g := (gName 4))  rfl scSct.nd (pi_list (pv 3)) (blkOk_by (N := nSct) (sc := defScope sSct) (by decide +kernel)) (fun _ _ _ _ _ => (pg_name (i := 4) scSct.nd rfl (.inl rfl))) (fun _ _ _ _ _ => (pts_one (pt_cmpR (op_in_seqB (K := K) rfl) (pe_op op_sub pe_int (pv 4)) (pv 3) (by rfl)))) (fun _ _ _ _ _ => (pv 4))) (pe_lstN pa_nil) (nomark _)) (pss_one (ps_ret pe_non)) pss_nil)
      (pss_one (ps_ret (pe_callTy call_tuple_ofN (by rfl) T.z_tuple (by decide +kernel) (pa_cons (pv 3) pa_nil)))))))), ?_⟩
    refine ⟨_, rfl, _, _, rfl, rfl, _, rfl, ite2 (fun y1 => ?_) (fun y1 => ?_)⟩
    · exact q1 H (Same.refl H) (.inl (of_decide_eq_true y1))
    have k1 : 1 ≤ k := by
      have := of_decide_eq_false (Bool.eq_false_iff.mpr y1)
      omega
    refine ⟨_, rfl, _, rfl, a, _, rfl, .inr (.of ha), rfl, ints_flat cs, _, rfl, ite2 (fun y2 => ?_) (fun y2 => ?_)⟩
    · refine q1 H (Same.refl H) (.inr (.inl fun z => ?_))
      have y2 : (!inV (.int k) (cs.map V.int)) = true := y2
      rw [(in_ints k cs).mpr z] at y2
      cases y2
    have kc : k ∈ cs := (in_ints k cs).mp (by
      have y2 : ¬ (!inV (.int k) (cs.map V.int)) = true := y2
      cases e : inV (.int k) (cs.map V.int) with
      | true => rfl
      | false => exact absurd (by rw [e]; rfl) y2)
    refine ⟨_, rfl, _, _, rfl, rfl, _, rfl, b, _, rfl, .inr (.of hb), rfl, ints_flat ds, _, rfl, ite2 (fun y3 => ?_) (fun y3 => ?_)⟩
    · refine q1 H (Same.refl H) (.inr (.inr (.inl fun z => ?_)))
      have y3 : (!inV (.int (0 - k)) (ds.map V.int)) = true := y3
      rw [(in_ints (0 - k) ds).mpr (by rw [show 0 - k = -k by omega]; exact z)] at y3
      cases y3
    have kd : -k ∈ ds := by
      have y3 : ¬ (!inV (.int (0 - k)) (ds.map V.int)) = true := y3
      have e : inV (.int (0 - k)) (ds.map V.int) = true := by
        cases e : inV (.int (0 - k)) (ds.map V.int) with
        | true => rfl
        | false => exact absurd (by rw [e]; rfl) y3
      have := (in_ints (0 - k) ds).mp e
      rw [show 0 - k = -k by omega] at this
      exact this
    clear y1 y2 y3
    refine Evl.q_cut (M := fun σ' H' => ∃ (p : Addr) (es : List Int), σ' = [some (.ref a), some (.ref b), some (.int k), some (.ref p), none] ∧ Same H H' ∧ H' p = some (.lst (es.map V.int)) ∧ es.Pairwise (· < ·) ∧ (∀ j, j ∈ es ↔ (j ∈ cs ∨ j ∈ ds)) ∧ es.length ≤ 40) ?_ ?_
    · refine ⟨_, rfl, _, rfl, a, b, _, _, rfl, rfl, ha, hb, ?_, fun q1 H1 u1 h1 => ?_⟩
      · rw [List.length_map, List.length_map]
        exact Nat.le_trans (by omega : _ ≤ 1000) (by decide)
      rw [← List.map_append] at h1
      refine ⟨q1, _, rfl, .of h1, by rw [List.length_append]; omega, fun r H2 n nr s2 hr' ln => ?_⟩
      rw [List.length_append] at ln
      refine ⟨r, _, n, rfl, hr', by omega, fun es up me le p H3 np s3 hp _ => ?_⟩
      exact ⟨p, es, rfl, (u1.trans s2).trans s3, hp, up, fun j => ((me j).trans decide_eq_true_iff).trans List.mem_append, by omega⟩
    rintro σ' H1 ⟨p, es, rfl, s1, hp, up, me, le⟩
    refine Evl.q_cut (M := fun σ' H' => ∃ p : Addr, σ' = [some (.ref a), some (.ref b), some (.int k), some (.ref p), none] ∧ Same H H' ∧ H' p = some (.lst ((es.filter fun s => !decide (V.int (s.natAbs : Int) = V.int k)).map V.int))) ?_ ?_
    · refine ⟨_, rfl, p, rfl, ⟨_, .of hp⟩, fun D nD => ?_⟩
      refine lc_list (xs := es.map V.int) (Pv := fun i H' => Same H1 H' ∧ H' D = some (.lst (((es.take i).filter fun s => !decide (V.int (s.natAbs : Int) = V.int k)).map V.int))) ⟨same_new nD, upd_same⟩ (fun i H' _ z => .of (z.1 _ _ hp)) ?_ ?_
      · rintro i x H2 hx ⟨s2, hD⟩
        obtain ⟨z, hz, rfl⟩ := at_int hx
        have ft := filt_take (f := fun s : Int => !decide (V.int (s.natAbs : Int) = V.int k)) hz
        have e : (if z < 0 then -z else z) = (z.natAbs : Int) := by
          split <;> omega
        refine ⟨rfl, _, rfl, z, rfl, _, rfl, rfl, _, rfl, ?_⟩
        rw [e]
        refine ite2 (fun y1 => ?_) (fun y1 => ?_)
        · refine ⟨_, rfl, _, hD, ?_, fun c o y => ?_, ?_⟩
          · rw [List.length_map]
            exact small1000 (Nat.le_trans (List.length_filter_le _ _) (by rw [List.length_take]; omega))
          · rw [upd_ne (ne_of_none y nD)]
            exact s2 _ _ y
          · rw [upd_same, ft, if_pos y1, List.map_append]
            rfl
        · refine ⟨s2, ?_⟩
          rw [ft, if_neg y1, List.append_nil]
          exact hD
      · rintro H2 ⟨s2, hD⟩
        rw [List.length_map, List.take_length] at hD
        exact ⟨D, rfl, s1.trans s2, hD⟩
    clear hp
    rintro σ' H2 ⟨p, rfl, s2, hp⟩
    have mf : ∀ j, j ∈ (es.filter fun s => !decide (V.int (s.natAbs : Int) = V.int k)) ↔ Bes cs ds k j := fun j => by
      rw [List.mem_filter, me]
      unfold Bes
      have e : ((!decide (V.int (j.natAbs : Int) = V.int k)) = true) ↔ (j.natAbs : Int) ≠ k := by
        rw [Bool.not_eq_true', decide_eq_false_iff_not]
        exact ⟨fun z y => z (by rw [y]), fun z y => z (V.int.inj y)⟩
      rw [e]
    have uf : (es.filter fun s => !decide (V.int (s.natAbs : Int) = V.int k)).Pairwise (· < ·) := up.filter _
    have lf : (es.filter fun s => !decide (V.int (s.natAbs : Int) = V.int k)).length ≤ 40 := Nat.le_trans (List.length_filter_le _ _) le
    generalize (es.filter fun s => !decide (V.int (s.natAbs : Int) = V.int k)) = fs at hp mf uf lf
    refine ⟨_, rfl, p, rfl, ⟨_, .of hp⟩, fun D nD => ?_⟩
    refine lc_list (xs := fs.map V.int) (Pv := fun i H' => Same H2 H' ∧ H' D = some (.lst (((fs.take i).filter fun s => inV (.int (0 - s)) (fs.map V.int)).map V.int))) ⟨same_new nD, upd_same⟩ (fun i H' _ z => .of (z.1 _ _ hp)) ?_ ?_
    · rintro i x H3 hx ⟨s3, hD⟩
      obtain ⟨z, hz, rfl⟩ := at_int hx
      have ft := filt_take (f := fun s : Int => inV (.int (0 - s)) (fs.map V.int)) hz
      refine ⟨rfl, _, rfl, _, _, rfl, rfl, _, rfl, p, _, rfl, .inl (.of (s3 _ _ hp)), rfl, ints_flat fs, _, rfl, ite2 (fun y1 => ?_) (fun y1 => ?_)⟩
      · have y1 : inV (.int (0 - z)) (fs.map V.int) = true := y1
        refine ⟨_, rfl, _, hD, ?_, fun c o y => ?_, ?_⟩
        · rw [List.length_map]
          exact small1000 (Nat.le_trans (List.length_filter_le _ _) (by rw [List.length_take]; omega))
        · rw [upd_ne (ne_of_none y nD)]
          exact s3 _ _ y
        · rw [upd_same, ft, if_pos y1, List.map_append]
          rfl
      · have y1 : ¬ inV (.int (0 - z)) (fs.map V.int) = true := y1
        refine ⟨s3, ?_⟩
        rw [ft, if_neg y1, List.append_nil]
        exact hD
    rintro H3 ⟨s3, hD⟩
    rw [List.length_map, List.take_length] at hD
    refine ⟨Nat.zero_le _, fun r H4 nr s4 hr4 _ => ?_⟩
    have s24 := s2.trans (s3.trans s4)
    cases hg : (fs.filter fun s => inV (.int (0 - s)) (fs.map V.int)) with
    | nil =>
      rw [hg] at hD
      refine ⟨_, _, .lst (.of (s4 _ _ hD)) .nil, .lst (.of hr4) .nil, rfl, rfl, false, rfl, ?_⟩
      have hp4 := s4 _ _ (s3 _ _ hp)
      refine ⟨_, rfl, p, _, rfl, .of hp4, fun r5 H5 n5 s5 h5 _ => ?_⟩
      refine q2 fs r5 H5 (s24.trans s5) k1 kc kd (fun j hj hn => ?_) uf mf h5
      have z : j ∈ (fs.filter fun s => inV (.int (0 - s)) (fs.map V.int)) := List.mem_filter.mpr ⟨(mf j).mpr hj, (in_ints _ _).mpr (by rw [show 0 - j = -j by omega]; exact (mf _).mpr hn)⟩
      rw [hg] at z
      cases z
    | cons j r' =>
      have z : j ∈ (fs.filter fun s => inV (.int (0 - s)) (fs.map V.int)) := by rw [hg]; exact List.mem_cons_self
      obtain ⟨z1, z2⟩ := List.mem_filter.mp z
      have z3 := (in_ints _ _).mp z2
      rw [show 0 - j = -j by omega] at z3
      rw [hg] at hD
      refine ⟨_, _, .lst (.of (s4 _ _ hD)) (dp_ints (j :: r')), .lst (.of hr4) .nil, shaped_list (flat_ints _), rfl, true, rfl, ?_⟩
      exact q1 H4 s24 (.inr (.inr (.inr ⟨j, (mf j).mp z1, (mf (-j)).mp z3⟩)))
end
end Ct
namespace Ct
open PySem PySem.Spec PyProof.Rows L2 GxR Nw Dr Kp Se
/-! ### what the program cuts and what is cut here agree -/
theorem up_unique : ∀ {xs ys : List Int}, xs.Pairwise (· < ·) → ys.Pairwise (· < ·) → (∀ j, j ∈ xs ↔ j ∈ ys) → xs = ys
  | [], [], _, _, _ => rfl
  | [], y :: r, _, _, h => absurd ((h y).mpr List.mem_cons_self) (by simp)
  | x :: r, [], _, _, h => absurd ((h x).mp List.mem_cons_self) (by simp)
  | x :: r, y :: t, hx, hy, h => by
    obtain ⟨x1, x2⟩ := List.pairwise_cons.mp hx
    obtain ⟨y1, y2⟩ := List.pairwise_cons.mp hy
    have e : x = y := by
      rcases List.mem_cons.mp ((h x).mp List.mem_cons_self) with e | m
      · exact e
      · rcases List.mem_cons.mp ((h y).mpr List.mem_cons_self) with e | m2
        · exact e.symm
        · have := y1 x m
          have := x1 y m2
          omega
    subst e
    rw [up_unique x2 y2 fun j => ⟨fun hj => ?_, fun hj => ?_⟩]
    · rcases List.mem_cons.mp ((h j).mp (List.mem_cons_of_mem _ hj)) with e | m
      · have := x1 j hj
        omega
      · exact m
    · rcases List.mem_cons.mp ((h j).mpr (List.mem_cons_of_mem _ hj)) with e | m
      · have := y1 j hj
        omega
      · exact m
variable {cs ds : List Int} {k : Int}
theorem meet_iff (hc : IsCl cs) : meetB cs ds k = true ↔ 1 ≤ k ∧ k ∈ cs ∧ -k ∈ ds := by
  unfold meetB
  rw [Bool.and_eq_true, Bool.and_eq_true, Bool.and_eq_true, decide_eq_true_iff, decide_eq_true_iff, in_ints, in_ints]
  constructor
  · rintro ⟨⟨⟨h1, _⟩, h2⟩, h3⟩
    exact ⟨h1, h2, h3⟩
  · rintro ⟨h1, h2, h3⟩
    exact ⟨⟨⟨h1, (hc.says k h2).2.2⟩, h2⟩, h3⟩
theorem not_int {a b : Int} : (!decide (V.int a = V.int b)) = true ↔ a ≠ b := by
  rw [Bool.not_eq_true', decide_eq_false_iff_not]
  exact ⟨fun z y => z (by rw [y]), fun z y => z (V.int.inj y)⟩
theorem says_iff (hc : IsCl cs) (hd : IsCl ds) (kc : k ∈ cs) (kd : -k ∈ ds) (k1 : 1 ≤ k) (j : Int) : j ∈ saysB cs ds k ↔ Bes cs ds k j := by
  unfold saysB Bes
  rw [List.mem_append, List.mem_filter, List.mem_filter, not_int, not_int]
  constructor
  · rintro (⟨h1, h2⟩ | ⟨h1, h2⟩)
    · refine ⟨.inl h1, fun z => ?_⟩
      have e : j = -k := by omega
      rw [e] at h1
      exact hc.opp k kc h1
    · refine ⟨.inr h1, fun z => ?_⟩
      have e : j = k := by omega
      rw [e] at h1
      exact hd.opp k h1 kd
  · rintro ⟨h1 | h1, h2⟩
    · exact .inl ⟨h1, by omega⟩
    · exact .inr ⟨h1, by omega⟩
theorem opp_iff (ns : List Int) (nz : ∀ j ∈ ns, j ≠ 0) : oppB ns = true ↔ ∃ j, j ∈ ns ∧ -j ∈ ns := by
  unfold oppB
  rw [List.any_eq_true]
  constructor
  · rintro ⟨j, hj, h⟩
    rw [Bool.and_eq_true, in_ints] at h
    exact ⟨j, hj, h.2⟩
  · rintro ⟨j, h1, h2⟩
    have := nz j h1
    by_cases p : 0 < j
    · exact ⟨j, h1, by rw [Bool.and_eq_true, in_ints, decide_eq_true_iff]; exact ⟨p, h2⟩⟩
    · exact ⟨-j, h2, by rw [Bool.and_eq_true, in_ints, decide_eq_true_iff, Int.neg_neg]; exact ⟨by omega, h1⟩⟩
/-- the cut of two claims: what comes, if anything -/
def Comes (cs ds : List Int) (k : Int) (ns : List Int) : Prop := 1 ≤ k ∧ k ∈ cs ∧ -k ∈ ds ∧ (∀ j, Bes cs ds k j → ¬ Bes cs ds k (-j)) ∧ ns.Pairwise (· < ·) ∧ ∀ j, j ∈ ns ↔ Bes cs ds k j
def NoCome (cs ds : List Int) (k : Int) : Prop := k < 1 ∨ k ∉ cs ∨ -k ∉ ds ∨ ∃ j, Bes cs ds k j ∧ Bes cs ds k (-j)
theorem Comes.one {ns ms : List Int} (a : Comes cs ds k ns) (b : Comes cs ds k ms) : ns = ms := up_unique a.2.2.2.2.1 b.2.2.2.2.1 fun j => (a.2.2.2.2.2 j).trans (b.2.2.2.2.2 j).symm
theorem Comes.no {ns : List Int} (a : Comes cs ds k ns) (b : NoCome cs ds k) : False := by
  obtain ⟨a1, a2, a3, a4, _⟩ := a
  rcases b with b | b | b | ⟨j, b1, b2⟩
  · omega
  · exact b a2
  · exact b a3
  · exact a4 j b1 b2
theorem comes_of (hc : IsCl cs) (hd : IsCl ds) {ns : List Int} (m : meetB cs ds k = true) (o : oppB (saysB cs ds k) = false) (up : ns.Pairwise (· < ·)) (me : ∀ j, j ∈ ns ↔ j ∈ saysB cs ds k) : Comes cs ds k ns := by
  obtain ⟨k1, kc, kd⟩ := (meet_iff hc).mp m
  have sb := says_iff hc hd kc kd k1
  refine ⟨k1, kc, kd, fun j h1 h2 => ?_, up, fun j => (me j).trans (sb j)⟩
  have nz : ∀ j ∈ saysB cs ds k, j ≠ 0 := fun j hj => by
    rcases ((sb j).mp hj).1 with h | h
    · exact (hc.says j h).1
    · exact (hd.says j h).1
  have := (opp_iff _ nz).mpr ⟨j, (sb j).mpr h1, (sb _).mpr h2⟩
  rw [o] at this
  cases this
theorem nocome_of (hc : IsCl cs) (hd : IsCl ds) (h : meetB cs ds k = false ∨ oppB (saysB cs ds k) = true) : NoCome cs ds k := by
  by_cases k1 : 1 ≤ k
  · by_cases kc : k ∈ cs
    · by_cases kd : -k ∈ ds
      · have m := (meet_iff (ds := ds) hc).mpr ⟨k1, kc, kd⟩
        rcases h with h | h
        · rw [m] at h
          cases h
        · have sb := says_iff hc hd kc kd k1
          have nz : ∀ j ∈ saysB cs ds k, j ≠ 0 := fun j hj => by
            rcases ((sb j).mp hj).1 with h | h
            · exact (hc.says j h).1
            · exact (hd.says j h).1
          obtain ⟨j, h1, h2⟩ := (opp_iff _ nz).mp h
          exact .inr (.inr (.inr ⟨j, (sb j).mp h1, (sb _).mp h2⟩))
      · exact .inr (.inr (.inl kd))
    · exact .inr (.inl kc)
  · exact .inl (by omega)
end Ct
namespace Od
open PySem PySem.Spec PyProof.Rows L2 GxR Nw Dr Kp
/-! ### anything: values by their data; no list among them is one of f -/
mutual
inductive OdV (f : Addr → Prop) (H : Hp) : V → PyData → Prop
  | non : OdV f H .non .none
  | bl (b : Bool) : OdV f H (.bl b) (.bool b)
  | int (i : Int) : OdV f H (.int i) (.int i)
  | str (x : Str) : OdV f H (.str x) (.str x)
  | lst {a : Addr} {xs : List V} {ds : List PyData} : H a = some (.lst xs) → ¬ f a → OdAll f H xs ds → OdV f H (.ref a) (.list ds)
  | tup {a : Addr} {xs : List V} {ds : List PyData} : H a = some (.tup xs) → OdAll f H xs ds → OdV f H (.ref a) (.tuple ds)
inductive OdAll (f : Addr → Prop) (H : Hp) : List V → List PyData → Prop
  | nil : OdAll f H [] []
  | cons {v : V} {vs : List V} {d : PyData} {ds : List PyData} : OdV f H v d → OdAll f H vs ds → OdAll f H (v :: vs) (d :: ds)
end
variable {f : Addr → Prop} {H H' : Hp}
mutual
theorem OdV.dp {K : PySem.W.Frag} : ∀ {d : PyData} {v : V}, OdV f H v d → Dp K H v d
  | .none, _, h => by cases h; exact .non
  | .bool _, _, h => by cases h; exact .bl _
  | .int _, _, h => by cases h; exact .int _
  | .str _, _, h => by cases h; exact .str _
  | .list ds, _, h => by cases h with | lst h1 _ h2 => exact .lst (.of h1) (OdAll.dp h2)
  | .tuple ds, _, h => by cases h with | tup h1 h2 => exact .tup (.of h1) (OdAll.dp h2)
  | .dict _, _, h => by cases h
theorem OdAll.dp {K : PySem.W.Frag} : ∀ {ds : List PyData} {vs : List V}, OdAll f H vs ds → DpAll K H vs ds
  | [], _, h => by cases h; exact .nil
  | d :: ds, _, h => by cases h with | cons h1 h2 => exact .cons (OdV.dp h1) (OdAll.dp h2)
end
mutual
theorem OdV.ke (k : Ke f H H') : ∀ {d : PyData} {v : V}, OdV f H v d → OdV f H' v d
  | .none, _, h => by cases h; exact .non
  | .bool _, _, h => by cases h; exact .bl _
  | .int _, _, h => by cases h; exact .int _
  | .str _, _, h => by cases h; exact .str _
  | .list ds, _, h => by cases h with | lst h1 n h2 => exact .lst (k.lst h1 n) n (OdAll.ke k h2)
  | .tuple ds, _, h => by cases h with | tup h1 h2 => exact .tup (k.tups _ _ h1) (OdAll.ke k h2)
  | .dict _, _, h => by cases h
theorem OdAll.ke (k : Ke f H H') : ∀ {ds : List PyData} {vs : List V}, OdAll f H vs ds → OdAll f H' vs ds
  | [], _, h => by cases h; exact .nil
  | d :: ds, _, h => by cases h with | cons h1 h2 => exact .cons (OdV.ke k h1) (OdAll.ke k h2)
end
theorem OdAll.len : ∀ {vs : List V} {ds : List PyData}, OdAll f H vs ds → vs.length = ds.length
  | [], _, h => by cases h; rfl
  | v :: vs, _, h => by cases h with | cons h1 h2 => rw [List.length_cons, List.length_cons, OdAll.len h2]
theorem OdAll.at : ∀ {vs : List V} {ds : List PyData} {i : Nat} {v : V}, OdAll f H vs ds → vs[i]? = some v → ∃ d, ds[i]? = some d ∧ OdV f H v d
  | [], _, _, _, _, e => by simp at e
  | v :: vs, _, 0, _, h, e => by
    cases h with
    | cons h1 h2 =>
      cases e
      exact ⟨_, rfl, h1⟩
  | v :: vs, _, i + 1, _, h, e => by
    cases h with
    | cons h1 h2 => exact OdAll.at (vs := vs) (i := i) h2 (by simpa using e)
theorem OdAll.cat : ∀ {vs us : List V} {ds es : List PyData}, OdAll f H vs ds → OdAll f H us es → OdAll f H (vs ++ us) (ds ++ es)
  | [], _, _, _, h, g => by cases h; exact g
  | v :: vs, _, _, _, h, g => by cases h with | cons h1 h2 => exact .cons h1 (OdAll.cat h2 g)
theorem OdAll.one {v : V} {d : PyData} (h : OdV f H v d) : OdAll f H [v] [d] := .cons h .nil
theorem OdAll.take : ∀ {vs : List V} {ds : List PyData} (n : Nat), OdAll f H vs ds → OdAll f H (vs.take n) (ds.take n)
  | _, _, 0, _ => by rw [List.take_zero, List.take_zero]; exact .nil
  | [], _, n + 1, h => by cases h; exact .nil
  | v :: vs, _, n + 1, h => by cases h with | cons h1 h2 => exact .cons h1 (OdAll.take n h2)
theorem OdAll.drop : ∀ {vs : List V} {ds : List PyData} (n : Nat), OdAll f H vs ds → OdAll f H (vs.drop n) (ds.drop n)
  | _, _, 0, h => by rw [List.drop_zero, List.drop_zero]; exact h
  | [], _, n + 1, h => by cases h; exact .nil
  | v :: vs, _, n + 1, h => by cases h with | cons h1 h2 => exact OdAll.drop n h2
theorem OdAll.rev : ∀ {vs : List V} {ds : List PyData}, OdAll f H vs ds → OdAll f H vs.reverse ds.reverse
  | [], _, h => by cases h; exact .nil
  | v :: vs, _, h => by
    cases h with
    | cons h1 h2 =>
      rw [List.reverse_cons, List.reverse_cons]
      exact (OdAll.rev h2).cat (.one h1)
theorem od_ints : ∀ ns : List Int, OdAll f H (ns.map V.int) (ns.map PyData.int)
  | [] => .nil
  | n :: r => .cons (.int n) (od_ints r)
/-! ### what anything is -/
def tyD : PyData → String
  | .none => "NoneType" | .bool _ => "bool" | .int _ => "int" | .str _ => "str" | .list _ => "list" | .tuple _ => "tuple" | .dict _ => "dict"
theorem OdV.ty {K : PySem.W.Frag} {d : PyData} {v : V} (h : OdV f H v d) : TyX K H v (.type (tyD d)) := by
  cases h with
  | non => exact .base .non
  | bl b => exact .base (.bl b)
  | int i => exact .base (.int i)
  | str x => exact .base (.str x)
  | lst h1 _ _ => exact .base (.lst h1)
  | tup h1 _ => exact .base (.tup h1)
def whD : PyData → Bool
  | .int _ => true
  | _ => false
def tuD : PyData → Bool
  | .tuple _ => true
  | _ => false
def numD : PyData → Int → Bool
  | .int n, m => decide (0 ≤ n) && decide (n < m)
  | _, _ => false
/-! ### small data, to be shown -/
structure Sm (B : Nat) (d : PyData) : Prop where
  sh : d.showable = true
  nd : d.hasDict = false
  dp : d.depth ≤ 6
  sz : d.shown.length ≤ B
structure SmAll (B : Nat) (ds : List PyData) : Prop where
  sh : PyData.showableAll ds = true
  nd : PyData.hasDictAll ds = false
  dp : PyData.depthAll ds ≤ 5
  sz : ∀ x ∈ PyData.shownAll ds, x.length ≤ B
theorem SmAll.nil {B : Nat} : SmAll B [] := ⟨rfl, rfl, by decide, fun _ h => nomatch h⟩
theorem SmAll.cons {B : Nat} {d : PyData} {ds : List PyData} (h : Sm B d) (h5 : d.depth ≤ 5) (t : SmAll B ds) : SmAll B (d :: ds) := by
  refine ⟨?_, ?_, ?_, fun x hx => ?_⟩
  · show (PyData.showable d && PyData.showableAll ds) = true
    rw [h.sh, t.sh]
    rfl
  · show (PyData.hasDict d || PyData.hasDictAll ds) = false
    rw [h.nd, t.nd]
    rfl
  · exact Nat.max_le.mpr ⟨h5, t.dp⟩
  · rcases List.mem_cons.mp hx with e | e
    · rw [e]
      exact h.sz
    · exact t.sz x e
theorem shownAll_len : ∀ ds : List PyData, (PyData.shownAll ds).length = ds.length
  | [] => rfl
  | _ :: r => congrArg (· + 1) (shownAll_len r)
theorem sum_le {B : Nat} : ∀ {l : List Nat}, (∀ x ∈ l, x ≤ B) → l.sum ≤ B * l.length
  | [], _ => Nat.zero_le _
  | x :: r, h => by
    have h1 := h x List.mem_cons_self
    have h2 := sum_le (l := r) fun y hy => h y (List.mem_cons_of_mem _ hy)
    rw [List.sum_cons, List.length_cons, Nat.mul_add]
    omega
theorem SmAll.sum {B : Nat} {ds : List PyData} (h : SmAll B ds) : ((PyData.shownAll ds).map (·.length)).sum ≤ B * ds.length := by
  have := sum_le (B := B) (l := (PyData.shownAll ds).map (·.length)) fun x hx => by
    obtain ⟨y, hy, rfl⟩ := List.mem_map.mp hx
    exact h.sz y hy
  rw [List.length_map, shownAll_len] at this
  exact this
theorem SmAll.list {B n B' : Nat} {ds : List PyData} (h : SmAll B ds) (l : ds.length ≤ n) (hb : B * n + 2 * n + 3 ≤ B') : Sm B' (.list ds) := by
  have e := listText_len_le (PyData.shownAll ds)
  have s := h.sum
  rw [shownAll_len] at e
  have m : B * ds.length ≤ B * n := Nat.mul_le_mul_left _ l
  exact ⟨h.sh, h.nd, by show PyData.depthAll ds + 1 ≤ 6; have := h.dp; omega, by show (listText (PyData.shownAll ds)).length ≤ B'; omega⟩
theorem SmAll.tuple {B n B' : Nat} {ds : List PyData} (h : SmAll B ds) (l : ds.length ≤ n) (hb : B * n + 2 * n + 3 ≤ B') : Sm B' (.tuple ds) := by
  have e := tupleText_len_le (PyData.shownAll ds)
  have s := h.sum
  rw [shownAll_len] at e
  have m : B * ds.length ≤ B * n := Nat.mul_le_mul_left _ l
  exact ⟨h.sh, h.nd, by show PyData.depthAll ds + 1 ≤ 6; have := h.dp; omega, by show (tupleText (PyData.shownAll ds)).length ≤ B'; omega⟩
theorem SmAll.cat {B : Nat} : ∀ {ds es : List PyData}, SmAll B ds → SmAll B es → SmAll B (ds ++ es)
  | [], _, _, g => g
  | d :: r, es, h, g => by
    have hs := h.sh
    have hn := h.nd
    have hd := h.dp
    have hz := h.sz
    have hs' : (PyData.showable d && PyData.showableAll r) = true := hs
    have hn' : (PyData.hasDict d || PyData.hasDictAll r) = false := hn
    rw [Bool.and_eq_true] at hs'
    rw [Bool.or_eq_false_iff] at hn'
    have hd' : Nat.max (PyData.depth d) (PyData.depthAll r) ≤ 5 := hd
    have z := Nat.max_le.mp hd'
    have hr : SmAll B r := ⟨hs'.2, hn'.2, z.2, fun x hx => hz x (List.mem_cons_of_mem _ hx)⟩
    exact SmAll.cons ⟨hs'.1, hn'.1, by omega, hz _ List.mem_cons_self⟩ z.1 (SmAll.cat hr g)
theorem SmAll.of {B : Nat} : ∀ {ds : List PyData}, (∀ d ∈ ds, Sm B d ∧ d.depth ≤ 5) → SmAll B ds
  | [], _ => .nil
  | d :: r, h => SmAll.cons (h d List.mem_cons_self).1 (h d List.mem_cons_self).2 (SmAll.of fun x hx => h x (List.mem_cons_of_mem _ hx))
theorem SmAll.mem {B : Nat} : ∀ {ds : List PyData}, SmAll B ds → ∀ d ∈ ds, Sm B d ∧ d.depth ≤ 5
  | [], _, d, hd => nomatch hd
  | e :: r, h, d, hd => by
    have hs' : (PyData.showable e && PyData.showableAll r) = true := h.sh
    have hn' : (PyData.hasDict e || PyData.hasDictAll r) = false := h.nd
    rw [Bool.and_eq_true] at hs'
    rw [Bool.or_eq_false_iff] at hn'
    have hd' : Nat.max (PyData.depth e) (PyData.depthAll r) ≤ 5 := h.dp
    have z := Nat.max_le.mp hd'
    rcases List.mem_cons.mp hd with u | u
    · rw [u]
      exact ⟨⟨hs'.1, hn'.1, by omega, h.sz _ List.mem_cons_self⟩, z.1⟩
    · exact SmAll.mem (ds := r) ⟨hs'.2, hn'.2, z.2, fun x hx => h.sz x (List.mem_cons_of_mem _ hx)⟩ d u
theorem Sm.mono {B B' : Nat} {d : PyData} (h : Sm B d) (l : B ≤ B') : Sm B' d := ⟨h.sh, h.nd, h.dp, Nat.le_trans h.sz l⟩
theorem small_ints : ∀ n : Fin 130, PyData.showable (.int ((n.val : Int) - 60)) = true ∧ (PyData.shown (.int ((n.val : Int) - 60))).length ≤ 3 := by decide +kernel
theorem sm_int {n : Int} (h0 : -60 ≤ n) (h1 : n < 70) : Sm 3 (.int n) := by
  have := small_ints ⟨(n + 60).toNat, by omega⟩
  rw [show (((n + 60).toNat : Nat) : Int) - 60 = n by omega] at this
  exact ⟨this.1, rfl, by show 0 ≤ 6; decide, this.2⟩
theorem OdV.un {g : Addr → Prop} (h : ∀ a, g a → f a) : ∀ {d : PyData} {v : V}, OdV f H v d → OdV g H v d := fun {d v} => OdV.rec (motive_1 := fun v d _ => OdV g H v d) (motive_2 := fun vs ds _ => OdAll g H vs ds) .non .bl .int .str (fun h1 n _ ih => .lst h1 (fun z => n (h _ z)) ih) (fun h1 _ ih => .tup h1 ih) .nil (fun _ _ i1 i2 => .cons i1 i2)
theorem OdAll.un {g : Addr → Prop} (h : ∀ a, g a → f a) : ∀ {ds : List PyData} {vs : List V}, OdAll f H vs ds → OdAll g H vs ds
  | [], _, x => by cases x; exact .nil
  | _ :: _, _, x => by cases x with | cons h1 h2 => exact .cons (OdV.un h h1) (OdAll.un h h2)
end Od
namespace Lr
open PySem PySem.Spec PyProof.Rows L2 GxR Nw Dr Kp Ct
/-! ### rows, ladders, their claims -/
inductive Rw where
  | book (n : Nat)
  | cut (i j : Nat) (k : Int)
/-- the row's parts -/
def Rw.vs : Rw → List V
  | .book n => [.str "book", .int (n : Nat)]
  | .cut i j k => [.str "cut", .int (i : Nat), .int (j : Nat), .int k]
def RowAt (H : Hp) (v : V) (r : Rw) : Prop := ∃ a, v = .ref a ∧ H a = some (.tup r.vs)
variable {F : Addr → Prop} {H H' : Hp}
theorem RowAt.ke {v : V} {r : Rw} (h : RowAt H v r) (k : Ke F H H') : RowAt H' v r := by
  obtain ⟨a, e, h⟩ := h
  exact ⟨a, e, k.tups _ _ h⟩
/-- items told one by one -/
def All2 {α β : Type} (R : α → β → Prop) (xs : List α) (ys : List β) : Prop := xs.length = ys.length ∧ ∀ (i : Nat) (x : α) (y : β), xs[i]? = some x → ys[i]? = some y → R x y
theorem All2.imp {α β : Type} {R S : α → β → Prop} {xs : List α} {ys : List β} (h : All2 R xs ys) (f : ∀ x y, R x y → S x y) : All2 S xs ys := ⟨h.1, fun i x y h1 h2 => f x y (h.2 i x y h1 h2)⟩
theorem All2.nil {α β : Type} {R : α → β → Prop} : All2 R ([] : List α) ([] : List β) := ⟨rfl, fun i x y h => by cases h⟩
theorem All2.snoc {α β : Type} {R : α → β → Prop} {xs : List α} {ys : List β} {x : α} {y : β} (h : All2 R xs ys) (r : R x y) : All2 R (xs ++ [x]) (ys ++ [y]) := by
  refine ⟨by rw [List.length_append, List.length_append, h.1]; rfl, fun i x' y' h1 h2 => ?_⟩
  by_cases hi : i < xs.length
  · rw [List.getElem?_append_left hi] at h1
    rw [List.getElem?_append_left (by rw [← h.1]; exact hi)] at h2
    exact h.2 i x' y' h1 h2
  · have e : i = xs.length := by
      have := (List.getElem?_eq_some_iff.mp h1).1
      rw [List.length_append, List.length_singleton] at this
      omega
    subst e
    rw [List.getElem?_append_right (Nat.le_refl _), Nat.sub_self] at h1
    rw [List.getElem?_append_right (by rw [h.1]; exact Nat.le_refl _), show xs.length - ys.length = 0 by rw [h.1]; exact Nat.sub_self _] at h2
    cases h1
    cases h2
    exact r
theorem All2.cat {α β : Type} {R : α → β → Prop} {xs us : List α} {ys ws : List β} (h : All2 R xs ys) (g : All2 R us ws) : All2 R (xs ++ us) (ys ++ ws) := by
  refine ⟨by rw [List.length_append, List.length_append, h.1, g.1], fun i x y h1 h2 => ?_⟩
  by_cases hi : i < xs.length
  · rw [List.getElem?_append_left hi] at h1
    rw [List.getElem?_append_left (by rw [← h.1]; exact hi)] at h2
    exact h.2 i x y h1 h2
  · rw [List.getElem?_append_right (by omega)] at h1
    rw [List.getElem?_append_right (by rw [← h.1]; omega), ← h.1] at h2
    exact g.2 _ x y h1 h2
theorem All2.take {α β : Type} {R : α → β → Prop} {xs : List α} {ys : List β} (h : All2 R xs ys) (n : Nat) : All2 R (xs.take n) (ys.take n) := by
  refine ⟨by rw [List.length_take, List.length_take, h.1], fun i x y h1 h2 => ?_⟩
  rw [List.getElem?_take] at h1 h2
  by_cases l : i < n
  · rw [if_pos l] at h1 h2
    exact h.2 i x y h1 h2
  · rw [if_neg l] at h1
    cases h1
theorem All2.at {α β : Type} {R : α → β → Prop} {xs : List α} {ys : List β} (h : All2 R xs ys) {i : Nat} {x : α} (e : xs[i]? = some x) : ∃ y, ys[i]? = some y ∧ R x y := by
  have l := (List.getElem?_eq_some_iff.mp e).1
  have l2 : i < ys.length := by rw [← h.1]; exact l
  exact ⟨ys[i], List.getElem?_eq_getElem l2, h.2 i x _ e (List.getElem?_eq_getElem l2)⟩
theorem All2.atR {α β : Type} {R : α → β → Prop} {xs : List α} {ys : List β} (h : All2 R xs ys) {i : Nat} {y : β} (e : ys[i]? = some y) : ∃ x, xs[i]? = some x ∧ R x y := by
  have l := (List.getElem?_eq_some_iff.mp e).1
  have l2 : i < xs.length := by rw [h.1]; exact l
  exact ⟨xs[i], List.getElem?_eq_getElem l2, h.2 i _ y (List.getElem?_eq_getElem l2) e⟩
/-- a list of claims, a list of rows -/
def ClL (H : Hp) (L : Addr) (cls : List (List Int)) : Prop := ∃ vs, H L = some (.lst vs) ∧ All2 (TupI H) vs cls
def RwL (H : Hp) (L : Addr) (rows : List Rw) : Prop := ∃ vs, H L = some (.lst vs) ∧ All2 (RowAt H) vs rows
theorem ClL.ke {L : Addr} {cls : List (List Int)} (h : ClL H L cls) (k : Ke F H H') (n : ¬ F L) : ClL H' L cls := by
  obtain ⟨vs, h1, h2⟩ := h
  exact ⟨vs, k.lst h1 n, h2.imp fun x y r => r.ke k⟩
theorem RwL.ke {L : Addr} {rows : List Rw} (h : RwL H L rows) (k : Ke F H H') (n : ¬ F L) : RwL H' L rows := by
  obtain ⟨vs, h1, h2⟩ := h
  exact ⟨vs, k.lst h1 n, h2.imp fun x y r => r.ke k⟩
theorem bk_all {v : V} {css : List (List Int)} (h : Bk H v css) : ∃ a vs, v = .ref a ∧ H a = some (.tup vs) ∧ All2 (TupI H) vs css := by
  obtain ⟨a, vs, e, h, l, t⟩ := h
  exact ⟨a, vs, e, h, l, t⟩
/-- the claim of a row behind rows with the claims cls -/
def RowCl (css cls : List (List Int)) : Rw → List Int → Prop
  | .book n, c => css[n]? = some c
  | .cut i j k, c => ∃ x y, cls[i]? = some x ∧ cls[j]? = some y ∧ Comes x y k c
/-- a ladder by the book, with its claims -/
def Lad (css : List (List Int)) (rows : List Rw) (cls : List (List Int)) : Prop := rows.length = cls.length ∧ ∀ (i : Nat) (r : Rw) (c : List Int), rows[i]? = some r → cls[i]? = some c → RowCl css (cls.take i) r c
theorem Lad.nil (css : List (List Int)) : Lad css [] [] := ⟨rfl, fun i r c h => by cases h⟩
theorem Lad.snoc {css cls : List (List Int)} {rows : List Rw} {r : Rw} {c : List Int} (h : Lad css rows cls) (hr : RowCl css cls r c) : Lad css (rows ++ [r]) (cls ++ [c]) := by
  refine ⟨by rw [List.length_append, List.length_append, h.1]; rfl, fun i r' c' h1 h2 => ?_⟩
  by_cases hi : i < rows.length
  · rw [List.getElem?_append_left hi] at h1
    rw [List.getElem?_append_left (by rw [← h.1]; exact hi)] at h2
    rw [List.take_append_of_le_length (by have := h.1; omega)]
    exact h.2 i r' c' h1 h2
  · have e : i = rows.length := by
      have := (List.getElem?_eq_some_iff.mp h1).1
      rw [List.length_append, List.length_singleton] at this
      omega
    subst e
    rw [List.getElem?_append_right (Nat.le_refl _), Nat.sub_self] at h1
    rw [List.getElem?_append_right (by rw [h.1]; exact Nat.le_refl _), show rows.length - cls.length = 0 by rw [h.1]; exact Nat.sub_self _] at h2
    cases h1
    cases h2
    rw [h.1, List.take_append_of_le_length (Nat.le_refl _), List.take_length]
    exact hr
theorem Lad.take {css cls : List (List Int)} {rows : List Rw} (h : Lad css rows cls) (n : Nat) : Lad css (rows.take n) (cls.take n) := by
  refine ⟨by rw [List.length_take, List.length_take, h.1], fun i r c h1 h2 => ?_⟩
  rw [List.getElem?_take] at h1 h2
  by_cases l : i < n
  · rw [if_pos l] at h1 h2
    rw [List.take_take, Nat.min_eq_left (by omega)]
    exact h.2 i r c h1 h2
  · rw [if_neg l] at h1
    cases h1
/-- what any two tellings of a row's claim tell is one -/
theorem RowCl.one {css cls : List (List Int)} {r : Rw} {c d : List Int} (a : RowCl css cls r c) (b : RowCl css cls r d) : c = d := by
  cases r with
  | book n => exact Option.some.inj (a.symm.trans b)
  | cut i j k =>
    obtain ⟨x, y, h1, h2, h3⟩ := a
    obtain ⟨x', y', h1', h2', h3'⟩ := b
    cases h1.symm.trans h1'
    cases h2.symm.trans h2'
    exact h3.one h3'
theorem RowCl.parts {css cls : List (List Int)} {i j : Nat} {k : Int} {c : List Int} (a : RowCl css cls (.cut i j k) c) : i < cls.length ∧ j < cls.length := by
  obtain ⟨x, y, h1, h2, _⟩ := a
  exact ⟨(List.getElem?_eq_some_iff.mp h1).1, (List.getElem?_eq_some_iff.mp h2).1⟩
theorem len_sub : ∀ (l m : List Int), l.Nodup → (∀ x ∈ l, x ∈ m) → l.length ≤ m.length
  | [], _, _, _ => Nat.zero_le _
  | x :: r, m, nd, h => by
    obtain ⟨h1, h2⟩ := List.nodup_cons.mp nd
    have ih := len_sub r (m.erase x) h2 fun y hy => (List.mem_erase_of_ne (fun e => h1 (by rw [← e]; exact hy))).mpr (h y (List.mem_cons_of_mem _ hy))
    have e := List.length_erase_of_mem (h x List.mem_cons_self)
    have p := List.length_pos_of_mem (h x List.mem_cons_self)
    rw [List.length_cons]
    omega
/-- rising, from -8 to 8, not 0, none opposite: a claim -/
theorem cl_mk {ns : List Int} (up : ns.Pairwise (· < ·)) (says : ∀ k ∈ ns, k ≠ 0 ∧ -8 ≤ k ∧ k ≤ 8) (opp : ∀ k ∈ ns, -k ∉ ns) : IsCl ns := by
  refine ⟨up, says, opp, ?_⟩
  have nd : (ns.map fun s => (s.natAbs : Int)).Nodup := List.pairwise_map.mpr (up.imp_of_mem fun {a b} ha hb hab e => by
    have : a = b ∨ a = -b := by omega
    rcases this with z | z
    · omega
    · have e2 : -b = a := by omega
      exact opp b hb (by rw [e2]; exact ha))
  have := len_sub _ [1, 2, 3, 4, 5, 6, 7, 8] nd fun x hx => by
    obtain ⟨s, hs, rfl⟩ := List.mem_map.mp hx
    have := says s hs
    simp only [List.mem_cons, List.not_mem_nil, or_false]
    omega
  rw [List.length_map] at this
  exact this
theorem cl_comes {cs ds ns : List Int} {k : Int} (hc : IsCl cs) (hd : IsCl ds) (h : Comes cs ds k ns) : IsCl ns := by
  obtain ⟨_, _, _, no, up, me⟩ := h
  refine cl_mk up (fun j hj => ?_) fun j hj hn => no j ((me j).mp hj) ((me (-j)).mp hn)
  rcases ((me j).mp hj).1 with z | z
  · exact hc.says j z
  · exact hd.says j z
theorem RowCl.isCl {css cls : List (List Int)} {r : Rw} {c : List Int} (hb : ∀ c ∈ css, IsCl c) (hc : ∀ c ∈ cls, IsCl c) (h : RowCl css cls r c) : IsCl c := by
  cases r with
  | book n => exact hb c (List.mem_of_getElem? h)
  | cut i j k =>
    obtain ⟨x, y, h1, h2, h3⟩ := h
    exact cl_comes (hc x (List.mem_of_getElem? h1)) (hc y (List.mem_of_getElem? h2)) h3
theorem Lad.isCl {css cls : List (List Int)} {rows : List Rw} (hb : ∀ c ∈ css, IsCl c) (h : Lad css rows cls) : ∀ c ∈ cls, IsCl c := by
  have key : ∀ n, n ≤ cls.length → ∀ c ∈ cls.take n, IsCl c := by
    intro n
    induction n with
    | zero => exact fun _ c hc => by simp at hc
    | succ n ih =>
      intro hn c hc
      rw [List.take_add_one] at hc
      rcases List.mem_append.mp hc with hc | hc
      · exact ih (by omega) c hc
      · have ln : n < cls.length := by omega
        have lr : n < rows.length := by rw [h.1]; exact ln
        rw [List.getElem?_eq_getElem ln] at hc
        obtain rfl : c = cls[n] := List.mem_singleton.mp hc
        exact (h.2 n rows[n] cls[n] (List.getElem?_eq_getElem lr) (List.getElem?_eq_getElem ln)).isCl hb (ih (by omega))
  have := key cls.length (Nat.le_refl _)
  rwa [List.take_length] at this
/-! ### min, max of a tuple of two whole numbers -/
section
variable {X : Cx}
def rT2 (K : PySem.W.Frag) (f : Int → Int → Int) : List V → Hp → VK → Prop := fun vs H Q => ∃ (a : Addr) (i j : Int), vs = [V.ref a] ∧ SqT K H a [.int i, .int j] ∧ Q (.int (f i j)) H
theorem two_of {its : List Value} {i j : Int} (r : Vals [V.int i, V.int j] its) : IntsAre its [i, j] := by
  obtain ⟨t, u, rfl⟩ := Vals.int2 r
  exact .cons _ _ (.cons _ _ .nil)
theorem cr_minT (hc : X.calm = true) (hu : X.A.units + 70 < cLine) : CallR X (.builtin "min") (rT2 X.K fun i j => if j < i then j else i) := by
  intro pins s σ H vs us Q I r h
  obtain ⟨a, i, j, rfl, hs, q⟩ := h
  obtain ⟨its, rv, hl, _⟩ := I.tuple hs
  rw [Vals.ref1 r]
  refine PySem.W.min_tuple_datum (α := Int) (x := i) (xs := [j]) (I.ok.hd hc) hl (PySem.W.HoldAll.of_ints (two_of rv)) (by show X.A.units + 1 + 0 < cLine; omega) fun n v h' tk hv hh hk => ?_
  have e : PySem.W.minOf i [j] = if j < i then j else i := by
    show (if decide (j < i) = true then j else i) = _
    by_cases z : j < i
    · rw [if_pos z, if_pos (decide_eq_true z)]
    · rw [if_neg z, if_neg (by rw [decide_eq_false z]; exact Bool.false_ne_true)]
  rw [e] at hh
  obtain ⟨as, hh⟩ := hh
  cases hh
  exact ⟨.int _, H, I.kept hk, ⟨_, rfl⟩, q⟩
theorem cr_maxT (hc : X.calm = true) (hu : X.A.units + 70 < cLine) : CallR X (.builtin "max") (rT2 X.K fun i j => if i < j then j else i) := by
  intro pins s σ H vs us Q I r h
  obtain ⟨a, i, j, rfl, hs, q⟩ := h
  obtain ⟨its, rv, hl, _⟩ := I.tuple hs
  rw [Vals.ref1 r]
  refine PySem.W.max_tuple_datum (α := Int) (x := i) (xs := [j]) (I.ok.hd hc) hl (PySem.W.HoldAll.of_ints (two_of rv)) (by show X.A.units + 1 + 0 < cLine; omega) fun n v h' tk hv hh hk => ?_
  have e : PySem.W.maxOf i [j] = if i < j then j else i := by
    show (if decide (i < j) = true then j else i) = _
    by_cases z : i < j
    · rw [if_pos z, if_pos (decide_eq_true z)]
    · rw [if_neg z, if_neg (by rw [decide_eq_false z]; exact Bool.false_ne_true)]
  rw [e] at hh
  obtain ⟨as, hh⟩ := hh
  cases hh
  exact ⟨.int _, H, I.kept hk, ⟨_, rfl⟩, q⟩
end
end Lr
namespace Lp
open PySem PySem.Spec PyProof.Rows L2 GxR Nw Dr Kp Se Ct Lr
structure Zp (mg : Str → Option Value) : Prop where
  z_len : mg "len" = none
  z_isinstance : mg "isinstance" = none
  z_tuple : mg "tuple" = none
  z_list : mg "list" = none
  z_max : mg "max" = none
theorem TupI.wr {H : Hp} {D : Addr} {x : V} {ns : List Int} {ys : List V} {o : HO} (h : TupI H x ns) (hD : H D = some (.lst ys)) : TupI (upd H D o) x ns := by
  obtain ⟨a, e, h⟩ := h
  refine ⟨a, e, ?_⟩
  rw [upd_ne (fun z => by rw [z, hD] at h; cases h)]
  exact h
theorem RowAt.wr {H : Hp} {D : Addr} {x : V} {r : Rw} {ys : List V} {o : HO} (h : RowAt H x r) (hD : H D = some (.lst ys)) : RowAt (upd H D o) x r := by
  obtain ⟨a, e, h⟩ := h
  refine ⟨a, e, ?_⟩
  rw [upd_ne (fun z => by rw [z, hD] at h; cases h)]
  exact h
theorem cl_snoc {H : Hp} {D : Addr} {vs : List V} {cls : List (List Int)} {x : V} {c : List Int} (hD : H D = some (.lst vs)) (h : All2 (TupI H) vs cls) (hx : TupI H x c) : ClL (upd H D (.lst (vs ++ [x]))) D (cls ++ [c]) :=
  ⟨_, upd_same, (h.imp fun _ _ r => TupI.wr r hD).snoc (TupI.wr hx hD)⟩
theorem take_snoc {α : Type} {l : List α} {i : Nat} {x : α} (h : l[i]? = some x) : l.take (i + 1) = l.take i ++ [x] := by
  rw [List.take_add_one, h]
  rfl
theorem cut_all {xs : List V} {n : Nat} (h : xs.length ≤ n) : cutV xs none (some (n : Int)) = xs := by
  unfold cutV
  rw [HT.sIx_none, HT.sIx_nat, List.drop_zero, Nat.sub_zero, Nat.min_eq_right h, List.take_length]
section
variable {P : Program} {w : World} {K : PySem.W.Frag} {mg : Str → Option Value} {base : Heap}
abbrev sNum : Stmt := topS 13
theorem scNum : FnScope ["thing", "many"] ["thing", "many"] (defScope sNum) := ⟨rfl, rfl, rfl, by decide +kernel, rfl, by decide +kernel, by decide +kernel⟩
def spNum : Sp := fun vs H Q _ => ∃ n m : Int, vs = [.int n, .int m] ∧ Q (.bl (decide (0 ≤ n) && decide (n < m))) H
theorem ok_num {f fW : Addr} {fd fdW : FuncData} {k : Nat} (F : Fun K "is_number_of" "is_number_of" sNum f fd) (FW : Fun K "is_whole" "is_whole" sWho fW fdW) (bW : Binds K fdW ["thing"] []) (gW : mg "is_whole" = some (.ref fW)) (GW : FnOk P w K mg base CX0 1 fW fdW ["thing"] spWho) :
    FnOk P w K mg base CX0 (k + 2) f fd ["thing", "many"] spNum := by
  refine F.ok scNum (fun vs H Q E h => ?_) (fun cdv A outer s H vs Q E hr h => ?_)
  · obtain ⟨n, m, rfl, _⟩ := h
    rfl
  · obtain ⟨n, m, rfl, q⟩ := h
    have hr1 : Room 1 _ := hr.mono (by omega)
    refine ⟨_, (pss_one (ps_ret (pe_and (pe_call GW hr1 (by rfl) gW FW.kp bW .nil pass0 (pa_cons (pv 0) pa_nil)) (pe_one (pe_chain op_le op_lt pe_int (pv 0) (pv 1)))))), ?_⟩
    refine ⟨_, rfl, n, rfl, _, rfl, ?_⟩
    refine ⟨_, rfl, 0, _, rfl, rfl, decide (0 ≤ n), rfl, ?_⟩
    cases e1 : decide (0 ≤ n) with
    | false =>
      rw [e1] at q
      exact q
    | true =>
      rw [e1] at q
      exact ⟨_, rfl, _, _, rfl, rfl, q⟩
abbrev sRow : Stmt := topS 14
theorem scRow : FnScope ["book", "claims", "row"] ["book", "claims", "row"] (defScope sRow) := ⟨rfl, rfl, rfl, by decide +kernel, rfl, by decide +kernel, by decide +kernel⟩
def spRow (Po : Addr) : Sp := fun vs H Q _ => ∃ (b v : V) (L : Addr) (css cls : List (List Int)) (r : Rw), vs = [b, .ref L, v] ∧ Bk H b css ∧ ClL H L cls ∧ RowAt H v r ∧ (∀ c ∈ css, IsCl c) ∧ (∀ c ∈ cls, IsCl c) ∧ TabG H Po ∧
  (∀ H', Ke Nof H H' → (∀ c, ¬ RowCl css cls r c) → Q .non H') ∧ ∀ (c : List Int) (p : Addr) (H' : Hp), Ke Nof H H' → RowCl css cls r c → H' p = some (.tup (c.map V.int)) → Q (.ref p) H'
theorem num_at {α : Type} {l : List α} {n : Nat} (h : (decide ((0 : Int) ≤ (n : Int)) && decide ((n : Int) < (l.length : Int))) = true) : n < l.length := by
  rw [Bool.and_eq_true] at h
  have := of_decide_eq_true h.2
  omega
theorem num_no {α : Type} {l : List α} {n : Nat} (h : ¬ (decide ((0 : Int) ≤ (n : Int)) && decide ((n : Int) < (l.length : Int))) = true) : l.length ≤ n := by
  rw [Bool.and_eq_true] at h
  by_cases z : n < l.length
  · exact absurd ⟨decide_eq_true (by omega), decide_eq_true (by omega)⟩ h
  · omega
theorem ok_row {f fN fC Po : Addr} {fd fdN fdC : FuncData} {k : Nat} (F : Fun K "claim_of_row" "claim_of_row" sRow f fd) (T : Zp mg) (FN : Fun K "is_number_of" "is_number_of" sNum fN fdN) (bN : Binds K fdN ["thing", "many"] []) (gN : mg "is_number_of" = some (.ref fN)) (GN : FnOk P w K mg base CX0 2 fN fdN ["thing", "many"] spNum)
    (FC : Fun K "cut_or_none" "cut_or_none" sCon fC fdC) (bC : Binds K fdC ["one", "other", "k"] []) (gC : mg "cut_or_none" = some (.ref fC)) (GC : FnOk P w K mg base CX0 4 fC fdC ["one", "other", "k"] (spCon Po)) :
    FnOk P w K mg base CX0 (k + 5) f fd ["book", "claims", "row"] (spRow Po) := by
  refine F.ok scRow (fun vs H Q E h => ?_) (fun cdv A outer s H vs Q E hr h => ?_)
  · obtain ⟨b, v, L, css, cls, r, rfl, _⟩ := h
    rfl
  · obtain ⟨b, v, L, css, cls, r, rfl, hb, ⟨lvs, hL, aL⟩, ⟨a, rfl, ha⟩, ib, ic, tg, q1, q2⟩ := h
    have hr2 : Room 2 _ := hr.mono (by omega)
    have hr4 : Room 4 _ := hr.mono (by omega)
    refine ⟨_, (pss_cons (ps_if (pt_not (pt_val (pe_callB call_isi (by rfl) T.z_isinstance (by decide +kernel) (pa_cons (pv 2) (pa_cons (pe_bltn (v := .ty "tuple") (u := .type "tuple") (by rfl) T.z_tuple (by decide +kernel) rfl) pa_nil))))) pss_never pss_nil)
      (pss_cons (ps_if (PW.pt (pw_and (pt_cmpR op_eq (pe_callB call_len_seq (by rfl) T.z_len (by decide +kernel) (pa_cons (pv 2) pa_nil)) pe_int (nomark _)) (pw_and1 (pt_cmpR op_eq (pe_ix ix_tup (pv 2) pe_int (fun _ _ => rfl)) pe_str (nomark _))))) (pss_one (ps_ret (pe_ifExp (pt_val (pe_call GN hr2 (by rfl) gN FN.kp bN .nil pass0 (pa_cons (pe_ix ix_tup (pv 2) pe_int (fun _ _ => rfl)) (pa_cons (pe_callB call_len_seq (by rfl) T.z_len (by decide +kernel) (pa_cons (pv 0) pa_nil)) pa_nil)))) (pe_ix ix_tup (pv 0) (pe_ix ix_tup (pv 2) pe_int (fun _ _ => rfl)) (fun _ _ => rfl)) pe_non))) pss_nil)
      (pss_cons (ps_if (PW.pt (pw_and (pt_cmpR op_eq (pe_callB call_len_seq (by rfl) T.z_len (by decide +kernel) (pa_cons (pv 2) pa_nil)) pe_int (nomark _)) (pw_and1 (pt_cmpR op_eq (pe_ix ix_tup (pv 2) pe_int (fun _ _ => rfl)) pe_str (nomark _))))) (pss_one (ps_if (PW.pt (pw_and (pt_val (pe_call GN hr2 (by rfl) gN FN.kp bN .nil pass0 (pa_cons (pe_ix ix_tup (pv 2) pe_int (fun _ _ => rfl)) (pa_cons (pe_callB call_len_seq (by rfl) T.z_len (by decide +kernel) (pa_cons (pv 1) pa_nil)) pa_nil)))) (pw_and1 (pt_val (pe_call GN hr2 (by rfl) gN FN.kp bN .nil pass0 (pa_cons (pe_ix ix_tup (pv 2) pe_int (fun _ _ => rfl)) (pa_cons (pe_callB call_len_seq (by rfl) T.z_len (by decide +kernel) (pa_cons (pv 1) pa_nil)) pa_nil))))))) (pss_one (ps_ret (pe_call GC hr4 (by rfl) gC FC.kp bC .nil pass0 (pa_cons (pe_ix ix_list (pv 1) (pe_ix ix_tup (pv 2) pe_int (fun _ _ => rfl)) (fun _ _ => rfl)) (pa_cons (pe_ix ix_list (pv 1) (pe_ix ix_tup (pv 2) pe_int (fun _ _ => rfl)) (fun _ _ => rfl)) (pa_cons (pe_ix ix_tup (pv 2) pe_int (fun _ _ => rfl)) pa_nil)))))) pss_nil)) pss_nil)
      (pss_one (ps_ret pe_non))))), ?_⟩
    obtain ⟨b, bvs, rfl, hbt, aB⟩ := bk_all hb
    refine ⟨_, rfl, .ref a, .ty "tuple", .type "tuple", .type "tuple", true, rfl, .ty _, .base (.tup ha), kit_ty (by decide +kernel), _, rfl, ?_⟩
    cases r with
    | book n =>
      refine ⟨_, rfl, a, _, rfl, .inr (.of ha), rfl, true, rfl, ?_⟩
      refine ⟨_, rfl, a, _, 0, .str "book", rfl, rfl, .of ha, rfl, rfl, true, by simp, ?_⟩
      refine ⟨_, rfl, a, _, 1, .int (n : Nat), rfl, rfl, .of ha, rfl, _, rfl, b, _, rfl, .inr (.of hbt), _, _, rfl, _, rfl, ite2 (fun y => ?_) (fun y => ?_)⟩
      · have lt := num_at y
        obtain ⟨c, hc, p, e, hp⟩ := aB.at (List.getElem?_eq_getElem lt)
        refine ⟨_, rfl, _, rfl, a, _, 1, .int (n : Nat), rfl, rfl, .of ha, rfl, b, bvs, _, .ref p, rfl, rfl, .of hbt, at_of (j := n) rfl (by rw [List.getElem?_eq_getElem lt, e]), ?_⟩
        exact q2 c p H (.refl _ _) hc hp
      · have ge := num_no y
        refine q1 H (.refl _ _) fun c hc => ?_
        have := (List.getElem?_eq_some_iff.mp hc).1
        have := aB.1
        omega
    | cut i j k =>
      refine ⟨_, rfl, a, _, rfl, .inr (.of ha), rfl, false, rfl, ?_⟩
      refine ⟨_, rfl, a, _, rfl, .inr (.of ha), rfl, true, rfl, ?_⟩
      refine ⟨_, rfl, a, _, 0, .str "cut", rfl, rfl, .of ha, rfl, rfl, true, by simp, ?_⟩
      refine ⟨_, rfl, a, _, 1, .int (i : Nat), rfl, rfl, .of ha, rfl, _, rfl, L, _, rfl, .inl (.of hL), _, _, rfl, _, rfl, ite2 (fun y => ?_) (fun y => ?_)⟩
      · have li := num_at y
        refine ⟨_, rfl, a, _, 2, .int (j : Nat), rfl, rfl, .of ha, rfl, _, rfl, L, _, rfl, .inl (.of hL), _, _, rfl, _, rfl, ite2 (fun y => ?_) (fun y => ?_)⟩
        · have lj := num_at y
          obtain ⟨ci, hci, ti⟩ := aL.at (List.getElem?_eq_getElem li)
          obtain ⟨cj, hcj, tj⟩ := aL.at (List.getElem?_eq_getElem lj)
          have i1 := ic ci (List.mem_of_getElem? hci)
          have i2 := ic cj (List.mem_of_getElem? hcj)
          have z1 := i1.len
          have z2 := i2.len
          refine ⟨_, rfl, _, rfl, a, _, 1, .int (i : Nat), rfl, rfl, .of ha, rfl, L, lvs, _, lvs[i], rfl, rfl, .of hL, at_of (j := i) rfl (List.getElem?_eq_getElem li), ?_⟩
          refine ⟨_, rfl, _, rfl, a, _, 2, .int (j : Nat), rfl, rfl, .of ha, rfl, L, lvs, _, lvs[j], rfl, rfl, .of hL, at_of (j := j) rfl (List.getElem?_eq_getElem lj), ?_⟩
          refine ⟨_, rfl, a, _, 3, .int k, rfl, rfl, .of ha, rfl, lvs[i], lvs[j], k, ci, cj, rfl, ti, tj, by omega, by omega, tg, fun H' ke no => ?_, fun ns p H' ke m o up me hp => ?_⟩
          · refine q1 H' ke fun c hc => ?_
            obtain ⟨x, y', h1, h2, h3⟩ := hc
            cases hci.symm.trans h1
            cases hcj.symm.trans h2
            exact h3.no (nocome_of i1 i2 no)
          · exact q2 ns p H' ke ⟨ci, cj, hci, hcj, comes_of i1 i2 m o up me⟩ hp
        · have ge := num_no y
          exact q1 H (.refl _ _) fun c hc => by
            have := hc.parts
            have := aL.1
            omega
      · have ge := num_no y
        exact q1 H (.refl _ _) fun c hc => by
          have := hc.parts
          have := aL.1
          omega
/-! ### ladders -/
/-- a book and a ladder by it -/
structure BL (H : Hp) (b : V) (L : Addr) (css : List (List Int)) (rows : List Rw) (cls : List (List Int)) : Prop where
  bk : Bk H b css
  rw : RwL H L rows
  ld : Lad css rows cls
  ib : ∀ c ∈ css, IsCl c
  le : rows.length ≤ 200
theorem BL.ke {F : Addr → Prop} {H H' : Hp} {b : V} {L : Addr} {css cls : List (List Int)} {rows : List Rw} (x : BL H b L css rows cls) (k : Ke F H H') (n : ¬ F L) : BL H' b L css rows cls := ⟨x.bk.ke k, x.rw.ke k n, x.ld, x.ib, x.le⟩
theorem BL.ic {H : Hp} {b : V} {L : Addr} {css cls : List (List Int)} {rows : List Rw} (x : BL H b L css rows cls) : ∀ c ∈ cls, IsCl c := x.ld.isCl x.ib
abbrev sAhe : Stmt := topS 15
theorem scAhe : FnScope ["book", "thing", "claims", "row", "claim"] ["book", "thing"] (defScope sAhe) := ⟨rfl, rfl, rfl, by decide +kernel, rfl, by decide +kernel, by decide +kernel⟩
def spAhe (Po : Addr) : Sp := fun vs H Q _ => ∃ (b : V) (L : Addr) (css cls : List (List Int)) (rows : List Rw), vs = [b, .ref L] ∧ BL H b L css rows cls ∧ TabG H Po ∧ ∀ p H', H p = none → Ke Nof H H' → ClL H' p cls → Q (.ref p) H'
theorem ok_ahe {f fR Po : Addr} {fd fdR : FuncData} {k : Nat} {tk : Tok} (F : Fun K "claims_ahead_of_fault" "claims_ahead_of_fault" sAhe f fd) (T : Zp mg) (M2 : mg "MOST_ROWS" = some (.int 200 tk)) (FR : Fun K "claim_of_row" "claim_of_row" sRow fR fdR) (bR : Binds K fdR ["book", "claims", "row"] []) (gR : mg "claim_of_row" = some (.ref fR)) (GR : FnOk P w K mg base CX0 5 fR fdR ["book", "claims", "row"] (spRow Po)) :
    FnOk P w K mg base CX0 (k + 6) f fd ["book", "thing"] (spAhe Po) := by
  refine F.ok scAhe (fun vs H Q E h => ?_) (fun cdv A outer s H vs Q E hr h => ?_)
  · obtain ⟨b, L, css, cls, rows, rfl, _⟩ := h
    rfl
  · obtain ⟨b, L, css, cls, rows, rfl, x, tg, q⟩ := h
    have hr5 : Room 5 _ := hr.mono (by omega)
    refine ⟨_, (Evl.pss_cut (ps_set (i := 2) scAhe.nd rfl (.inl rfl) (pe_lstN pa_nil))
      (pss_cons (ps_if (pt_not (pt_val (pe_callB call_isi (by rfl) T.z_isinstance (by decide +kernel) (pa_cons (pv 1) (pa_cons (pe_bltn (v := .ty "list") (u := .type "list") (by rfl) T.z_list (by decide +kernel) rfl) pa_nil))))) pss_never pss_nil)
      (pss_cons (ps_for PassesOwn.never rfl (pi_list (pe_slice sl_listN (pv 1) po_none (po_some (pe_glob (v := .int 200) rfl M2 ⟨_, rfl⟩)))) (pg_name (i := 3) scAhe.nd rfl (.inl rfl)) (pss_cons (ps_set (i := 4) scAhe.nd rfl (.inl rfl) (pe_call GR hr5 (by rfl) gR FR.kp bR .nil pass0 (pa_cons (pv 0) (pa_cons (pv 2) (pa_cons (pv 3) pa_nil)))))
      (pss_cons (ps_if (pt_cmpR op_isN (pv 4) pe_non (nomark _)) pss_never pss_nil)
      (pss_one (ps_expr (pe_bm PySem.F.plainAttrs_list PySem.F.slot_list_append PySem.F.type_list_append mt_append (pv 2) (pa_cons (pv 4) pa_nil)))))))
      (pss_one (ps_ret (pv 2)))))), ?_⟩
    refine Evl.q_cut (M := fun σ' H' => ∃ D : Addr, σ' = [some b, some (.ref L), some (.ref D), none, none] ∧ H D = none ∧ Same H H' ∧ H' D = some (.lst [])) ?_ ?_
    · exact ⟨Nat.zero_le _, fun D H1 nD s1 hD _ => ⟨D, rfl, nD, s1, hD⟩⟩
    rintro σ' H1 ⟨D, rfl, nD, s1, hD⟩
    have x1 := x.ke (Ke.same (F := Nof) s1) (fun z => z)
    obtain ⟨rvs, hLr, aR⟩ := x1.rw
    have l2 := x.le
    have l3 := x.ld.1
    refine ⟨_, rfl, .ref L, .ty "list", .type "list", .type "list", true, rfl, .ty _, .base (.lst hLr), kit_ty (by decide +kernel), _, rfl, ?_⟩
    refine ⟨_, rfl, _, rfl, L, _, rfl, .of hLr, fun S H2 nS s2 hS _ => ?_⟩
    have ec : cutV rvs none (some 200) = rvs := cut_all (n := 200) (by rw [aR.1]; exact l2)
    rw [ec] at hS
    have nSD : S ≠ D := Ne.symm (ne_of_none hD nS)
    have k02 : Ke Nof H H2 := (Ke.same s1).trans (.same s2)
    refine ⟨S, rfl, ⟨_, .of hS⟩, for_list (K := K) (a := S) (xs := rvs) (Pv := fun i σ H' => ∃ y3 y4 : Option V, σ = [some b, some (.ref L), some (.ref D), y3, y4] ∧ Ke Nof H H' ∧ H' S = some (.lst rvs) ∧ ClL H' D (cls.take i)) ?_ (fun i σ H' _ p => ?_) ?_ ?_⟩
    · exact ⟨none, none, rfl, k02, hS, [], s2 _ _ hD, .nil⟩
    · obtain ⟨_, _, _, _, h, _⟩ := p
      exact .of h
    · rintro i v σ H3 hv ⟨y3, y4, rfl, k3, hS3, dvs, hD3, aD⟩
      obtain ⟨r, hr', -⟩ := aR.at hv
      have lr := (List.getElem?_eq_some_iff.mp hr').1
      have lc : i < cls.length := by omega
      have rc := x.ld.2 i r cls[i] hr' (List.getElem?_eq_getElem lc)
      have rowv : RowAt H3 v r := by
        obtain ⟨vs0, hL0, a0⟩ := x.rw
        have e0 := s1 _ _ hL0
        rw [hLr] at e0
        cases e0
        exact (a0.2 i v r hv hr').ke k3
      refine ⟨_, rfl, _, rfl, _, rfl, b, v, D, css, cls.take i, r, rfl, x.bk.ke k3, ⟨dvs, hD3, aD⟩, rowv, x.ib, fun c hc => x.ic c (List.mem_of_mem_take hc), k3.tabs _ tg, fun H4 k4 no => (no _ rc).elim, fun c p H4 k4 rc' hp => ?_⟩
      obtain rfl := rc.one rc'
      refine ⟨_, rfl, rfl, false, rfl, ?_⟩
      have hD4 := k4.lst hD3 fun z => z
      have hS4 := k4.lst hS3 fun z => z
      refine ⟨_, rfl, .inl ⟨rfl, _, .of hD4⟩, _, rfl, D, _, _, rfl, rfl, hD4, ?_, ?_⟩
      · rw [aD.1, List.length_take]
        exact small1000 (by omega)
      · refine ⟨_, _, rfl, (k3.trans k4).upd nD, by rw [upd_ne nSD]; exact hS4, ?_⟩
        rw [take_snoc (List.getElem?_eq_getElem lc)]
        exact cl_snoc hD4 (aD.imp fun _ _ t => t.ke k4) ⟨p, rfl, hp⟩
    · rintro σ H3 ⟨y3, y4, rfl, k3, _, hD3⟩
      refine ⟨_, rfl, ?_⟩
      rw [aR.1, l3, List.take_length] at hD3
      exact q D H3 nD k3 hD3
abbrev sClo : Stmt := topS 16
theorem scClo : FnScope ["book", "ladder", "claims"] ["book", "ladder"] (defScope sClo) := ⟨rfl, rfl, rfl, by decide +kernel, rfl, by decide +kernel, by decide +kernel⟩
/-- of a ladder with a row at least -/
def spClo (Po : Addr) : Sp := fun vs H Q _ => ∃ (b : V) (L : Addr) (css cls : List (List Int)) (rows : List Rw), vs = [b, .ref L] ∧ BL H b L css rows cls ∧ 0 < rows.length ∧ TabG H Po ∧ ∀ p H', H p = none → Ke Nof H H' → ClL H' p cls → Q (.ref p) H'
theorem ok_clo {f fA Po : Addr} {fd fdA : FuncData} {k : Nat} (F : Fun K "claims_of" "claims_of" sClo f fd) (T : Zp mg) (FA : Fun K "claims_ahead_of_fault" "claims_ahead_of_fault" sAhe fA fdA) (bA : Binds K fdA ["book", "thing"] []) (gA : mg "claims_ahead_of_fault" = some (.ref fA)) (GA : FnOk P w K mg base CX0 6 fA fdA ["book", "thing"] (spAhe Po)) :
    FnOk P w K mg base CX0 (k + 7) f fd ["book", "ladder"] (spClo Po) := by
  refine F.ok scClo (fun vs H Q E h => ?_) (fun cdv A outer s H vs Q E hr h => ?_)
  · obtain ⟨b, L, css, cls, rows, rfl, _⟩ := h
    rfl
  · obtain ⟨b, L, css, cls, rows, rfl, x, l0, tg, q⟩ := h
    have hr6 : Room 6 _ := hr.mono (by omega)
    refine ⟨_, (pss_cons (ps_set (i := 2) scClo.nd rfl (.inl rfl) (pe_call GA hr6 (by rfl) gA FA.kp bA .nil pass0 (pa_cons (pv 0) (pa_cons (pv 1) pa_nil))))
      (pss_cons (ps_if (PW.pt (pw_or (pt_cmpR op_eq (pe_callB call_len_seq (by rfl) T.z_len (by decide +kernel) (pa_cons (pv 2) pa_nil)) pe_int (nomark _)) (pw_or1 (pt_cmpR op_lt (pe_callB call_len_seq (by rfl) T.z_len (by decide +kernel) (pa_cons (pv 2) pa_nil)) (pe_callB call_len_seq (by rfl) T.z_len (by decide +kernel) (pa_cons (pv 1) pa_nil)) (nomark _))))) pss_never pss_nil)
      (pss_one (ps_ret (pv 2))))), ?_⟩
    refine ⟨_, rfl, _, rfl, b, L, css, cls, rows, rfl, x, tg, fun p H1 np k1 hp => ?_⟩
    obtain ⟨pvs, hp1, aP⟩ := id hp
    obtain ⟨rvs, hLr, aR⟩ := (x.ke k1 fun z => z).rw
    have l3 := x.ld.1
    have e1 : (pvs.length : Int) = (rvs.length : Int) := by
      have := aP.1
      have := aR.1
      omega
    refine ⟨_, rfl, p, _, rfl, .inl (.of hp1), rfl, false, ?_, ?_⟩
    · have := aP.1
      rw [decide_eq_false]
      intro z
      have := V.int.inj z
      omega
    refine ⟨_, rfl, p, _, rfl, .inl (.of hp1), _, rfl, L, _, rfl, .inl (.of hLr), _, _, rfl, rfl, false, ?_, ?_⟩
    · show V.bl (decide ((pvs.length : Int) < (rvs.length : Int))) = V.bl false
      rw [decide_eq_false (by omega)]
    exact ⟨_, rfl, q p H1 np k1 hp⟩
abbrev sChk : Stmt := topS 17
theorem scChk : FnScope ["book", "ladder"] ["book", "ladder"] (defScope sChk) := ⟨rfl, rfl, rfl, by decide +kernel, rfl, by decide +kernel, by decide +kernel⟩
def spChk (Po : Addr) : Sp := fun vs H Q _ => ∃ (b : V) (L : Addr) (css cls : List (List Int)) (rows : List Rw), vs = [b, .ref L] ∧ BL H b L css rows cls ∧ 0 < rows.length ∧ TabG H Po ∧ ∀ H', Ke Nof H H' → Q .non H'
theorem ok_chk {f fL Po : Addr} {fd fdL : FuncData} {k : Nat} (F : Fun K "check_ladder" "check_ladder" sChk f fd) (FL : Fun K "claims_of" "claims_of" sClo fL fdL) (bL : Binds K fdL ["book", "ladder"] []) (gL : mg "claims_of" = some (.ref fL)) (GL : FnOk P w K mg base CX0 7 fL fdL ["book", "ladder"] (spClo Po)) :
    FnOk P w K mg base CX0 (k + 8) f fd ["book", "ladder"] (spChk Po) := by
  refine F.ok scChk (fun vs H Q E h => ?_) (fun cdv A outer s H vs Q E hr h => ?_)
  · obtain ⟨b, L, css, cls, rows, rfl, _⟩ := h
    rfl
  · obtain ⟨b, L, css, cls, rows, rfl, x, l0, tg, q⟩ := h
    have hr7 : Room 7 _ := hr.mono (by omega)
    refine ⟨_, (pss_one (ps_expr (pe_call GL hr7 (by rfl) gL FL.kp bL .nil pass0 (pa_cons (pv 0) (pa_cons (pv 1) pa_nil))))), ?_⟩
    exact ⟨_, rfl, _, rfl, b, L, css, cls, rows, rfl, x, l0, tg, fun p H1 np k1 hp => q H1 k1⟩
/-- the height of a row, of rows -/
def htOf (hs : List Int) : Rw → Int
  | .book _ => 0
  | .cut i j _ => 1 + (if hs.getD j 0 > hs.getD i 0 then hs.getD j 0 else hs.getD i 0)
def hts (rows : List Rw) : List Int := rows.foldl (fun hs r => hs ++ [htOf hs r]) []
theorem hts_snoc (rows : List Rw) (r : Rw) : hts (rows ++ [r]) = hts rows ++ [htOf (hts rows) r] := by
  unfold hts
  rw [List.foldl_append]
  rfl
theorem hts_len (rows : List Rw) : (hts rows).length = rows.length := by
  have key : ∀ (l : List Rw) (hs : List Int), (l.foldl (fun hs r => hs ++ [htOf hs r]) hs).length = hs.length + l.length := by
    intro l
    induction l with
    | nil => exact fun hs => rfl
    | cons r t ih =>
      intro hs
      rw [List.foldl_cons, ih]
      simp only [List.length_append, List.length_cons, List.length_nil]
      omega
  have := key rows []
  rw [List.length_nil, Nat.zero_add] at this
  exact this
abbrev sHor : Stmt := topS 18
theorem scHor : FnScope ["row", "heights_ahead"] ["row", "heights_ahead"] (defScope sHor) := ⟨rfl, rfl, rfl, by decide +kernel, rfl, by decide +kernel, by decide +kernel⟩
def spHor : Sp := fun vs H Q _ => ∃ (v : V) (L : Addr) (r : Rw) (hs : List Int), vs = [v, .ref L] ∧ RowAt H v r ∧ H L = some (.lst (hs.map V.int)) ∧ (∀ i j k, r = .cut i j k → i < hs.length ∧ j < hs.length) ∧ Q (.int (htOf hs r)) H
theorem ok_hor {f : Addr} {fd : FuncData} {k : Nat} (F : Fun K "height_of_row" "height_of_row" sHor f fd) (T : Zp mg) : FnOk P w K mg base CX0 (k + 1) f fd ["row", "heights_ahead"] spHor := by
  refine F.ok scHor (fun vs H Q E h => ?_) (fun cdv A outer s H vs Q E hr h => ?_)
  · obtain ⟨v, L, r, hs, rfl, _⟩ := h
    rfl
  · obtain ⟨v, L, r, hs, rfl, ⟨a, rfl, ha⟩, hL, hp, q⟩ := h
    refine ⟨_, (pss_cons (ps_if (pt_cmpR op_eq (pe_ix ix_tup (pv 0) pe_int (fun _ _ => rfl)) pe_str (nomark _)) (pss_one (ps_ret pe_int)) pss_nil)
      (pss_one (ps_ret (pe_op op_add pe_int (pe_callB (call_max2 rfl) (by rfl) T.z_max (by decide +kernel) (pa_cons (pe_ix ix_list (pv 1) (pe_ix ix_tup (pv 0) pe_int (fun _ _ => rfl)) (fun _ _ => rfl)) (pa_cons (pe_ix ix_list (pv 1) (pe_ix ix_tup (pv 0) pe_int (fun _ _ => rfl)) (fun _ _ => rfl)) pa_nil))))))), ?_⟩
    cases r with
    | book n =>
      exact ⟨_, rfl, a, _, 0, .str "book", rfl, rfl, .of ha, rfl, rfl, true, by simp, q⟩
    | cut i j k =>
      obtain ⟨li, lj⟩ := hp i j k rfl
      refine ⟨_, rfl, a, _, 0, .str "cut", rfl, rfl, .of ha, rfl, rfl, false, by simp; decide, ?_⟩
      refine ⟨_, rfl, _, rfl, a, _, 1, .int (i : Nat), rfl, rfl, .of ha, rfl, L, _, _, .int hs[i], rfl, rfl, .of hL, at_of (j := i) rfl (by rw [List.getElem?_map, List.getElem?_eq_getElem li]; rfl), ?_⟩
      refine ⟨_, rfl, _, rfl, a, _, 2, .int (j : Nat), rfl, rfl, .of ha, rfl, L, _, _, .int hs[j], rfl, rfl, .of hL, at_of (j := j) rfl (by rw [List.getElem?_map, List.getElem?_eq_getElem lj]; rfl), ?_⟩
      refine ⟨_, _, rfl, _, _, rfl, rfl, ?_⟩
      have e1 : hs.getD i 0 = hs[i] := by rw [List.getD_eq_getElem?_getD, List.getElem?_eq_getElem li]; rfl
      have e2 : hs.getD j 0 = hs[j] := by rw [List.getD_eq_getElem?_getD, List.getElem?_eq_getElem lj]; rfl
      have q : Q (.int (1 + (if hs.getD j 0 > hs.getD i 0 then hs.getD j 0 else hs.getD i 0))) H := q
      rw [e1, e2] at q
      exact q
abbrev sHei : Stmt := topS 19
theorem scHei : FnScope ["book", "ladder", "told", "row"] ["book", "ladder"] (defScope sHei) := ⟨rfl, rfl, rfl, by decide +kernel, rfl, by decide +kernel, by decide +kernel⟩
def spHei (Po : Addr) : Sp := fun vs H Q _ => ∃ (b : V) (L : Addr) (css cls : List (List Int)) (rows : List Rw), vs = [b, .ref L] ∧ BL H b L css rows cls ∧ 0 < rows.length ∧ TabG H Po ∧ ∀ p H', Frs H p → Ke Nof H H' → H' p = some (.lst ((hts rows).map V.int)) → Q (.ref p) H'
theorem Lad.parts {css cls : List (List Int)} {rows : List Rw} (h : Lad css rows cls) {n i j : Nat} {k : Int} (e : rows[n]? = some (.cut i j k)) : i < n ∧ j < n := by
  have l := (List.getElem?_eq_some_iff.mp e).1
  have l2 : n < cls.length := by rw [← h.1]; exact l
  have := (h.2 n _ _ e (List.getElem?_eq_getElem l2)).parts
  rw [List.length_take] at this
  omega
theorem ok_hei {f fK fH Po : Addr} {fd fdK fdH : FuncData} {k : Nat} (F : Fun K "heights" "heights" sHei f fd) (FK : Fun K "check_ladder" "check_ladder" sChk fK fdK) (bK : Binds K fdK ["book", "ladder"] []) (gK : mg "check_ladder" = some (.ref fK)) (GK : FnOk P w K mg base CX0 8 fK fdK ["book", "ladder"] (spChk Po))
    (FH : Fun K "height_of_row" "height_of_row" sHor fH fdH) (bH : Binds K fdH ["row", "heights_ahead"] []) (gH : mg "height_of_row" = some (.ref fH)) (GH : FnOk P w K mg base CX0 1 fH fdH ["row", "heights_ahead"] spHor) :
    FnOk P w K mg base CX0 (k + 9) f fd ["book", "ladder"] (spHei Po) := by
  refine F.ok scHei (fun vs H Q E h => ?_) (fun cdv A outer s H vs Q E hr h => ?_)
  · obtain ⟨b, L, css, cls, rows, rfl, _⟩ := h
    rfl
  · obtain ⟨b, L, css, cls, rows, rfl, x, l0, tg, q⟩ := h
    have hr8 : Room 8 _ := hr.mono (by omega)
    have hr1 : Room 1 _ := hr.mono (by omega)
    refine ⟨_, (Evl.pss_cut (ps_expr (pe_call GK hr8 (by rfl) gK FK.kp bK .nil pass0 (pa_cons (pv 0) (pa_cons (pv 1) pa_nil))))
      (Evl.pss_cut (ps_set (i := 2) scHei.nd rfl (.inl rfl) (pe_lstN pa_nil))
      (pss_cons (ps_for PassesOwn.never rfl (pi_list (pv 1)) (pg_name (i := 3) scHei.nd rfl (.inl rfl)) (pss_one (ps_expr (pe_bm PySem.F.plainAttrs_list PySem.F.slot_list_append PySem.F.type_list_append mt_append (pv 2) (pa_cons (pe_call GH hr1 (by rfl) gH FH.kp bH .nil pass0 (pa_cons (pv 3) (pa_cons (pv 2) pa_nil))) pa_nil)))))
      (pss_one (ps_ret (pv 2)))))), ?_⟩
    refine Evl.q_cut (M := fun σ' H' => σ' = [some b, some (.ref L), none, none] ∧ Ke Nof H H') ?_ ?_
    · exact ⟨_, rfl, _, rfl, b, L, css, cls, rows, rfl, x, l0, tg, fun H1 k1 => ⟨rfl, k1⟩⟩
    rintro σ' H1 ⟨rfl, k1⟩
    refine Evl.q_cut (M := fun σ' H' => ∃ D : Addr, σ' = [some b, some (.ref L), some (.ref D), none] ∧ H1 D = none ∧ Same H1 H' ∧ H' D = some (.lst [])) ?_ ?_
    · exact ⟨Nat.zero_le _, fun D H2 nD s2 hD _ => ⟨D, rfl, nD, s2, hD⟩⟩
    rintro σ' H2 ⟨D, rfl, nD, s2, hD⟩
    have k2 : Ke Nof H H2 := k1.trans (.same s2)
    obtain ⟨rvs, hLr, aR⟩ := (x.ke k2 fun z => z).rw
    have nLD : D ≠ L := fun z => by
      have := (x.ke k1 fun z => z).rw
      obtain ⟨_, h1, _⟩ := this
      rw [← z, nD] at h1
      cases h1
    have l2 := x.le
    have fr : Frs H D := .ke0 k1 (.of nD)
    refine ⟨_, rfl, L, rfl, ⟨_, .of hLr⟩, for_list (K := K) (a := L) (xs := rvs) (Pv := fun i σ H' => ∃ y3 : Option V, σ = [some b, some (.ref L), some (.ref D), y3] ∧ Ke Nof H1 H' ∧ H' D = some (.lst ((hts (rows.take i)).map V.int))) ?_ (fun i σ H' _ p => ?_) ?_ ?_⟩
    · exact ⟨none, rfl, .same s2, hD⟩
    · obtain ⟨_, _, k3, _⟩ := p
      obtain ⟨vs0, h0, a0⟩ := (x.ke k1 fun z => z).rw
      have e0 := s2 _ _ h0
      rw [hLr] at e0
      cases e0
      exact .of (k3.lst h0 fun z => z)
    · rintro i v σ H3 hv ⟨y3, rfl, k3, hD3⟩
      obtain ⟨vs0, h0, a0⟩ := (x.ke k1 fun z => z).rw
      have e0 := s2 _ _ h0
      rw [hLr] at e0
      cases e0
      obtain ⟨r, hr', rv⟩ := a0.at hv
      have hl := hts_len (rows.take i)
      have lr := (List.getElem?_eq_some_iff.mp hr').1
      rw [List.length_take] at hl
      refine ⟨_, rfl, .inl ⟨rfl, _, .of hD3⟩, _, rfl, _, rfl, v, D, r, _, rfl, rv.ke k3, hD3, fun a b' k' e => ?_, ?_⟩
      · subst e
        have := Lad.parts x.ld hr'
        omega
      · refine ⟨D, _, _, rfl, rfl, hD3, by rw [List.length_map]; exact small1000 (by omega), ?_⟩
        refine ⟨_, rfl, k3.upd nD, ?_⟩
        rw [upd_same, take_snoc hr', hts_snoc, List.map_append]
        rfl
    · rintro σ H3 ⟨y3, rfl, k3, hD3⟩
      refine ⟨_, rfl, ?_⟩
      rw [aR.1, List.take_length] at hD3
      exact q D H3 fr (k1.trans k3) hD3
end
end Lp
namespace Ll
open PySem PySem.Spec PyProof.Rows L2 GxR Nw Dr Kp Se Cl Ct Lr Lp
structure Zy (mg : Str → Option Value) : Prop where
  z_len : mg "len" = none
  z_isinstance : mg "isinstance" = none
  z_tuple : mg "tuple" = none
  z_int : mg "int" = none
  z_bool : mg "bool" = none
  z_all : mg "all" = none
  z_min : mg "min" = none
  z_max : mg "max" = none
  z_range : mg "range" = none
/-- a row as data -/
def dat : Rw → PyData
  | .book n => .tuple [.str "book", .int (n : Nat)]
  | .cut i j k => .tuple [.str "cut", .int (i : Nat), .int (j : Nat), .int k]
theorem dp_row {K : PySem.W.Frag} {H : Hp} {v : V} {r : Rw} (h : RowAt H v r) : Dp K H v (dat r) := by
  obtain ⟨a, rfl, h⟩ := h
  cases r with
  | book n => exact .tup (.of h) (.cons (.str _) (.cons (.int _) .nil))
  | cut i j k => exact .tup (.of h) (.cons (.str _) (.cons (.int _) (.cons (.int _) (.cons (.int _) .nil))))
theorem dp_rows {K : PySem.W.Frag} {H : Hp} : ∀ {vs : List V} {rows : List Rw}, All2 (RowAt H) vs rows → DpAll K H vs (rows.map dat)
  | [], [], _ => .nil
  | [], r :: t, h => by cases h.1
  | v :: t, [], h => by cases h.1
  | v :: t, r :: u, h => .cons (dp_row (h.2 0 v r rfl rfl)) (dp_rows ⟨by have := h.1; simp only [List.length_cons] at this; omega, fun i x y h1 h2 => h.2 (i + 1) x y h1 h2⟩)
theorem lay_rows : ∀ rows : List Rw, PyData.canLayAll0 (rows.map dat) = true ∧ PyData.depthAll (rows.map dat) ≤ 3
  | [] => ⟨rfl, by decide⟩
  | r :: t => by
    obtain ⟨h1, h2⟩ := lay_rows t
    refine ⟨?_, ?_⟩
    · show (PyData.canLay0 (dat r) && PyData.canLayAll0 (t.map dat)) = true
      rw [h1]
      have b1 : PyData.strOk "book" = true := by decide +kernel
      have b2 : PyData.strOk "cut" = true := by decide +kernel
      cases r <;> simp [dat, PyData.canLay0, PyData.canLayAll0, b1, b2]
    · show Nat.max (PyData.depth (dat r)) (PyData.depthAll (t.map dat)) ≤ 3
      refine Nat.max_le.mpr ⟨?_, h2⟩
      cases r <;> simp [dat, PyData.depth, PyData.depthAll]
theorem shaped_rows (rows : List Rw) : SeqAt.shaped (.list (rows.map dat)) = true := by
  obtain ⟨h1, h2⟩ := lay_rows rows
  show (PyData.canLayAll0 (rows.map dat) && decide (PyData.depthAll (rows.map dat) + 1 ≤ 64)) = true
  rw [h1, decide_eq_true (by omega)]
  rfl
theorem Rw.tail (r : Rw) : ∃ ns : List Int, r.vs = r.vs.headD .non :: ns.map V.int ∧ ns.length ≤ 3 := by
  cases r with
  | book n => exact ⟨[(n : Nat)], rfl, by simp⟩
  | cut i j k => exact ⟨[(i : Nat), (j : Nat), k], rfl, by simp⟩
theorem cut_1 (x : V) (xs : List V) : cutV (x :: xs) (some 1) none = xs := by
  unfold cutV
  have e : (1 : Int) = ((1 : Nat) : Int) := rfl
  rw [HT.sIx_none, e, HT.sIx_nat]
  simp
theorem cut_13 (x : V) (a b c : V) : cutV [x, a, b, c] (some 1) (some 3) = [a, b] := by
  unfold cutV
  have e : (1 : Int) = ((1 : Nat) : Int) := rfl
  have e3 : (3 : Int) = ((3 : Nat) : Int) := rfl
  rw [e, e3, HT.sIx_nat, HT.sIx_nat]
  rfl
end Ll
namespace Xb
open PySem PySem.Spec PyProof.Rows L2 Nw Kp Lr
/-! ### is (not) True; enumerate over a list; claims as data -/
def rNotB : R2 := fun x y H Q => ∃ b c : Bool, x = .bl b ∧ y = .bl c ∧ Q (.bl (b != c)) H
theorem op_notB {X : Cx} : OpR X (compareOp .IsNot) rNotB := by
  intro pins s σ H x y v u Q I rx ry h
  obtain ⟨b, c, rfl, rfl, q⟩ := h
  cases rx
  cases ry
  exact isnot_bool ⟨.bl _, H, I, rfl, q⟩
theorem for_enl {K : PySem.W.Frag} {a : Addr} {xs : List V} {g : TG} {tb : TS} {D : Ends} {σ : L2.St} {H : Hp} (Pv : Nat → L2.St → Hp → Prop) (h0 : Pv 0 σ H) (hl : ∀ i σ H, i ≤ xs.length → Pv i σ H → SqL K H a xs)
    (hs : ∀ i x σ H T, xs[i]? = some x → Pv i σ H → H T = none → g (.ref T) σ (upd H T (.tup [.int (i : Nat), x])) fun σ2 H2 => tb { D with nx := Pv (i + 1), ct := Pv (i + 1), bk := D.nx } σ2 H2) (hd : ∀ σ H, Pv xs.length σ H → D.nx σ H) :
    ∃ W : Nat → Nat → L2.St → Hp → Prop, (∃ m, W 0 m σ H) ∧ ∀ i m σ H, W i m σ H →
      ((Ite K a).stop i H ∧ D.nx σ H) ∨ ((Ite K a).go i H ∧ ∃ N : L2.St → Hp → Prop, (∀ σ' H', N σ' H' → ∃ m', m' < m ∧ W (i + 1) m' σ' H') ∧ ∀ x H', (Ite K a).yld i H x H' → g x σ H' fun σ2 H2 => tb { D with nx := N, ct := N, bk := D.nx } σ2 H2) := by
  refine ⟨fun i m σ H => i + m = xs.length ∧ Pv i σ H, ⟨xs.length, Nat.zero_add _, h0⟩, fun i m σ H ⟨e, p⟩ => ?_⟩
  have sq := hl i σ H (by omega) p
  cases m with
  | zero =>
    obtain rfl : i = xs.length := by omega
    exact .inl ⟨⟨xs, sq, Nat.le_refl _⟩, hd σ H p⟩
  | succ m =>
    have hx := List.getElem?_eq_getElem (show i < xs.length by omega)
    refine .inr ⟨⟨xs, _, sq, hx⟩, Pv (i + 1), fun σ' H' q => ⟨m, Nat.lt_succ_self m, by omega, q⟩, ?_⟩
    rintro y H' ⟨T, x, rfl, nT, rfl, hy⟩
    exact hs i x σ H T (hy xs sq) p nT
def cdat (c : List Int) : PyData := .tuple (c.map PyData.int)
theorem dp_cls {K : PySem.W.Frag} {H : Hp} : ∀ {vs : List V} {cls : List (List Int)}, All2 (TupI H) vs cls → DpAll K H vs (cls.map cdat)
  | [], [], _ => .nil
  | [], r :: t, h => by cases h.1
  | v :: t, [], h => by cases h.1
  | v :: t, c :: u, h => by
    obtain ⟨a, rfl, ha⟩ := h.2 0 v c rfl rfl
    exact .cons (.tup (.of ha) (dp_ints c)) (dp_cls ⟨by have := h.1; simp only [List.length_cons] at this; omega, fun i x y h1 h2 => h.2 (i + 1) x y h1 h2⟩)
theorem lay_cls : ∀ cls : List (List Int), PyData.canLayAll0 (cls.map cdat) = true ∧ PyData.depthAll (cls.map cdat) ≤ 3
  | [] => ⟨rfl, by decide⟩
  | c :: t => by
    obtain ⟨h1, h2⟩ := lay_cls t
    refine ⟨?_, ?_⟩
    · show (PyData.canLayAll0 (c.map PyData.int) && PyData.canLayAll0 (t.map cdat)) = true
      rw [h1, flat_lay _ (flat_ints c)]
      rfl
    · show Nat.max (PyData.depthAll (c.map PyData.int) + 1) (PyData.depthAll (t.map cdat)) ≤ 3
      have := flat_depth _ (flat_ints c)
      exact Nat.max_le.mpr ⟨by omega, h2⟩
theorem shaped_cls (cls : List (List Int)) : SeqAt.shaped (.list (cls.map cdat)) = true := by
  obtain ⟨h1, h2⟩ := lay_cls cls
  show (PyData.canLayAll0 (cls.map cdat) && decide (PyData.depthAll (cls.map cdat) + 1 ≤ 64)) = true
  rw [h1, decide_eq_true (by omega)]
  rfl
theorem cut_to (xs : List V) (n : Nat) : cutV xs none (some (n : Int)) = xs.take n := by
  unfold cutV
  rw [HT.sIx_none, HT.sIx_nat, List.drop_zero, Nat.sub_zero]
  by_cases h : n ≤ xs.length
  · rw [Nat.min_eq_left h]
  · rw [Nat.min_eq_right (by omega), List.take_length, List.take_of_length_le (by omega)]
end Xb
namespace Wg
open PySem PySem.Spec PyProof.Rows L2 GxR Nw Dr Kp Se Ct Lr Lp Ll Od
/-! ### rows and ladders: of anything -/
section
variable {P : Program} {w : World} {K : PySem.W.Frag} {mg : Str → Option Value} {base : Heap} {CX : CXT} {k : Nat} {f : Addr} {fd : FuncData} {ps : List Str}
def orS (a b : Sp) : Sp := fun vs H Q E => a vs H Q E ∨ b vs H Q E
theorem ok_or {a b : Sp} (F : FnOk P w K mg base CX k f fd ps a) (G : FnOk P w K mg base CX k f fd ps b) : FnOk P w K mg base CX k f fd ps (orS a b) :=
  ⟨fun us H Q E h => h.elim (F.len us H Q E) (G.len us H Q E), fun A outer s H args us vs Q E room env bind rel ask => ask.elim (F.run A outer s H args us vs Q E room env bind rel) (G.run A outer s H args us vs Q E room env bind rel)⟩
theorem ok_weak {a b : Sp} (F : FnOk P w K mg base CX k f fd ps a) (i : ∀ vs H Q E, b vs H Q E → a vs H Q E) : FnOk P w K mg base CX k f fd ps b :=
  ⟨fun us H Q E h => F.len us H Q E (i _ _ _ _ h), fun A outer s H args us vs Q E room env bind rel ask => F.run A outer s H args us vs Q E room env bind rel (i _ _ _ _ ask)⟩
end
/-! ### data -/
theorem eqv_str {d : PyData} {x : Str} : PyData.eqv d (.str x) = true ↔ d = .str x := by
  cases d <;> simp [PyData.eqv]
theorem two_of {f0 : Addr → Prop} {H : Hp} {xs : List V} {ds : List PyData} (h : OdAll f0 H xs ds) (l : xs.length = 2) : ∃ v0 v1 d0 d1, xs = [v0, v1] ∧ ds = [d0, d1] ∧ OdV f0 H v0 d0 ∧ OdV f0 H v1 d1 := by
  match xs, l, h with
  | [v0, v1], _, .cons h0 (.cons h1 .nil) => exact ⟨v0, v1, _, _, rfl, rfl, h0, h1⟩
theorem four_of {f0 : Addr → Prop} {H : Hp} {xs : List V} {ds : List PyData} (h : OdAll f0 H xs ds) (l : xs.length = 4) : ∃ v0 v1 v2 v3 d0 d1 d2 d3, xs = [v0, v1, v2, v3] ∧ ds = [d0, d1, d2, d3] ∧ OdV f0 H v0 d0 ∧ OdV f0 H v1 d1 ∧ OdV f0 H v2 d2 ∧ OdV f0 H v3 d3 := by
  match xs, l, h with
  | [v0, v1, v2, v3], _, .cons h0 (.cons h1 (.cons h2 (.cons h3 .nil))) => exact ⟨v0, v1, v2, v3, _, _, _, _, rfl, rfl, h0, h1, h2, h3⟩
theorem num_int {d : PyData} {m : Int} (h : numD d m = true) : ∃ n : Nat, d = .int (n : Nat) ∧ ((n : Nat) : Int) < m := by
  cases d with
  | int i =>
    have h : (decide (0 ≤ i) && decide (i < m)) = true := h
    rw [Bool.and_eq_true] at h
    have h1 := of_decide_eq_true h.1
    have h2 := of_decide_eq_true h.2
    exact ⟨i.toNat, by rw [Int.toNat_of_nonneg h1], by omega⟩
  | _ => cases h
theorem num_yes {n : Nat} {m : Int} (h : (n : Int) < m) : numD (.int (n : Nat)) m = true := by
  show (decide ((0 : Int) ≤ (n : Nat)) && decide (((n : Nat) : Int) < m)) = true
  rw [decide_eq_true (by omega), decide_eq_true h]
  rfl
theorem dat_two {d0 d1 : PyData} {r : Rw} (h : PyData.tuple [d0, d1] = dat r) : ∃ n : Nat, r = .book n ∧ d0 = .str "book" ∧ d1 = .int (n : Nat) := by
  cases r with
  | book n =>
    have e := PyData.tuple.inj h
    simp only [List.cons.injEq] at e
    exact ⟨n, rfl, e.1, e.2.1⟩
  | cut i j k =>
    have e := congrArg List.length (PyData.tuple.inj h)
    simp at e
theorem dat_four {d0 d1 d2 d3 : PyData} {r : Rw} (h : PyData.tuple [d0, d1, d2, d3] = dat r) : ∃ (i j : Nat) (k : Int), r = .cut i j k ∧ d0 = .str "cut" ∧ d1 = .int (i : Nat) ∧ d2 = .int (j : Nat) ∧ d3 = .int k := by
  cases r with
  | book n =>
    have e := congrArg List.length (PyData.tuple.inj h)
    simp at e
  | cut i j k =>
    have e := PyData.tuple.inj h
    simp only [List.cons.injEq] at e
    exact ⟨i, j, k, rfl, e.1, e.2.1, e.2.2.1, e.2.2.2.1⟩
theorem dat_len {ds : List PyData} {r : Rw} (h : PyData.tuple ds = dat r) : ds.length = 2 ∨ ds.length = 4 := by
  cases r with
  | book n => exact .inl (by rw [PyData.tuple.inj h]; rfl)
  | cut i j k => exact .inr (by rw [PyData.tuple.inj h]; rfl)
theorem dat_tup {d : PyData} {r : Rw} (h : d = dat r) : ∃ ds, d = .tuple ds := by
  cases r with
  | book n => exact ⟨_, h⟩
  | cut i j k => exact ⟨_, h⟩
theorem dat_inj {r q : Rw} (h : dat r = dat q) : r = q := by
  cases r with
  | book n =>
    obtain ⟨m, e, _, e2⟩ := dat_two h
    have : n = m := by
      have := PyData.int.inj e2
      omega
    rw [e, this]
  | cut i j k =>
    obtain ⟨i', j', k', e, _, e1, e2, e3⟩ := dat_four h
    have h1 := PyData.int.inj e1
    have h2 := PyData.int.inj e2
    have h3 := PyData.int.inj e3
    rw [e, h3, show i = i' by omega, show j = j' by omega]
theorem map_inj : ∀ {l m : List Rw}, l.map dat = m.map dat → l = m
  | [], [], _ => rfl
  | [], _ :: _, h => by cases h
  | _ :: _, [], h => by cases h
  | a :: l, b :: m, h => by
    obtain ⟨h1, h2⟩ := List.cons.inj h
    rw [dat_inj h1, map_inj h2]
theorem shaped_all : ∀ {ds : List PyData}, PyData.canLayAll0 ds = true → ∀ e ∈ ds, PyData.canLay0 e = true
  | [], _, e, he => nomatch he
  | d :: r, h, e, he => by
    have h : (PyData.canLay0 d && PyData.canLayAll0 r) = true := h
    rw [Bool.and_eq_true] at h
    rcases List.mem_cons.mp he with z | z
    · rw [z]
      exact h.1
    · exact shaped_all h.2 e z
theorem depth_all : ∀ {ds : List PyData} {e : PyData}, e ∈ ds → e.depth ≤ PyData.depthAll ds
  | d :: r, e, he => by
    have h : PyData.depthAll (d :: r) = Nat.max d.depth (PyData.depthAll r) := rfl
    rw [h]
    rcases List.mem_cons.mp he with z | z
    · rw [z]
      exact Nat.le_max_left _ _
    · exact Nat.le_trans (depth_all z) (Nat.le_max_right _ _)
theorem shaped_mk {d : PyData} (h : PyData.canLay0 d = true) (l : d.depth ≤ 64) : SeqAt.shaped d = true := by
  show (PyData.canLay0 d && decide (d.depth ≤ 64)) = true
  rw [h, decide_eq_true l]
  rfl
theorem shaped_ps {d : PyData} (h : SeqAt.shaped d = true) : PyData.canLay0 d = true ∧ d.depth ≤ 64 := by
  have h : (PyData.canLay0 d && decide (d.depth ≤ 64)) = true := h
  rw [Bool.and_eq_true] at h
  exact ⟨h.1, of_decide_eq_true h.2⟩
theorem shaped_tup {ds : List PyData} (h : SeqAt.shaped (.tuple ds) = true) : ∀ e ∈ ds, SeqAt.shaped e = true := fun e he => by
  obtain ⟨h1, h2⟩ := shaped_ps h
  refine shaped_mk (shaped_all h1 e he) ?_
  have := depth_all he
  have h2 : PyData.depthAll ds + 1 ≤ 64 := h2
  omega
theorem shaped_lst {ds : List PyData} (h : SeqAt.shaped (.list ds) = true) : ∀ e ∈ ds, SeqAt.shaped e = true := fun e he => by
  obtain ⟨h1, h2⟩ := shaped_ps h
  refine shaped_mk (shaped_all h1 e he) ?_
  have := depth_all he
  have h2 : PyData.depthAll ds + 1 ≤ 64 := h2
  omega
theorem shaped_book : SeqAt.shaped (.str "book") = true := by decide +kernel
theorem shaped_cut : SeqAt.shaped (.str "cut") = true := by decide +kernel
/-! ### ladders of anything -/
def NoRow (css cls : List (List Int)) (d : PyData) : Prop := ∀ r c, d = dat r → ¬ RowCl css cls r c
/-- the rows ahead of the first fault -/
structure Ahead (css : List (List Int)) (ds : List PyData) (rows : List Rw) (cls : List (List Int)) : Prop where
  ld : Lad css rows cls
  tk : ds.take rows.length = rows.map dat
  le : rows.length ≤ 200
  ln : rows.length ≤ ds.length
  st : rows.length = ds.length ∨ rows.length = 200 ∨ ∃ d, ds[rows.length]? = some d ∧ NoRow css cls d
def IsLad (css : List (List Int)) (d : PyData) : Prop := ∃ rows cls, d = .list (rows.map dat) ∧ Lad css rows cls ∧ 1 ≤ rows.length ∧ rows.length ≤ 200
theorem Lad.one {css : List (List Int)} {rows : List Rw} {c1 c2 : List (List Int)} (a : Lad css rows c1) (b : Lad css rows c2) : c1 = c2 := by
  have l1 := a.1
  have l2 := b.1
  have key : ∀ n, n ≤ rows.length → c1.take n = c2.take n := by
    intro n
    induction n with
    | zero => exact fun _ => rfl
    | succ n ih =>
      intro hn
      have i := ih (by omega)
      have h1 := List.getElem?_eq_getElem (show n < c1.length by omega)
      have h2 := List.getElem?_eq_getElem (show n < c2.length by omega)
      have hr := List.getElem?_eq_getElem (show n < rows.length by omega)
      have r1 := a.2 n _ _ hr h1
      have r2 := b.2 n _ _ hr h2
      rw [i] at r1
      rw [List.take_add_one, List.take_add_one, h1, h2, i, r1.one r2]
  have := key rows.length (Nat.le_refl _)
  rwa [List.take_of_length_le (by omega), List.take_of_length_le (by omega)] at this
theorem ahead_lad {css : List (List Int)} {ds : List PyData} {rows : List Rw} {cls : List (List Int)} (h : Ahead css ds rows cls) : (0 < rows.length ∧ rows.length = ds.length) ↔ IsLad css (.list ds) := by
  constructor
  · rintro ⟨l0, e⟩
    refine ⟨rows, cls, ?_, h.ld, l0, h.le⟩
    rw [← h.tk, e, List.take_length]
  · rintro ⟨rs, cs, e, ld, l1, l2⟩
    have e := PyData.list.inj e
    subst e
    have tk := h.tk
    rw [← List.map_take] at tk
    have er := map_inj tk
    have ll : (rs.map dat).length = rs.length := List.length_map ..
    have ln := h.ln
    rw [ll] at ln ⊢
    have full : rows.length = rs.length := by
      rcases h.st with z | z | ⟨d, hd, no⟩
      · rw [ll] at z
        exact z
      · omega
      · exfalso
        rw [List.getElem?_map] at hd
        have lt : rows.length < rs.length := by
          cases q : rs[rows.length]? with
          | none =>
            rw [q] at hd
            cases hd
          | some r => exact (List.getElem?_eq_some_iff.mp q).1
        have hr := List.getElem?_eq_getElem lt
        rw [hr] at hd
        have lc := ld.1
        have hc := List.getElem?_eq_getElem (show rows.length < cs.length by omega)
        have rc := ld.2 _ _ _ hr hc
        have lt2 := ld.take rows.length
        rw [er] at lt2
        have ec := Lad.one h.ld lt2
        rw [← ec] at rc
        exact no _ _ (Option.some.inj hd).symm rc
    exact ⟨by omega, full⟩
/-- two tellings of what stands ahead of the fault are one -/
theorem Ahead.one {css : List (List Int)} {ds : List PyData} {r1 r2 : List Rw} {c1 c2 : List (List Int)} (a : Ahead css ds r1 c1) (b : Ahead css ds r2 c2) : r1 = r2 ∧ c1 = c2 := by
  have key : ∀ {r1 r2 : List Rw} {c1 c2 : List (List Int)}, Ahead css ds r1 c1 → Ahead css ds r2 c2 → r2.length ≤ r1.length := fun {r1 r2 c1 c2} a b => by
    apply Classical.byContradiction
    intro n
    have lt : r1.length < r2.length := by omega
    have bl := b.le
    have bn := b.ln
    have pre : r2.take r1.length = r1 := map_inj (by rw [List.map_take, ← b.tk, List.take_take, Nat.min_eq_left (by omega), a.tk])
    rcases a.st with z | z | ⟨d, hd, no⟩
    · omega
    · omega
    · have hr := List.getElem?_eq_getElem lt
      have lc := b.ld.1
      have hc := List.getElem?_eq_getElem (show r1.length < c2.length by omega)
      have rc := b.ld.2 _ _ _ hr hc
      have lt2 := b.ld.take r1.length
      rw [pre] at lt2
      rw [← Lad.one a.ld lt2] at rc
      refine no _ _ ?_ rc
      have : (ds.take r2.length)[r1.length]? = some d := by rw [List.getElem?_take, if_pos lt]; exact hd
      rw [b.tk, List.getElem?_map, hr] at this
      exact (Option.some.inj this).symm
  have le1 := key a b
  have le2 := key b a
  have e : r1 = r2 := map_inj (by rw [← a.tk, ← b.tk, show r1.length = r2.length by omega])
  subst e
  exact ⟨rfl, Lad.one a.ld b.ld⟩
section
variable {P : Program} {w : World} {K : PySem.W.Frag} {mg : Str → Option Value} {base : Heap}
/-- whether it is a whole number, of anything -/
def spWhG : Sp := fun vs H Q _ => ∃ (f0 : Addr → Prop) (v : V) (d : PyData), vs = [v] ∧ OdV f0 H v d ∧ Q (.bl (whD d)) H
theorem ok_whp {f : Addr} {fd : FuncData} {k : Nat} (F : Fun K "is_whole" "is_whole" sWho f fd) (T : Zc mg) : FnOk P w K mg base CX0 (k + 1) f fd ["thing"] spWhG := by
  refine F.ok scWho (fun vs H Q E h => ?_) (fun cdv A outer s H vs Q E hr h => ?_)
  · obtain ⟨f0, v, d, rfl, _⟩ := h
    rfl
  · obtain ⟨f0, v, d, rfl, hv, q⟩ := h
    refine ⟨_, (pss_one (ps_ret (pe_and (pe_callB call_isi (by rfl) T.z_isinstance (by decide +kernel) (pa_cons (pv 0) (pa_cons (pe_bltn (v := .ty "int") (u := .type "int") (by rfl) T.z_int (by decide +kernel) rfl) pa_nil))) (pe_one (pe_not (pe_callB call_isi (by rfl) T.z_isinstance (by decide +kernel) (pa_cons (pv 0) (pa_cons (pe_bltn (v := .ty "bool") (u := .type "bool") (by rfl) T.z_bool (by decide +kernel) rfl) pa_nil)))))))), ?_⟩
    have t := hv.ty (K := K)
    cases d with
    | int n => exact ⟨_, rfl, v, .ty "int", .type "int", .type "int", true, rfl, .ty _, t, kit_ty (by decide +kernel), _, rfl, _, rfl, v, .ty "bool", .type "int", .type "bool", false, rfl, .ty _, t, kit_ty (by decide +kernel), _, rfl, q⟩
    | bool b => exact ⟨_, rfl, v, .ty "int", .type "bool", .type "int", true, rfl, .ty _, t, kit_ty (by decide +kernel), _, rfl, _, rfl, v, .ty "bool", .type "bool", .type "bool", true, rfl, .ty _, t, kit_ty (by decide +kernel), _, rfl, q⟩
    | none => exact ⟨_, rfl, v, .ty "int", .type "NoneType", .type "int", false, rfl, .ty _, t, kit_ty (by decide +kernel), _, rfl, q⟩
    | str x => exact ⟨_, rfl, v, .ty "int", .type "str", .type "int", false, rfl, .ty _, t, kit_ty (by decide +kernel), _, rfl, q⟩
    | list x => exact ⟨_, rfl, v, .ty "int", .type "list", .type "int", false, rfl, .ty _, t, kit_ty (by decide +kernel), _, rfl, q⟩
    | tuple x => exact ⟨_, rfl, v, .ty "int", .type "tuple", .type "int", false, rfl, .ty _, t, kit_ty (by decide +kernel), _, rfl, q⟩
    | dict x => cases hv
theorem wh_weak {f : Addr} {fd : FuncData} {k : Nat} (F : FnOk P w K mg base CX0 k f fd ["thing"] spWhG) : FnOk P w K mg base CX0 k f fd ["thing"] spWho := ok_weak F fun vs H Q E ⟨n, e, q⟩ => ⟨Nof, .int n, .int n, e, .int n, q⟩
def spNmG : Sp := fun vs H Q _ => ∃ (f0 : Addr → Prop) (v : V) (d : PyData) (m : Int), vs = [v, .int m] ∧ OdV f0 H v d ∧ Q (.bl (numD d m)) H
theorem ok_numG {f fW : Addr} {fd fdW : FuncData} {k : Nat} (F : Fun K "is_number_of" "is_number_of" sNum f fd) (FW : Fun K "is_whole" "is_whole" sWho fW fdW) (bW : Binds K fdW ["thing"] []) (gW : mg "is_whole" = some (.ref fW)) (GW : FnOk P w K mg base CX0 1 fW fdW ["thing"] spWhG) :
    FnOk P w K mg base CX0 (k + 2) f fd ["thing", "many"] spNmG := by
  refine F.ok scNum (fun vs H Q E h => ?_) (fun cdv A outer s H vs Q E hr h => ?_)
  · obtain ⟨f0, v, d, m, rfl, _⟩ := h
    rfl
  · obtain ⟨f0, v, d, m, rfl, hv, q⟩ := h
    have hr1 : Room 1 _ := hr.mono (by omega)
    refine ⟨_, (pss_one (ps_ret (pe_and (pe_call GW hr1 (by rfl) gW FW.kp bW .nil pass0 (pa_cons (pv 0) pa_nil)) (pe_one (pe_chain op_le op_lt pe_int (pv 0) (pv 1)))))), ?_⟩
    cases d with
    | int n =>
      cases hv
      refine ⟨_, rfl, f0, .int n, .int n, rfl, .int n, _, rfl, ?_⟩
      refine ⟨_, rfl, 0, _, rfl, rfl, decide (0 ≤ n), rfl, ?_⟩
      have q : Q (.bl (decide (0 ≤ n) && decide (n < m))) H := q
      cases e1 : decide (0 ≤ n) with
      | false =>
        rw [e1] at q
        exact q
      | true =>
        rw [e1] at q
        exact ⟨_, rfl, _, _, rfl, rfl, q⟩
    | bool b => exact ⟨_, rfl, f0, v, _, rfl, hv, _, rfl, q⟩
    | none => exact ⟨_, rfl, f0, v, _, rfl, hv, _, rfl, q⟩
    | str x => exact ⟨_, rfl, f0, v, _, rfl, hv, _, rfl, q⟩
    | list x => exact ⟨_, rfl, f0, v, _, rfl, hv, _, rfl, q⟩
    | tuple x => exact ⟨_, rfl, f0, v, _, rfl, hv, _, rfl, q⟩
    | dict x => cases hv
/-- by what is no whole number no two meet -/
def spCmN : Sp := fun vs H Q _ => ∃ (f0 : Addr → Prop) (v u kv : V) (d : PyData), vs = [v, u, kv] ∧ OdV f0 H kv d ∧ whD d = false ∧ Q (.bl false) H
theorem ok_cmN {f fW : Addr} {fd fdW : FuncData} {k : Nat} {tk : Tok} (F : Fun K "can_meet" "can_meet" sCme f fd) (T : Zc mg) (M8 : mg "MOST_THINGS" = some (.int 8 tk)) (FW : Fun K "is_whole" "is_whole" sWho fW fdW) (bW : Binds K fdW ["thing"] []) (gW : mg "is_whole" = some (.ref fW)) (GW : FnOk P w K mg base CX0 1 fW fdW ["thing"] spWhG) :
    FnOk P w K mg base CX0 (k + 2) f fd ["one", "other", "k"] spCmN := by
  refine F.ok scCme (fun vs H Q E h => ?_) (fun cdv A outer s H vs Q E hr h => ?_)
  · obtain ⟨f0, v, u, kv, d, rfl, _⟩ := h
    rfl
  · obtain ⟨f0, v, u, kv, d, rfl, hv, no, q⟩ := h
    have hr1 : Room 1 _ := hr.mono (by omega)
    refine ⟨_, (pss_one (ps_ret (pe_and (pe_call GW hr1 (by rfl) gW FW.kp bW .nil pass0 (pa_cons (pv 2) pa_nil)) (pe_and (pe_chain op_le op_le pe_int (pv 2) (pe_glob (v := .int 8) rfl M8 ⟨_, rfl⟩)) (pe_and (pe_cmpR op_in_seq (pv 2) (pv 0) (by rfl)) (pe_one (pe_cmpR op_in_seq (pe_un un_neg (pv 2)) (pv 1) (by rfl)))))))), ?_⟩
    refine ⟨_, rfl, f0, kv, d, rfl, hv, _, rfl, ?_⟩
    rw [no]
    exact q
def spCoN : Sp := fun vs H Q _ => ∃ (f0 : Addr → Prop) (v u kv : V) (d : PyData), vs = [v, u, kv] ∧ OdV f0 H kv d ∧ whD d = false ∧ Q .non H
theorem ok_coN {f fM fH Po : Addr} {fd fdM fdH : FuncData} {k : Nat} (F : Fun K "cut_or_none" "cut_or_none" sCon f fd) (T : Zc mg) (FM : Fun K "can_meet" "can_meet" sCme fM fdM) (bM : Binds K fdM ["one", "other", "k"] []) (gM : mg "can_meet" = some (.ref fM)) (GM : FnOk P w K mg base CX0 2 fM fdM ["one", "other", "k"] spCmN)
    (kpH : PySem.W.keepIn K (.ref fH) = true) (bH : Binds K fdH ["says"] []) (gH : mg "has_opposites" = some (.ref fH)) (GH : FnOk P w K mg base CX0 3 fH fdH ["says"] (spHop Po)) :
    FnOk P w K mg base CX0 (k + 4) f fd ["one", "other", "k"] spCoN := by
  refine F.ok scCon (fun vs H Q E h => ?_) (fun cdv A outer s H vs Q E hr h => ?_)
  · obtain ⟨f0, v, u, kv, d, rfl, _⟩ := h
    rfl
  · obtain ⟨f0, v, u, kv, d, rfl, hv, no, q⟩ := h
    have hr2 : Room 2 _ := hr.mono (by omega)
    have hr3 : Room 3 _ := hr.mono (by omega)
    refine ⟨_, (pss_cons (ps_if (pt_not (pt_val (pe_call GM hr2 (by rfl) gM FM.kp bM .nil pass0 (pa_cons (pv 0) (pa_cons (pv 1) (pa_cons (pv 2) pa_nil)))))) (pss_one (ps_ret pe_non)) pss_nil)
      (Evl.pss_cut (ps_set (i := 3) scCon.nd rfl (.inl rfl) (pe_op op_catN (pe_lc (own := [("say", 4)]) (g := (gName 4))  rfl scCon.nd (pi_tup (pv 0)) (blkOk_by (N := nCon) (sc := defScope sCon) (by decide +kernel)) (fun _ _ _ _ _ => (pg_name (i := 4) scCon.nd rfl (.inl rfl))) (fun _ _ _ _ _ => (pts_one (pt_cmpR op_ne (pv 4) (pv 2) (nomark _)))) (fun _ _ _ _ _ => (pv 4))) (pe_lc (own := [("say", 4)]) (g := (gName 4))  rfl scCon.nd (pi_tup (pv 1)) (blkOk_by (N := nCon) (sc := defScope sCon) (by decide +kernel)) (fun _ _ _ _ _ => (pg_name (i := 4) scCon.nd rfl (.inl rfl))) (fun _ _ _ _ _ => (pts_one (pt_cmpR op_ne (pv 4) (pe_un un_neg (pv 2)) (nomark _)))) (fun _ _ _ _ _ => (pv 4)))))
      (pss_cons (ps_if (pt_val (pe_call GH hr3 (by rfl) gH kpH bH .nil pass0 (pa_cons (pv 3) pa_nil))) (pss_one (ps_ret pe_non)) pss_nil)
      (pss_one (ps_ret (pe_callTy call_tuple_ofN (by rfl) T.z_tuple (by decide +kernel) (pa_cons (pe_callB (St.cr_sortedS rfl) (by rfl) T.z_sorted (by decide +kernel) (pa_cons (pe_callTy (St.cr_setL rfl) (by rfl) T.z_set (by decide +kernel) (pa_cons (pv 3) pa_nil)) pa_nil)) pa_nil))))))), ?_⟩
    exact ⟨_, rfl, _, rfl, _, rfl, f0, v, u, kv, d, rfl, hv, no, _, rfl, q⟩
/-- claim_of_row, of anything -/
def spRoG (Po : Addr) : Sp := fun vs H Q _ => ∃ (f0 : Addr → Prop) (b v : V) (L : Addr) (css cls : List (List Int)) (d : PyData), vs = [b, .ref L, v] ∧ Bk H b css ∧ ClL H L cls ∧ OdV f0 H v d ∧ SeqAt.shaped d = true ∧ (∀ c ∈ css, IsCl c) ∧ (∀ c ∈ cls, IsCl c) ∧ TabG H Po ∧
  (∀ H', Ke Nof H H' → NoRow css cls d → Q .non H') ∧ ∀ (r : Rw) (c : List Int) (p : Addr) (H' : Hp), Ke Nof H H' → d = dat r → RowCl css cls r c → H' p = some (.tup (c.map V.int)) → Q (.ref p) H'
theorem ok_roG {f fN fC Po : Addr} {fd fdN fdC : FuncData} {k : Nat} (F : Fun K "claim_of_row" "claim_of_row" sRow f fd) (T : Zp mg) (FN : Fun K "is_number_of" "is_number_of" sNum fN fdN) (bN : Binds K fdN ["thing", "many"] []) (gN : mg "is_number_of" = some (.ref fN)) (GN : FnOk P w K mg base CX0 2 fN fdN ["thing", "many"] spNmG)
    (FC : Fun K "cut_or_none" "cut_or_none" sCon fC fdC) (bC : Binds K fdC ["one", "other", "k"] []) (gC : mg "cut_or_none" = some (.ref fC)) (GC : FnOk P w K mg base CX0 4 fC fdC ["one", "other", "k"] (orS (spCon Po) spCoN)) :
    FnOk P w K mg base CX0 (k + 5) f fd ["book", "claims", "row"] (spRoG Po) := by
  refine F.ok scRow (fun vs H Q E h => ?_) (fun cdv A outer s H vs Q E hr h => ?_)
  · obtain ⟨f0, b, v, L, css, cls, d, rfl, _⟩ := h
    rfl
  · obtain ⟨f0, b, v, L, css, cls, d, rfl, hb, ⟨lvs, hL, aL⟩, hv, sh, ib, ic, tg, q1, q2⟩ := h
    have hr2 : Room 2 _ := hr.mono (by omega)
    have hr4 : Room 4 _ := hr.mono (by omega)
    refine ⟨_, (pss_cons (ps_if (pt_not (pt_val (pe_callB call_isi (by rfl) T.z_isinstance (by decide +kernel) (pa_cons (pv 2) (pa_cons (pe_bltn (v := .ty "tuple") (u := .type "tuple") (by rfl) T.z_tuple (by decide +kernel) rfl) pa_nil))))) (pss_one (ps_ret pe_non)) pss_nil)
      (pss_cons (ps_if (PW.pt (pw_and (pt_cmpR op_eq (pe_callB call_len_seq (by rfl) T.z_len (by decide +kernel) (pa_cons (pv 2) pa_nil)) pe_int (nomark _)) (pw_and1 (pt_cmpR (op_eqD hr.units) (pe_ix ix_tup (pv 2) pe_int (fun _ _ => rfl)) pe_str (nomark _))))) (pss_one (ps_ret (pe_ifExp (pt_val (pe_call GN hr2 (by rfl) gN FN.kp bN .nil pass0 (pa_cons (pe_ix ix_tup (pv 2) pe_int (fun _ _ => rfl)) (pa_cons (pe_callB call_len_seq (by rfl) T.z_len (by decide +kernel) (pa_cons (pv 0) pa_nil)) pa_nil)))) (pe_ix ix_tup (pv 0) (pe_ix ix_tup (pv 2) pe_int (fun _ _ => rfl)) (fun _ _ => rfl)) pe_non))) pss_nil)
      (pss_cons (ps_if (PW.pt (pw_and (pt_cmpR op_eq (pe_callB call_len_seq (by rfl) T.z_len (by decide +kernel) (pa_cons (pv 2) pa_nil)) pe_int (nomark _)) (pw_and1 (pt_cmpR (op_eqD hr.units) (pe_ix ix_tup (pv 2) pe_int (fun _ _ => rfl)) pe_str (nomark _))))) (pss_one (ps_if (PW.pt (pw_and (pt_val (pe_call GN hr2 (by rfl) gN FN.kp bN .nil pass0 (pa_cons (pe_ix ix_tup (pv 2) pe_int (fun _ _ => rfl)) (pa_cons (pe_callB call_len_seq (by rfl) T.z_len (by decide +kernel) (pa_cons (pv 1) pa_nil)) pa_nil)))) (pw_and1 (pt_val (pe_call GN hr2 (by rfl) gN FN.kp bN .nil pass0 (pa_cons (pe_ix ix_tup (pv 2) pe_int (fun _ _ => rfl)) (pa_cons (pe_callB call_len_seq (by rfl) T.z_len (by decide +kernel) (pa_cons (pv 1) pa_nil)) pa_nil))))))) (pss_one (ps_ret (pe_call GC hr4 (by rfl) gC FC.kp bC .nil pass0 (pa_cons (pe_ix ix_list (pv 1) (pe_ix ix_tup (pv 2) pe_int (fun _ _ => rfl)) (fun _ _ => rfl)) (pa_cons (pe_ix ix_list (pv 1) (pe_ix ix_tup (pv 2) pe_int (fun _ _ => rfl)) (fun _ _ => rfl)) (pa_cons (pe_ix ix_tup (pv 2) pe_int (fun _ _ => rfl)) pa_nil)))))) pss_nil)) pss_nil)
      (pss_one (ps_ret pe_non))))), ?_⟩
    obtain ⟨b, bvs, rfl, hbt, aB⟩ := bk_all hb
    have no : (∀ ds, d ≠ .tuple ds) → Q .non H := fun n => q1 H (.refl _ _) fun r c e => absurd (dat_tup e) fun ⟨ds, z⟩ => n ds z
    have t := hv.ty (K := K)
    cases d with
    | int n => exact ⟨_, rfl, v, .ty "tuple", .type "int", .type "tuple", false, rfl, .ty _, t, kit_ty (by decide +kernel), _, rfl, no fun _ => nofun⟩
    | bool n => exact ⟨_, rfl, v, .ty "tuple", .type "bool", .type "tuple", false, rfl, .ty _, t, kit_ty (by decide +kernel), _, rfl, no fun _ => nofun⟩
    | none => exact ⟨_, rfl, v, .ty "tuple", .type "NoneType", .type "tuple", false, rfl, .ty _, t, kit_ty (by decide +kernel), _, rfl, no fun _ => nofun⟩
    | str x => exact ⟨_, rfl, v, .ty "tuple", .type "str", .type "tuple", false, rfl, .ty _, t, kit_ty (by decide +kernel), _, rfl, no fun _ => nofun⟩
    | list x => exact ⟨_, rfl, v, .ty "tuple", .type "list", .type "tuple", false, rfl, .ty _, t, kit_ty (by decide +kernel), _, rfl, no fun _ => nofun⟩
    | dict x => cases hv
    | tuple ds =>
      cases id hv with
      | tup ha od =>
        rename_i a xs
        have lx := od.len
        have shp := shaped_tup sh
        refine ⟨_, rfl, .ref a, .ty "tuple", .type "tuple", .type "tuple", true, rfl, .ty _, t, kit_ty (by decide +kernel), _, rfl, ?_⟩
        by_cases h2 : xs.length = 2
        · obtain ⟨v0, v1, d0, d1, rfl, rfl, o0, o1⟩ := two_of od h2
          refine ⟨_, rfl, a, _, rfl, .inr (.of ha), rfl, true, rfl, ?_⟩
          refine ⟨_, rfl, a, _, 0, v0, rfl, rfl, .of ha, rfl, d0, .str "book", o0.dp, .str _, shp d0 (by simp), shaped_book, _, rfl, ite2 (fun e => ?_) (fun e => ?_)⟩
          · have e0 := eqv_str.mp e
            refine ⟨_, rfl, a, _, 1, v1, rfl, rfl, .of ha, rfl, _, rfl, b, _, rfl, .inr (.of hbt), f0, v1, d1, _, rfl, o1, _, rfl, ite2 (fun y => ?_) (fun y => ?_)⟩
            · obtain ⟨n, rfl, lt⟩ := num_int y
              cases o1
              have lt : n < bvs.length := by omega
              obtain ⟨c, hc, p, e, hp⟩ := aB.at (List.getElem?_eq_getElem lt)
              refine ⟨_, rfl, _, rfl, a, _, 1, .int (n : Nat), rfl, rfl, .of ha, rfl, b, bvs, _, .ref p, rfl, rfl, .of hbt, at_of (j := n) rfl (by rw [List.getElem?_eq_getElem lt, e]), ?_⟩
              exact q2 (.book n) c p H (.refl _ _) (by rw [e0]; rfl) hc hp
            · refine q1 H (.refl _ _) fun r c er rc => ?_
              obtain ⟨n, rfl, _, rfl⟩ := dat_two er
              have h1 := (List.getElem?_eq_some_iff.mp rc).1
              have h3 := aB.1
              exact y (num_yes (by omega))
          · refine ⟨_, rfl, a, _, rfl, .inr (.of ha), rfl, false, rfl, ?_⟩
            refine q1 H (.refl _ _) fun r c er rc => ?_
            obtain ⟨n, _, e0, _⟩ := dat_two er
            exact e (eqv_str.mpr e0)
        · refine ⟨_, rfl, a, _, rfl, .inr (.of ha), rfl, false, ?_, ?_⟩
          · rw [decide_eq_false]
            intro z
            have := V.int.inj z
            omega
          by_cases h4 : xs.length = 4
          · obtain ⟨v0, v1, v2, v3, d0, d1, d2, d3, rfl, rfl, o0, o1, o2, o3⟩ := four_of od h4
            refine ⟨_, rfl, a, _, rfl, .inr (.of ha), rfl, true, rfl, ?_⟩
            have nope : d0 ≠ .str "cut" ∨ numD d1 lvs.length = false ∨ numD d2 lvs.length = false → Q .non H := fun z => q1 H (.refl _ _) fun r c er rc => by
              obtain ⟨i, j, k, rfl, e0, rfl, rfl, _⟩ := dat_four er
              have h1 := rc.parts
              have h3 := aL.1
              rcases z with z | z | z
              · exact z e0
              · rw [num_yes (by omega)] at z
                cases z
              · rw [num_yes (by omega)] at z
                cases z
            refine ⟨_, rfl, a, _, 0, v0, rfl, rfl, .of ha, rfl, d0, .str "cut", o0.dp, .str _, shp d0 (by simp), shaped_cut, _, rfl, ite2 (fun e => ?_) (fun e => ?_)⟩
            · have e0 := eqv_str.mp e
              refine ⟨_, rfl, a, _, 1, v1, rfl, rfl, .of ha, rfl, _, rfl, L, _, rfl, .inl (.of hL), f0, v1, d1, _, rfl, o1, _, rfl, ite2 (fun y1 => ?_) (fun y1 => ?_)⟩
              · refine ⟨_, rfl, a, _, 2, v2, rfl, rfl, .of ha, rfl, _, rfl, L, _, rfl, .inl (.of hL), f0, v2, d2, _, rfl, o2, _, rfl, ite2 (fun y2 => ?_) (fun y2 => ?_)⟩
                · obtain ⟨i, rfl, li⟩ := num_int y1
                  obtain ⟨j, rfl, lj⟩ := num_int y2
                  cases o1
                  cases o2
                  have li : i < lvs.length := by omega
                  have lj : j < lvs.length := by omega
                  obtain ⟨ci, hci, ti⟩ := aL.at (List.getElem?_eq_getElem li)
                  obtain ⟨cj, hcj, tj⟩ := aL.at (List.getElem?_eq_getElem lj)
                  have i1 := ic ci (List.mem_of_getElem? hci)
                  have i2 := ic cj (List.mem_of_getElem? hcj)
                  have z1 := i1.len
                  have z2 := i2.len
                  refine ⟨_, rfl, _, rfl, a, _, 1, .int (i : Nat), rfl, rfl, .of ha, rfl, L, lvs, _, lvs[i], rfl, rfl, .of hL, at_of (j := i) rfl (List.getElem?_eq_getElem li), ?_⟩
                  refine ⟨_, rfl, _, rfl, a, _, 2, .int (j : Nat), rfl, rfl, .of ha, rfl, L, lvs, _, lvs[j], rfl, rfl, .of hL, at_of (j := j) rfl (List.getElem?_eq_getElem lj), ?_⟩
                  refine ⟨_, rfl, a, _, 3, v3, rfl, rfl, .of ha, rfl, ?_⟩
                  cases hw : whD d3 with
                  | false =>
                    refine .inr ⟨f0, lvs[i], lvs[j], v3, d3, rfl, o3, hw, q1 H (.refl _ _) fun r c er rc => ?_⟩
                    obtain ⟨_, _, k, _, _, _, _, rfl⟩ := dat_four er
                    cases hw
                  | true =>
                    obtain ⟨k, rfl⟩ : ∃ k : Int, d3 = .int k := by
                      cases d3 with
                      | int k => exact ⟨k, rfl⟩
                      | _ => cases hw
                    cases o3
                    refine .inl ⟨lvs[i], lvs[j], k, ci, cj, rfl, ti, tj, by omega, by omega, tg, fun H' ke no => ?_, fun ns p H' ke m o up me hp => ?_⟩
                    · refine q1 H' ke fun r c er rc => ?_
                      obtain ⟨i', j', k', rfl, _, e1, e2, e3⟩ := dat_four er
                      have h1 := PyData.int.inj e1
                      have h2 := PyData.int.inj e2
                      have h3 := PyData.int.inj e3
                      obtain ⟨x, y', g1, g2, g3⟩ := rc
                      rw [show i' = i by omega] at g1
                      rw [show j' = j by omega] at g2
                      cases hci.symm.trans g1
                      cases hcj.symm.trans g2
                      rw [← h3] at g3
                      exact g3.no (nocome_of i1 i2 no)
                    · exact q2 (.cut i j k) ns p H' ke (by rw [e0]; rfl) ⟨ci, cj, hci, hcj, comes_of i1 i2 m o up me⟩ hp
                · exact nope (.inr (.inr (Bool.eq_false_iff.mpr y2)))
              · exact nope (.inr (.inl (Bool.eq_false_iff.mpr y1)))
            · exact nope (.inl fun z => e (eqv_str.mpr z))
          · refine ⟨_, rfl, a, _, rfl, .inr (.of ha), rfl, false, ?_, ?_⟩
            · rw [decide_eq_false]
              intro z
              have := V.int.inj z
              omega
            refine q1 H (.refl _ _) fun r c er rc => ?_
            rcases dat_len er with z | z
            · exact h2 (by omega)
            · exact h4 (by omega)
theorem cut_200 (xs : List V) : cutV xs none (some 200) = xs.take 200 := by
  unfold cutV
  rw [show (200 : Int) = ((200 : Nat) : Int) from rfl, HT.sIx_none, HT.sIx_nat, List.drop_zero, Nat.sub_zero]
  by_cases h : 200 ≤ xs.length
  · rw [Nat.min_eq_left h]
  · rw [Nat.min_eq_right (by omega), List.take_length, List.take_of_length_le (by omega)]
/-- claims_ahead_of_fault, of anything -/
def spAhG (Po : Addr) : Sp := fun vs H Q _ => ∃ (f0 : Addr → Prop) (b v : V) (css : List (List Int)) (d : PyData), vs = [b, v] ∧ Bk H b css ∧ (∀ c ∈ css, IsCl c) ∧ OdV f0 H v d ∧ SeqAt.shaped d = true ∧ TabG H Po ∧
  (∀ p H', H p = none → Ke Nof H H' → (∀ ds, d ≠ .list ds) → H' p = some (.lst []) → Q (.ref p) H') ∧
  ∀ ds p rows cls H', H p = none → Ke Nof H H' → d = .list ds → Ahead css ds rows cls → ClL H' p cls → Q (.ref p) H'
theorem ok_ahG {f fR Po : Addr} {fd fdR : FuncData} {k : Nat} {tk : Tok} (F : Fun K "claims_ahead_of_fault" "claims_ahead_of_fault" sAhe f fd) (T : Zp mg) (M2 : mg "MOST_ROWS" = some (.int 200 tk)) (FR : Fun K "claim_of_row" "claim_of_row" sRow fR fdR) (bR : Binds K fdR ["book", "claims", "row"] []) (gR : mg "claim_of_row" = some (.ref fR)) (GR : FnOk P w K mg base CX0 5 fR fdR ["book", "claims", "row"] (spRoG Po)) :
    FnOk P w K mg base CX0 (k + 6) f fd ["book", "thing"] (spAhG Po) := by
  refine F.ok scAhe (fun vs H Q E h => ?_) (fun cdv A outer s H vs Q E hr h => ?_)
  · obtain ⟨f0, b, v, css, d, rfl, _⟩ := h
    rfl
  · obtain ⟨f0, b, v, css, d, rfl, hb, ib, hv, sh, tg, q1, q2⟩ := h
    have hr5 : Room 5 _ := hr.mono (by omega)
    refine ⟨_, (Evl.pss_cut (ps_set (i := 2) scAhe.nd rfl (.inl rfl) (pe_lstN pa_nil))
      (pss_cons (ps_if (pt_not (pt_val (pe_callB call_isi (by rfl) T.z_isinstance (by decide +kernel) (pa_cons (pv 1) (pa_cons (pe_bltn (v := .ty "list") (u := .type "list") (by rfl) T.z_list (by decide +kernel) rfl) pa_nil))))) (pss_one (ps_ret (pv 2))) pss_nil)
      (pss_cons (ps_for PassesOwn.never rfl (pi_list (pe_slice sl_listN (pv 1) po_none (po_some (pe_glob (v := .int 200) rfl M2 ⟨_, rfl⟩)))) (pg_name (i := 3) scAhe.nd rfl (.inl rfl)) (pss_cons (ps_set (i := 4) scAhe.nd rfl (.inl rfl) (pe_call GR hr5 (by rfl) gR FR.kp bR .nil pass0 (pa_cons (pv 0) (pa_cons (pv 2) (pa_cons (pv 3) pa_nil)))))
      (pss_cons (ps_if (pt_cmpR op_isN (pv 4) pe_non (nomark _)) (pss_one (ps_ret (pv 2))) pss_nil)
      (pss_one (ps_expr (pe_bm PySem.F.plainAttrs_list PySem.F.slot_list_append PySem.F.type_list_append mt_append (pv 2) (pa_cons (pv 4) pa_nil)))))))
      (pss_one (ps_ret (pv 2)))))), ?_⟩
    refine Evl.q_cut (M := fun σ' H' => ∃ D : Addr, σ' = [some b, some v, some (.ref D), none, none] ∧ H D = none ∧ Same H H' ∧ H' D = some (.lst [])) ?_ ?_
    · exact ⟨Nat.zero_le _, fun D H1 nD s1 hD _ => ⟨D, rfl, nD, s1, hD⟩⟩
    rintro σ' H1 ⟨D, rfl, nD, s1, hD⟩
    have hv1 : OdV f0 H1 v d := hv.ke (.same s1)
    have t := hv1.ty (K := K)
    have no : (∀ ds, d ≠ .list ds) → Q (.ref D) H1 := fun n => q1 D H1 nD (.same s1) n hD
    cases d with
    | int n => exact ⟨_, rfl, v, .ty "list", .type "int", .type "list", false, rfl, .ty _, t, kit_ty (by decide +kernel), _, rfl, _, rfl, no fun _ => nofun⟩
    | bool n => exact ⟨_, rfl, v, .ty "list", .type "bool", .type "list", false, rfl, .ty _, t, kit_ty (by decide +kernel), _, rfl, _, rfl, no fun _ => nofun⟩
    | none => exact ⟨_, rfl, v, .ty "list", .type "NoneType", .type "list", false, rfl, .ty _, t, kit_ty (by decide +kernel), _, rfl, _, rfl, no fun _ => nofun⟩
    | str x => exact ⟨_, rfl, v, .ty "list", .type "str", .type "list", false, rfl, .ty _, t, kit_ty (by decide +kernel), _, rfl, _, rfl, no fun _ => nofun⟩
    | tuple x => exact ⟨_, rfl, v, .ty "list", .type "tuple", .type "list", false, rfl, .ty _, t, kit_ty (by decide +kernel), _, rfl, _, rfl, no fun _ => nofun⟩
    | dict x => cases hv
    | list ds =>
      cases id hv with
      | lst hL nf od =>
        rename_i L xs
        have lx := od.len
        have shp := shaped_lst sh
        refine ⟨_, rfl, .ref L, .ty "list", .type "list", .type "list", true, rfl, .ty _, t, kit_ty (by decide +kernel), _, rfl, ?_⟩
        refine ⟨_, rfl, _, rfl, L, _, rfl, .of (s1 _ _ hL), fun S H2 nS s2 hS _ => ?_⟩
        rw [cut_200] at hS
        have nSD : S ≠ D := Ne.symm (ne_of_none hD nS)
        have k02 : Ke Nof H H2 := (Ke.same s1).trans (.same s2)
        have lt200 : (xs.take 200).length = min 200 xs.length := List.length_take
        refine ⟨S, rfl, ⟨_, .of hS⟩, for_list (K := K) (a := S) (xs := xs.take 200) (Pv := fun i σ H' => ∃ (y3 y4 : Option V) (rows : List Rw) (cls : List (List Int)), σ = [some b, some (.ref L), some (.ref D), y3, y4] ∧ Ke Nof H H' ∧ H' S = some (.lst (xs.take 200)) ∧ rows.length = i ∧ Lad css rows cls ∧ ds.take i = rows.map dat ∧ ClL H' D cls) ?_ (fun i σ H' _ p => ?_) ?_ ?_⟩
        · exact ⟨none, none, [], [], rfl, k02, hS, rfl, .nil css, rfl, [], s2 _ _ hD, .nil⟩
        · obtain ⟨_, _, _, _, _, _, h, _⟩ := p
          exact .of h
        · rintro i x σ H3 hx ⟨y3, y4, rows, cls, rfl, k3, hS3, lr, ld, tk, hD3⟩
          have li : i < min 200 xs.length := by rw [← lt200]; exact (List.getElem?_eq_some_iff.mp hx).1
          rw [List.getElem?_take, if_pos (by omega)] at hx
          obtain ⟨d, hd, ox⟩ := od.at hx
          obtain ⟨dvs, hD3', aD⟩ := id hD3
          have lcl := ld.1
          have lad := aD.1
          refine ⟨_, rfl, _, rfl, _, rfl, f0, b, x, D, css, cls, d, rfl, hb.ke k3, hD3, ox.ke k3.all, shp d (List.mem_of_getElem? hd), ib, ld.isCl ib, k3.tabs _ tg, fun H4 k4 no => ?_, fun r c p H4 k4 er rc hp => ?_⟩
          · refine ⟨_, rfl, rfl, true, rfl, ?_⟩
            exact ⟨_, rfl, q2 ds D rows cls H4 nD (k3.trans k4) rfl ⟨ld, by rw [lr]; exact tk, by omega, by omega, .inr (.inr ⟨d, by rw [lr]; exact hd, no⟩)⟩ (hD3.ke k4 fun z => z)⟩
          · refine ⟨_, rfl, rfl, false, rfl, ?_⟩
            have hD4 := k4.lst hD3' fun z => z
            have hS4 := k4.lst hS3 fun z => z
            refine ⟨_, rfl, .inl ⟨rfl, _, .of hD4⟩, _, rfl, D, _, _, rfl, rfl, hD4, small1000 (by omega), ?_⟩
            refine ⟨_, _, rows ++ [r], cls ++ [c], rfl, (k3.trans k4).upd nD, by rw [upd_ne nSD]; exact hS4, by rw [List.length_append, lr]; rfl, ld.snoc rc, ?_, cl_snoc hD4 (aD.imp fun _ _ t => t.ke k4) ⟨p, rfl, hp⟩⟩
            rw [take_snoc hd, tk, List.map_append, er]
            rfl
        · rintro σ H3 ⟨y3, y4, rows, cls, rfl, k3, _, lr, ld, tk, hD3⟩
          rw [lt200] at lr tk
          refine ⟨_, rfl, q2 ds D rows cls H3 nD k3 rfl ⟨ld, by rw [lr]; exact tk, by omega, by omega, ?_⟩ hD3⟩
          by_cases z : xs.length ≤ 200
          · exact .inl (by omega)
          · exact .inr (.inl (by omega))
/-- is_ladder, of anything -/
def spIsG (Po : Addr) : Sp := fun vs H Q _ => ∃ (f0 : Addr → Prop) (b v : V) (css : List (List Int)) (d : PyData), vs = [b, v] ∧ Bk H b css ∧ (∀ c ∈ css, IsCl c) ∧ OdV f0 H v d ∧ SeqAt.shaped d = true ∧ TabG H Po ∧
  ∀ t H', (t = true ↔ IsLad css d) → Ke Nof H H' → Q (.bl t) H'
end
end Wg
namespace Wl
end Wl
namespace Wo
end Wo
namespace Wk
end Wk
namespace Rpa
open PySem PySem.Spec PyProof.Rows L2
/-- repr of anything by its data, where nothing is being shown -/
theorem cr_reprA {X : Cx} (hg : X.A.guards = some []) (hu : X.A.units + 70 < cLine) : CallR X (.builtin "repr") (fun xs H Q => ∃ (x : V) (d : PyData), xs = [x] ∧ Dp X.K H x d ∧ d.showable = true ∧ d.hasDict = false ∧ d.depth ≤ 64 ∧ d.shown.length ≤ sizeLine ∧ Q (.str d.shown) H) := by
  intro pins s σ H xs us Q I r h
  obtain ⟨x, d, rfl, hd, hs, hn, dp, sz, q⟩ := h
  obtain ⟨u, rfl, hu'⟩ := vals1 r
  cases id hd with
  | non =>
    obtain rfl : u = .none := hu'
    exact PySem.P.repr_of_none ⟨.str _, H, I.tok _, ⟨_, rfl⟩, q⟩
  | bl b =>
    obtain rfl : u = .bool b := hu'
    exact PySem.P.repr_of_bool ⟨.str _, H, I.tok _, ⟨_, rfl⟩, q⟩
  | int i =>
    obtain ⟨t, rfl⟩ := hu'
    exact PySem.P.repr_of_int (by simpa [PyData.showable] using hs) ⟨.str _, H, I.tok _, ⟨_, rfl⟩, q⟩
  | str z =>
    obtain ⟨t, rfl⟩ := hu'
    exact PySem.P.repr_of_str ⟨.str _, H, I.tok _, ⟨_, rfl⟩, q⟩ sz
  | lst _ _ =>
    rename_i a _ _ _ _
    obtain rfl : u = .ref a := hu'
    obtain ⟨as, r1⟩ := Dp.reads I _ (.ref a) (.ref a) hd rfl
    exact repr_of_reads' r1 hs (PyData.noDict_hsm hn) hg (by omega) (fun _ _ e => e) (fun h' u tk k => ⟨.str _, H, I.turnedL (ch := []) (fun b o _ e => k b o e) (fun b hb => absurd hb (by simp)), ⟨_, rfl⟩, q⟩) sz
  | tup _ _ =>
    rename_i a _ _ _ _
    obtain rfl : u = .ref a := hu'
    obtain ⟨as, r1⟩ := Dp.reads I _ (.ref a) (.ref a) hd rfl
    exact repr_of_reads' r1 hs (PyData.noDict_hsm hn) hg (by omega) (fun _ _ e => e) (fun h' u tk k => ⟨.str _, H, I.turnedL (ch := []) (fun b o _ e => k b o e) (fun b hb => absurd hb (by simp)), ⟨_, rfl⟩, q⟩) sz
end Rpa
namespace Gd
open PySem PySem.Spec PyProof.Rows L2
/-! ### a law that shows lists (repr): run where nothing is being shown -/
/-- a promise for calls made while nothing is being shown -/
structure FnG (P : Program) (w : World) (K : PySem.W.Frag) (mg : Str → Option Value) (base : Heap) (k : Nat) (f : Addr) (fd : FuncData) (ps : List Str) (sp : Sp) : Prop where
  len : ∀ us H Q E, sp us H Q E → us.length = ps.length
  run : ∀ (A : Around) (outer : List Env) (s : Shared) (H : Hp) (args : Args) (us : List Value) (vs : List V) (Q : VK) (E : XK), A.guards = some [] → Room k A → Env0 P w K mg base A outer s H → BindsTo s fd args (ps.zip us) → Vals vs us → sp vs H Q E → codeAny (model P w) A (.call (.ref f) args) (CR CX0 outer P w H s Q E) s
section
variable {P : Program} {w : World} {K : PySem.W.Frag} {mg : Str → Option Value} {base : Heap}
theorem okG {x qual : Str} {st : Stmt} {f : Addr} {fd : FuncData} {N ps : List Str} {k : Nat} {sp : Sp} (F : Fun K x qual st f fd) (S : FnScope N ps (defScope st)) (ln : ∀ us H Q E, sp us H Q E → us.length = ps.length)
    (body : ∀ (cdv : Value) (A : Around) (outer : List Env) (s : Shared) (H : Hp) (vs : List V) (Q : VK) (E : XK), A.guards = some [] → Room k (A.deeper (envOfC qual (defScope st) s.heap.objs.size f cdv)) → sp vs H Q E →
      ∃ t, PSs (cxOf CX0 P w K mg base N qual (defScope st) f cdv A outer s H E).nox (defBody st) t ∧ t { nx := fun _ H' => Q .non H', rt := Q } (start N vs) H) : FnG P w K mg base (k + 1) f fd ps sp := by
  obtain ⟨oc, od, kV, doc, pm, an, cdv, ct, osl, rfl, lk, hcd⟩ := F.ex
  refine ⟨ln, fun A outer s H args us vs Q E gd room env bind rel ask => ?_⟩
  have inS : K.In s.heap := env.mod.kin.keeps fun b o e => (env.bs b o e).1
  have noL : s.heap.NoLimit := env.mod.nolimit.keeps fun b o e => (env.bs b o e).1
  refine codeAny_call_function room.depth (inS _ _ lk) rfl S.co S.gen rfl (PySem.W.codeRec_of inS hcd) (bind _ _ _ _ (wpAny_newFunctionEnv_cells S.kind (fun y hy => ?_) fun env' he s1 z => ?_))
  · rcases S.par y.1 (List.of_mem_zip (a := y.1) (b := y.2) hy).1 with q | q
    · exact Or.inl q
    · exact Or.inr ⟨q, PySem.W.cellsFrom_some _ _ _ (Or.inl q)⟩
  · subst he
    obtain ⟨t, h1, h2⟩ := body cdv A outer s H vs Q E gd (room.deeper _) ask
    have J := inv_start (CX := CX0) (E := E) S room.hd env (ln _ _ _ _ ask) rel z
    refine ⟨noL.keeps z.toInCall.keep, codeAny_func (wpAny_mono (h1.nox.run [] s1 _ H _ J h2) (fun fl s' r => ?_) fun _ _ r => r)⟩
    match fl, r with
    | .ret u, r =>
      obtain ⟨v, σ', H', I, rv, q⟩ := r
      exact ⟨v, H', I.os, I.bare, I.base, I.hok, rv, q⟩
    | .next, r =>
      obtain ⟨σ', H', I, q⟩ := r
      exact ⟨.non, H', I.os, I.bare, I.base, I.hok, rfl, q⟩
    | .brk, r =>
      obtain ⟨_, _, _, q⟩ := r
      exact q.elim
    | .cont, r =>
      obtain ⟨_, _, _, q⟩ := r
      exact q.elim
/-- what the abstract heap knows at the law's call: the tables T, the script at a unless K holds it -/
def at0 (K : PySem.W.Frag) (T : List Addr) (a : Addr) (o : HO) : Hp := fun b => if b ∈ T then some (.tbl #[]) else if b = a ∧ (K.lookup a).isNone = true then some o else none
theorem at0_cases {T : List Addr} {a b : Addr} {o u : HO} (h : at0 K T a o b = some u) : (b ∈ T ∧ u = .tbl #[]) ∨ (b ∉ T ∧ b = a ∧ K.lookup a = none ∧ u = o) := by
  unfold at0 at h
  by_cases h1 : b ∈ T
  · rw [if_pos h1] at h
    exact .inl ⟨h1, (Option.some.inj h).symm⟩
  · rw [if_neg h1] at h
    by_cases h2 : b = a ∧ (K.lookup a).isNone = true
    · rw [if_pos h2] at h
      exact .inr ⟨h1, h2.1, Option.isNone_iff_eq_none.mp h2.2, (Option.some.inj h).symm⟩
    · rw [if_neg h2] at h
      cases h
theorem law_at {mb : Str → Option Value} {k : Nat} {fa a : Addr} {cs : List (Addr × Addr)} {fd : FuncData} {x : Str} {sp : Sp} {s1 : Shared} {us : List Value} {ns : List Int} (inK : K.In s1.heap) (ng : s1.heap.Ns mainGlobals mg) (nb : s1.heap.Ns builtinsNs mb)
    (bb : ∀ y : Str, y ≠ "__name__" → mb y = bootBuiltins y) (lim : s1.heap.NoLimit) (gens : s1.gens = #[]) (te : ∀ p ∈ cs, s1.heap.get? p.2 = some (PySem.W.tabObj #[])) (tk : ∀ p ∈ cs, K.lookup p.2 = none) (tc : ∀ p ∈ cs, PySem.W.CodeHd s1.heap p.1 p.2)
    (bm : ∃ (bm : Addr) (ob : Obj), mg "__builtins__" = some (.ref bm) ∧ bm ≠ builtinsNs ∧ s1.heap.get? bm = some ob ∧ ob.cls = .type "module" ∧ ob.dict = some builtinsNs ∧ ob.data = .plain) (la : s1.heap.get? a = some { cls := .type "list", data := .seq us.toArray }) (iu : IntsAre us ns) (lu : ns.length ≤ sizeLine) (room : Room k callerA)
    (F : ∀ base : Heap, K.In base → base.Ns mainGlobals mg → (∀ p ∈ cs, LamX.TabB base mg p.1 p.2) → FnG P w K mg base k fa fd [x] sp) (bind : ∀ (s : Shared) (u : Value), BindsTo s fd ⟨[u], []⟩ [(x, u)])
    (ask : ∀ H : Hp, (∀ p ∈ cs, H p.2 = some (.tbl #[])) → SqL K H a (ns.map V.int) → sp [.ref a] H (fun v _ => v = .bl true) fun _ _ _ => False) :
    codeAny (model P w) callerA (.call (.ref fa) ⟨[.ref a], []⟩) (fun r s' => r = .ok (.ret (.bool true)) ∧ OldK s1.heap s'.heap ∧ s'.os = s1.os ∧ AllBare s'.gens) s1 := by
  have lv := iu.length
  let T := cs.map (·.2)
  let O : HO := .frz { cls := .type "list", data := .seq us.toArray } (.lst (ns.map V.int))
  have tT : ∀ b ∈ T, s1.heap.get? b = some (PySem.W.tabObj #[]) := fun b hb => by
    obtain ⟨p, hp, rfl⟩ := List.mem_map.mp hb
    exact te p hp
  have inT : ∀ p ∈ cs, p.2 ∈ T := fun p hp => List.mem_map.mpr ⟨p, hp, rfl⟩
  have naT : a ∉ T := fun z => by
    have q := tT a z
    rw [la] at q
    cases congrArg Obj.data (Option.some.inj q)
  -- an object that is neither a list nor an empty table is not tracked
  have un0 : ∀ {b : Addr} {o : Obj}, s1.heap.get? b = some o → (∀ v n, o.data ≠ .seq v n) → o.data ≠ .fields #[] → at0 K T a O b = none := fun {b o} e d1 d2 => by
    cases q : at0 K T a O b with
    | none => rfl
    | some u =>
      rcases at0_cases q with ⟨h1, _⟩ | ⟨_, h1, _⟩
      · rw [tT b h1] at e
        cases e
        exact absurd rfl d2
      · rw [h1, la] at e
        cases e
        exact absurd rfl (d1 _ _)
  have ns0 : ∀ {b : Addr} {m : Str → Option Value}, s1.heap.Ns b m → (hidT s1.heap (at0 K T a O)).Ns b m := fun ⟨o, es, ep, e, d, r⟩ =>
    ⟨o, es, ep, hidT_get e (un0 e (fun _ _ z => by rw [d] at z; cases z) fun z => by rw [d] at z; cases z), d, r⟩
  have in0 : K.In (hidT s1.heap (at0 K T a O)) := fun b o e => by
    refine hidT_get (inK b o e) ?_
    cases q : at0 K T a O b with
    | none => rfl
    | some u =>
      rcases at0_cases q with ⟨h1, _⟩ | ⟨_, h1, h2, _⟩
      · obtain ⟨p, hp, rfl⟩ := List.mem_map.mp h1
        rw [tk p hp] at e
        cases e
      · rw [h1, h2] at e
        cases e
  have mod0 : L2.Mod K mg (hidT s1.heap (at0 K T a O)) := ⟨in0, ns0 ng, ⟨mb, ns0 nb, bb⟩, let ⟨mc, h1, h2⟩ := lim; ⟨mc, ns0 h1, h2⟩⟩
  have tab0 : ∀ p ∈ cs, LamX.TabB (hidT s1.heap (at0 K T a O)) mg p.1 p.2 := fun p hp => by
    obtain ⟨bmA, ob, b1, b2, b3, b4, b5, b6⟩ := bm
    obtain ⟨oc, oes, oep, oe, od, _⟩ := ng
    obtain ⟨c0, v0, f0, t0, g0, u0, i0, x0, y0, e1, r1, r2, r3, rest⟩ := tc p hp
    refine ⟨⟨c0, v0, f0, t0, g0, u0, i0, x0, y0, hidT_get e1 (un0 e1 (fun _ _ z => by rw [r2] at z; cases z) fun z => ?_), r1, r2, r3, rest⟩, ⟨bmA, ob, b1, b2, fun z => ?_, fun z => ?_, hidT_get b3 (un0 b3 (fun _ _ z => by rw [b6] at z; cases z) fun z => by rw [b6] at z; cases z), b4, b5, b6⟩, fun z => ?_⟩
    · rw [r2] at z
      cases z
      simp at r3
    · rw [z, oe] at b3
      cases b3
      rw [od] at b6
      cases b6
    · rw [z, te p hp] at b3
      cases b3
      cases b6
    · rw [z, te p hp] at oe
      cases oe
      cases od
  have hok0 : HOk P w (at0 K T a O) s1.heap := fun b u q => by
    rcases at0_cases q with ⟨h1, rfl⟩ | ⟨_, rfl, _, rfl⟩
    · exact tT b h1
    · exact ⟨la, by rw [List.length_map]; exact lu, us, _, vals_ints iu, la⟩
  have sq0 : SqL K (at0 K T a O) a (ns.map V.int) := by
    cases q : K.lookup a with
    | some o =>
      have e := inK a o q
      rw [la] at e
      cases e
      exact .inr ⟨_, us.toArray, _, q, rfl, rfl, rfl, by rw [List.size_toArray, lv]; exact lu, by simpa using vals_ints iu⟩
    | none => exact .inl (.inr ⟨_, (if_neg naT).trans (if_pos ⟨rfl, by rw [q]; rfl⟩)⟩)
  have env0 : Env0 P w K mg (hidT s1.heap (at0 K T a O)) callerA [] s1 (at0 K T a O) := ⟨rfl, mod0, fun b o e => of_hidT e, Nat.le_of_eq (hidT_size _ _), trivial, fun b z => absurd (show b ∈ ([] : List Addr) from z) (by simp), hok0, .of_eq gens⟩
  refine codeAny_mono ((F _ in0 (ns0 ng) tab0).run callerA [] s1 (at0 K T a O) ⟨[.ref a], []⟩ [.ref a] [.ref a] _ _ rfl room env0 (bind s1 (.ref a)) (.cons rfl .nil) (ask _ (fun p hp => if_pos (inT p hp)) sq0)) fun r s' h => ?_
  match r, h with
  | .error e, h => exact False.elim h
  | .ok .next, h => exact False.elim h
  | .ok .brk, h => exact False.elim h
  | .ok .cont, h => exact False.elim h
  | .ok (.ret u), h =>
    obtain ⟨v, H', os, bare, un, hok', rv, q⟩ := h
    obtain rfl : v = .bl true := q
    obtain rfl : u = Value.bool true := rv
    have kept : ∀ b o, b ∉ T → s1.heap.get? b = some o → s'.heap.get? b = some o := fun b o nt e => by
      cases z : at0 K T a O b with
      | none => exact un.keep b o e z (fun y => absurd (show b ∈ ([] : List Addr) from y) (by simp)) (by simp)
      | some u =>
        rcases at0_cases z with ⟨h1, _⟩ | ⟨_, rfl, _, rfl⟩
        · exact absurd h1 nt
        · obtain ⟨e2, _⟩ := hok' b _ (un.frzs b _ _ z)
          rw [la] at e
          cases e
          exact e2
    have tabs : ∀ b ∈ T, ∃ more : Array Value, s'.heap.get? b = some (PySem.W.tabObj more) := fun b hb => by
      obtain ⟨more, z⟩ := un.tbls b #[] (if_pos hb)
      exact ⟨_, hok' b _ z⟩
    refine ⟨rfl, ⟨fun b o e => ?_, fun b o e => ?_⟩, os, bare⟩
    · by_cases hb : b ∈ T
      · obtain ⟨more, z⟩ := tabs b hb
        obtain ⟨p, hp, rfl⟩ := List.mem_map.mp hb
        have e3 := te p hp
        rw [e] at e3
        cases e3
        exact .inr (.inl ⟨((tc p hp).tab (te p hp)).isCodeTable, rfl, #[], more, rfl, by rw [Array.empty_append]; exact z⟩)
      · exact .inl (kept b o hb e)
    · by_cases hb : b ∈ T
      · obtain ⟨more, z⟩ := tabs b hb
        exact ⟨_, z⟩
      · exact ⟨o, kept b o hb e⟩
end
end Gd
namespace Gx2
open PySem PySem.Spec PyProof.Rows L2
/-! ### promises for calls made while nothing is being shown, with refusals: for defs that show lists or tuples and are called by others -/
structure FnX (P : Program) (w : World) (K : PySem.W.Frag) (mg : Str → Option Value) (base : Heap) (CX : CXT) (k : Nat) (f : Addr) (fd : FuncData) (ps : List Str) (sp : Sp) : Prop where
  len : ∀ us H Q E, sp us H Q E → us.length = ps.length
  run : ∀ (A : Around) (outer : List Env) (s : Shared) (H : Hp) (args : Args) (us : List Value) (vs : List V) (Q : VK) (E : XK), A.guards = some [] → Room k A → Env0 P w K mg base A outer s H → BindsTo s fd args (ps.zip us) → Vals vs us → sp vs H Q E → codeAny (model P w) A (.call (.ref f) args) (CR CX outer P w H s Q E) s
section
variable {P : Program} {w : World} {K : PySem.W.Frag} {mg : Str → Option Value} {base : Heap} {CX : CXT}
theorem of_ok {k : Nat} {f : Addr} {fd : FuncData} {ps : List Str} {sp : Sp} (F : FnOk P w K mg base CX k f fd ps sp) : FnX P w K mg base CX k f fd ps sp := ⟨F.len, fun A outer s H args us vs Q E _ => F.run A outer s H args us vs Q E⟩
theorem okX {x qual : Str} {st : Stmt} {f : Addr} {fd : FuncData} {N ps : List Str} {k : Nat} {sp : Sp} (F : Fun K x qual st f fd) (S : FnScope N ps (defScope st)) (ln : ∀ us H Q E, sp us H Q E → us.length = ps.length)
    (body : ∀ (cdv : Value) (A : Around) (outer : List Env) (s : Shared) (H : Hp) (vs : List V) (Q : VK) (E : XK), A.guards = some [] → Room k (A.deeper (envOfC qual (defScope st) s.heap.objs.size f cdv)) → sp vs H Q E →
      ∃ t, PSs (cxOf CX P w K mg base N qual (defScope st) f cdv A outer s H E) (defBody st) t ∧ t { nx := fun _ H' => Q .non H', rt := Q } (start N vs) H) : FnX P w K mg base CX (k + 1) f fd ps sp := by
  obtain ⟨oc, od, kV, doc, pm, an, cdv, ct, osl, rfl, lk, hcd⟩ := F.ex
  refine ⟨ln, fun A outer s H args us vs Q E gd room env bind rel ask => ?_⟩
  have inS : K.In s.heap := env.mod.kin.keeps fun b o e => (env.bs b o e).1
  have noL : s.heap.NoLimit := env.mod.nolimit.keeps fun b o e => (env.bs b o e).1
  refine codeAny_call_function room.depth (inS _ _ lk) rfl S.co S.gen rfl (PySem.W.codeRec_of inS hcd) (bind _ _ _ _ (wpAny_newFunctionEnv_cells S.kind (fun y hy => ?_) fun env' he s1 z => ?_))
  · rcases S.par y.1 (List.of_mem_zip (a := y.1) (b := y.2) hy).1 with q | q
    · exact Or.inl q
    · exact Or.inr ⟨q, PySem.W.cellsFrom_some _ _ _ (Or.inl q)⟩
  · subst he
    obtain ⟨t, h1, h2⟩ := body cdv A outer s H vs Q E gd (room.deeper _) ask
    have J := inv_start (CX := CX) (E := E) S room.hd env (ln _ _ _ _ ask) rel z
    refine ⟨noL.keeps z.toInCall.keep, codeAny_func (wpAny_mono (h1.run [] s1 _ H _ J h2) (fun fl s' r => ?_) fun _ _ r => r)⟩
    match fl, r with
    | .ret u, r =>
      obtain ⟨v, σ', H', I, rv, q⟩ := r
      exact ⟨v, H', I.os, I.bare, I.base, I.hok, rv, q⟩
    | .next, r =>
      obtain ⟨σ', H', I, q⟩ := r
      exact ⟨.non, H', I.os, I.bare, I.base, I.hok, rfl, q⟩
    | .brk, r =>
      obtain ⟨_, _, _, q⟩ := r
      exact q.elim
    | .cont, r =>
      obtain ⟨_, _, _, q⟩ := r
      exact q.elim
end
section
variable {X : Cx} {CX : CXT} {k : Nat} {f : Addr} {fd : FuncData} {ps : List Str} {sp : Sp} {dvs : List V} {ds : List Value} {E : XK}
theorem runX {pins : List (Addr × Obj)} {σ : L2.St} {H : Hp} {s : Shared} {Q : VK} {us : List Value} {vs : List V} (F : FnX X.prog X.w X.K X.mg X.base CX k f fd ps sp) (gd : X.A.guards = some []) (room : Room k X.A) (bind : Binds X.K fd ps ds) (dv : Vals dvs ds) (pass : Passes CX X E)
    (I : Inv X pins σ H s) (rel : Vals vs us) (ask : sp (vs ++ dvs) H Q E) : wpAny (model X.prog X.w) X.A (call (.ref f) us) (EP X pins σ Q) X.xe s := by
  have r2 : Vals (vs ++ dvs) (us ++ ds) := rel.append dv
  have ll : (us ++ ds).length = ps.length := r2.length.symm.trans (F.len _ _ _ _ ask)
  refine wpAny_call (codeAny_mono (F.run X.A X.stack s H ⟨us, []⟩ _ _ Q E gd room I.env0 (bind s us I.kIn ll) r2 ask) fun r s' z => ?_)
  match r, z with
  | .error e, z => exact pass pins σ H s e s' I z
  | .ok (.ret u), z => exact I.after z
  | .ok .next, z => exact z.elim
  | .ok .brk, z => exact z.elim
  | .ok .cont, z => exact z.elim
/-- f(..) where nothing is being shown -/
theorem pe_callX {x : Str} {p pos : Pos} {e : Expr} {es : List Expr} {t : TA} (F : FnX X.prog X.w X.K X.mg X.base CX k f fd ps sp) (gd : X.A.guards = some []) (room : Room k X.A) (gl : Gl X x) (at_ : X.mg x = some (.ref f)) (kp : PySem.W.keepIn X.K (.ref f) = true) (bind : Binds X.K fd ps ds) (dv : Vals dvs ds) (pass : Passes CX X E)
    (ha : PA X (e :: es) t) (hdb : (x == ("__debug__" : Str)) = false := by decide) (he : starEach (e :: es) X.env = (false, eval e X.env) :: starEach es X.env := by rfl) (hpl : (backTo pos (starEach es X.env)).any (·.1) = false := by rfl) :
    PE X (.Call (.Name x p) (e :: es) [] pos) (tCall sp dvs E t) :=
  ⟨fun pins s σ H Q I h => wpAny_Call_Name_kw (ld_glob I gl at_ (PySem.W.callWith_K (h₀ := X.base) I.ok.mod.kin kp (thn (ha.run pos pins s σ H _ I h) fun us s1 ⟨vs, H1, I1, r, q⟩ => ⟨I1.kIn, runX F gd room bind dv pass I1 r q⟩) he hpl) hdb)⟩
end
end Gx2
namespace Rk
open PySem PySem.Spec PyProof.Rows L2 Nw Ev1 Gx2
/-! ### a call of a value that an expression tells; a caught error kept as a value; count of truths -/
theorem takes0 {X : Cx} : Takes X (fun _ _ _ _ => False) := fun _ _ x => by
  obtain ⟨_, _, _, _, _, _, _, _, _, _, _, _, _, _, _, _, z⟩ := x
  exact z.elim
section
variable {X : Cx} {CX : CXT} {k : Nat} {f : Addr} {fd : FuncData} {ps : List Str} {sp : Sp} {E : L2.St → XK}
theorem runS {pins : List (Addr × Obj)} {σ : L2.St} {H : Hp} {s : Shared} {Q : VK} {us : List Value} {vs : List V} (F : FnX X.prog X.w X.K X.mg X.base CX k f fd ps sp) (gd : X.A.guards = some []) (room : Room k X.A) (bind : Binds X.K fd ps []) (pass : PassesAt CX X σ (E σ))
    (I : Inv X pins σ H s) (rel : Vals vs us) (ask : sp vs H Q (E σ)) : wpAny (model X.prog X.w) X.A (call (.ref f) us) (EP X pins σ Q) X.xe s := by
  have ll : us.length = ps.length := rel.length.symm.trans (F.len _ _ _ _ ask)
  have b := bind s us I.kIn (by rw [List.append_nil]; exact ll)
  rw [List.append_nil] at b
  refine wpAny_call (codeAny_mono (F.run X.A X.stack s H ⟨us, []⟩ us vs Q (E σ) gd room I.env0 b rel ask) fun r s' z => ?_)
  match r, z with
  | .error e, z => exact pass pins H s e s' I z
  | .ok (.ret u), z => exact I.after z
  | .ok .next, z => exact z.elim
  | .ok .brk, z => exact z.elim
  | .ok .cont, z => exact z.elim
/-- g(e, ..), g an expression that tells the def f -/
def tCallV (f : Addr) (tf : TE) (sp : Sp) (E : L2.St → XK) (t : TA) : TE := fun σ H Q => tf σ H fun v H1 => v = .ref f ∧ t σ H1 fun vs H2 => sp vs H2 Q (E σ)
theorem pe_callV {fe e : Expr} {es : List Expr} {tf : TE} {t : TA} {pos : Pos} (F : FnX X.prog X.w X.K X.mg X.base CX k f fd ps sp) (gd : X.A.guards = some []) (room : Room k X.A) (kp : PySem.W.keepIn X.K (.ref f) = true) (bind : Binds X.K fd ps []) (pass : ∀ σ, PassesAt CX X σ (E σ)) (hf : PE X fe tf)
    (ha : PA X (e :: es) t) (hc : eval (.Call fe (e :: es) [] pos) X.env = (do callWith pos (← eval fe X.env) [] (backTo pos (starEach (e :: es) X.env)) (backToKw pos (keywordEach [] X.env))) := by rfl)
    (he : starEach (e :: es) X.env = (false, eval e X.env) :: starEach es X.env := by rfl) (hpl : (backTo pos (starEach es X.env)).any (·.1) = false := by rfl) :
    PE X (.Call fe (e :: es) [] pos) (tCallV f tf sp E t) := by
  refine ⟨fun pins s σ H Q I h => ?_⟩
  rw [hc]
  refine wpAny_bind (thn (hf.run pins s σ H _ I h) fun u s1 ⟨v, H1, I1, r1, e1, q1⟩ => ?_)
  subst e1
  cases r1
  exact PySem.W.callWith_K (h₀ := X.base) I1.ok.mod.kin kp (thn (ha.run pos pins s1 σ H1 _ I1 q1) fun us s2 ⟨vs, H2, I2, r, q⟩ => ⟨I2.kIn, runS F gd room bind (pass σ) I2 r q⟩) he hpl
end
section
variable {X : Cx} {pins : List (Addr × Obj)} {σ : L2.St} {H : Hp} {s : Shared} {a : Addr} {oe : Obj} {cls : Value} {d : Option Addr}
/-- an exception that stands in the heap comes to be known -/
theorem track {vs : Array Value} (I : Inv X pins σ H s) (ha : s.heap.get? a = some oe) (hz : Zc cls d oe) (hd : oe.data = .fields vs) (na : H a = none) (nL : a ≠ X.env.locals) (n0 : X.s_0.heap.get? a = none) (np : ∀ p ∈ X.pn ++ pins, p.1 ≠ a) :
    Inv X pins σ (upd H a (ExV cls d a)) s := by
  have new : ObjOk X.prog X.w (upd H a (ExV cls d a)) s.heap a (ExV cls d a) := ⟨⟨oe, vs, ha, hz, hd⟩, ⟨oe, ha⟩, fun h1 h2 ⟨o, v, y, r⟩ i => ⟨o, v, i o y, r⟩⟩
  have b := I.base
  refine ⟨I.ok, I.os, I.bare, ⟨b.keep, b.slot, fun x o e n m => ?_, b.there, fun x xs e => ?_, fun x o u e => ?_, fun x ps e => ?_⟩, I.loc, I.cell, ?_, fun x c e => ?_, fun p hp => ?_, I.hok.laidN (fun _ _ z => z) na new, I.len⟩
  · rw [upd_ne (fun z => by rw [z, n0] at e; cases e)]
    exact b.free x o e n m
  · rw [upd_ne (ne_of_none (b.tups x xs e) na)]
    exact b.tups x xs e
  · rw [upd_ne (ne_of_none (b.frzs x o u e) na)]
    exact b.frzs x o u e
  · obtain ⟨more, z⟩ := b.tbls x ps e
    exact ⟨more, by rw [upd_ne (ne_of_none z na)]; exact z⟩
  · rw [upd_ne (Ne.symm nL)]
    exact I.free
  · obtain ⟨w, z⟩ := I.cell x c e
    rw [upd_ne (fun y => ?_)]
    · exact I.freeC x c e
    · rw [y] at z
      obtain ⟨o, z1, z2⟩ := z
      rw [ha] at z1
      cases z1
      simp_all
  · obtain ⟨e, n, ne, nf, c⟩ := I.pin p hp
    exact ⟨e, by rw [upd_ne (np p hp)]; exact n, ne, nf, c⟩
end
/-- what «except x as n: suite» wishes of an exception of the body, where the suite ends and the exception is known behind it -/
def wKeep (K : PySem.W.Frag) (c : Value) (i : Nat) (ts : Addr → Value → Option Addr → TS) (Wout : WX) (D : Ends) : WX := fun cls d σ H =>
  ∃ b, PySem.W.exmOne K cls c = some b ∧ (b = true → ∀ a, H a = none → ts a cls d { nx := fun σ' H' => H' a = none → D.nx (σ'.set i none) (upd H' a (ExV cls d a)), rt := fun _ _ => False, bk := fun _ _ => False, ct := fun _ _ => False } (σ.set i (some (.ref a))) H) ∧
    (b = false → Wout cls d σ H)
section
variable {X : Cx} {x n : Str} {c : Value} {i : Nat} {body suite : List Stmt} {b₀ : Stmt} {np pos pos' : Pos} {tb : WX → TS} {ts : Addr → Value → Option Addr → TS} {Wout : WX}
theorem ps_try_keep (hs : X.stack = X.env :: X.outer) (hf : X.env.frame = some X.env.locals) (hex : X.ex = []) (hN : X.N.Nodup) (hi : X.N[i]? = some n) (hln : X.env.kindOf n = some .local) (hc : Names X x c) (tk : Takes X Wout)
    (hb : ∀ (W : WX) (pn : List (Addr × Obj)) (xe : Value → Shared → Prop), Takes (X.tr pn xe) W → PassesOwn (model X.prog X.w) X.A X.env xe → PSs (X.tr pn xe) body (tb W))
    (hsu : ∀ (a : Addr) (oe : Obj) (cls : Value) (d : Option Addr) (pn : List (Addr × Obj)), Zc cls d oe → (∃ vs, oe.data = .fields vs) → PSs (X.suite a ((a, oe) :: pn)) (b₀ :: suite) (ts a cls d)) :
    PS X (.Try body [.ExceptHandler (some (.Name x np)) (some n) (b₀ :: suite) pos'] [] [] pos) (fun D σ H => tb (wKeep X.K c i ts Wout D) D σ H) := by
  refine ⟨fun pins s σ H D I h => ?_⟩
  have ok := I.ok
  have hfr : X.A.frames = some (X.env :: X.outer) := by rw [ok.frames, hs]
  have hloc : Loc X.env.scope n := .inl hln
  refine wpAny_Try_except ?_
  refine wpAny_mono ((hb (wKeep X.K c i ts Wout D) (X.pn ++ pins) (fun e s₁ => wpAny (model X.prog X.w) X.A (noteFrame e X.env) (fun _ s₂ => wpAny (model X.prog X.w) X.A (setFlight e none) (fun _ s₃ =>
    wpAny (model X.prog X.w) X.A (handleBy e X.env [.ExceptHandler (some (.Name x np)) (some n) (b₀ :: suite) pos']) (SP X pins D) X.xe s₃) X.xe s₂) X.xe s₁) (fun u s' xx => ?_) PassesOwn.looking).run [] s σ H D (I.toTry _) h) (fun f s1 hsp => ?_) (fun e s1 he => he)
  · obtain ⟨a, B, sI, pins', σ', H', cls, d, rfl, J', nb, up, sky, na, os, ag, b, hb1, hyes, hno⟩ := xx
    have J : Inv X pins σ' H' sI := J'.ofTry ok
    have sky' : Sky B (X.env :: X.outer) a (Zc cls d) X.env.locals s'.heap := by rw [← hs]; exact sky
    have Ba : B.get? a = none := by
      rcases sky with z | z | z
      · exact z.2.1
      · exact z.2.1
      · exact z.2.1
    show wpAny (model X.prog X.w) X.A (noteFrame (.ref a) X.env) _ _ _
    refine Sky.land Zc.steady hfr hf sky' fun h3 fl3 up3 => ?_
    have J3 : Inv X pins σ' H' { s' with heap := h3 } := J.landed nb fl3.1 (up.trans up3) os ag
    obtain ⟨oe3, vs3, he3, hz3, hd3⟩ := fl3.there
    have notFr : ∀ {h : Heap} {o : Obj} {vs : Array Value}, h.FunFrames B (X.env :: X.outer) → h.get? a = some o → o.data = .fields vs → a ∉ frs (X.env :: X.outer) := fun {h o vs} ff e dd hm => by
      obtain ⟨_, o', e', hnf⟩ := ff.mem hm
      rw [e] at e'; cases e'
      exact hnf _ dd
    have nfr := notFr fl3.2.2.1 he3 hd3
    have nL : a ≠ X.env.locals := fun z => nfr (List.mem_filterMap.mpr ⟨X.env, List.mem_cons_self, by rw [hf, z]⟩)
    have nF : a ∉ X.fs := fun hm => by
      obtain ⟨e, he, q⟩ := List.mem_filterMap.mp hm
      exact nfr (List.mem_filterMap.mpr ⟨e, List.mem_cons_of_mem _ he, q⟩)
    have n0 : X.s_0.heap.get? a = none := by
      cases z : X.s_0.heap.get? a with
      | none => rfl
      | some o =>
        obtain ⟨o', z2⟩ := J.base.there a o z (by rw [hex]; simp)
        rw [nb a o' z2 (by show a ∉ frs X.stack; rw [hs]; exact nfr)] at Ba
        cases Ba
    have npin : ∀ p ∈ X.pn ++ pins, p.1 ≠ a := fun p hp z => by
      have y := (J.pin p hp).1
      rw [z] at y
      rw [nb a _ y (by show a ∉ frs X.stack; rw [hs]; exact nfr)] at Ba
      cases Ba
    have S3 := J3.suite he3 hd3 na nL nF
    refine wpAny_handleBy_cons (codeAny_handlers_test ?_) (by intro q; cases q)
    have LT : PySem.W.Looks (model X.prog X.w) h3 (typeOf (.ref a)) cls := fun A Q E s k q => wpAny_typeOf_ref (k _ _ he3) (by rw [hz3.1]; exact q)
    have LM := PySem.W.exm_one (M := model X.prog X.w) (J3.kIn) LT hb1
    have test : ∀ {Q : Value → Shared → Prop} {E : Value → Shared → Prop}, Q c { s' with heap := h3 } → wpAny (model X.prog X.w) (X.A.mark (some (.ref a))) (eval (.Name x np) X.env) Q E { s' with heap := h3 } := fun {Q E} q => by
      obtain ⟨hg, hdbg, hm | ⟨hm, hv, hnn⟩⟩ := hc
      · exact ld_glob (X := X.suite a ((a, oe3) :: (X.pn ++ pins))) S3 hg hm q hdbg
      · exact ld_blt (X := X.suite a ((a, oe3) :: (X.pn ++ pins))) S3 hg hm hv q hnn hdbg
    refine test (LM.here ?_)
    cases b with
    | true =>
      refine codeAny_handlers_suite_as ?_
      refine HandSPX.lands_againZ fl3 fun h4 fl4 up4 => ?_
      have J4 : Inv X pins σ' H' { s' with heap := h4 } := J.landed nb fl4.1 ((up.trans up3).trans up4) os ag
      obtain ⟨oe4, vs4, he4, hz4, hd4⟩ := fl4.there
      have S4 := J4.suite he4 hd4 na nL nF
      refine store_ok (X := X.suite a ((a, oe4) :: (X.pn ++ pins))) (v := .ref a) S4 hN hi hloc rfl (fun s5 S5 => ?_) (.inr hln)
      refine wpAny_mono ((hsu a oe4 cls d (X.pn ++ pins) hz4 ⟨_, hd4⟩).run [] s5 _ H' _ S5 (hyes rfl a na)) (fun f s6 hsp => ?_) (fun _ _ z => False.elim z)
      cases f with
      | next =>
        obtain ⟨σ6, H6, S6, q6⟩ := hsp
        obtain ⟨p1, p2, _⟩ := S6.pin (a, oe4) (List.mem_append_left _ List.mem_cons_self)
        have J6 : Inv X pins σ6 H6 s6 := S6.unsuite ok
        have J7 : Inv X pins σ6 (upd H6 a (ExV cls d a)) s6 := track J6 p1 hz4 hd4 p2 nL n0 npin
        exact gone_ok J7 hN hi hln fun s7 J8 => ⟨_, _, J8, q6 p2⟩
      | brk =>
        obtain ⟨σ6, H6, S6, q6⟩ := hsp
        exact q6.elim
      | cont =>
        obtain ⟨σ6, H6, S6, q6⟩ := hsp
        exact q6.elim
      | ret u =>
        obtain ⟨v6, σ6, H6, S6, r6, q6⟩ := hsp
        exact q6.elim
    | false =>
      show wpAny _ X.A (handleBy (.ref a) X.env []) _ _ _
      refine wpAny_handleBy_nil ?_
      obtain ⟨k1, k2, k3, oe, vs, T, oT, ts', he, hz, hd, h1, hr⟩ := id fl3
      unfold PySem.passOn
      refine wpAny_bind (wpAny_field he hd h1 ?_)
      rw [if_neg (show ¬ ((Value.ref T == Value.none) = true) from by simp)]
      have fin : wpAny (model X.prog X.w) X.A (setFlight (.ref a) X.env.frame) (fun _ s4 => wpAny (model X.prog X.w) X.A (throw (.ref a) : Sem Flow) (SP X pins D) X.xe s4) X.xe { s' with heap := h3 } := by
        rw [hf]
        refine HandSPX.setFlight_upZ fl3 fun h4 hh4 up4 => wpAny_throw (tk _ _ ?_)
        exact ⟨a, B, sI, pins, σ', H', cls, d, rfl, J, nb, (up.trans up3).trans up4, .inr (.inr (by rw [hs]; exact hh4)), na, os, ag, hno rfl⟩
      first
        | exact wpAny_bind (wpAny_pure (wpAny_bind fin))
        | exact wpAny_bind fin
  · cases f with
    | next =>
      obtain ⟨σ', H', J', q⟩ := hsp
      exact wpAny_execs_nil ⟨σ', H', J'.ofTry ok, q⟩
    | brk =>
      obtain ⟨σ', H', J', q⟩ := hsp
      exact ⟨σ', H', J'.ofTry ok, q⟩
    | cont =>
      obtain ⟨σ', H', J', q⟩ := hsp
      exact ⟨σ', H', J'.ofTry ok, q⟩
    | ret u =>
      obtain ⟨v, σ', H', J', r, q⟩ := hsp
      exact ⟨v, σ', H', J'.ofTry ok, r, q⟩
end
/-- at a a caught exception of the class D -/
def ExW (H : Hp) (a D : Addr) : Prop := H a = some (ExV (.ref D) none a) ∨ ∃ y, ExF H a D y
theorem ExW.same {H H' : Hp} {a D : Addr} (h : ExW H a D) (s : Same H H') : ExW H' a D := by
  rcases h with h | ⟨y, h⟩
  · exact .inl (s _ _ h)
  · exact .inr ⟨y, h.same s⟩
theorem ExW.inst {X : Cx} {pins : List (Addr × Obj)} {σ : L2.St} {H : Hp} {s : Shared} {a D : Addr} (I : Inv X pins σ H s) (h : ExW H a D) : ∃ ox od, PySem.W.InstAt s.heap a ox D od := by
  rcases h with h | ⟨y, h⟩
  · have z1 : ObjOk X.prog X.w H s.heap a (.ext fun h => ∃ (oe : Obj) (vs : Array Value), h.get? a = some oe ∧ Zc (.ref D) none oe ∧ oe.data = .fields vs) := I.hok a _ h
    obtain ⟨⟨oe, vs, ha, ⟨hc, hd⟩, hv⟩, _⟩ := z1
    exact ⟨oe, none, ⟨ha, hc, notCls_of hv, by rw [hd]; exact trivial⟩⟩
  · obtain ⟨ox, od, _, J, _⟩ := h.inst I
    exact ⟨ox, some od, J⟩
/-- isinstance(e, c) of a caught exception -/
def rIsW (K : PySem.W.Frag) : List V → Hp → VK → Prop := fun xs H Q => ∃ (a D : Addr) (c : V) (cv : Value) (b : Bool), xs = [.ref a, c] ∧ ExW H a D ∧ ExcC K D ∧ (∀ u, RelV c u → u = cv) ∧ PySem.W.kitOne K (.ref D) cv = some b ∧ Q (.bl b) H
theorem call_isW {X : Cx} : CallR X (.builtin "isinstance") (rIsW X.K) := by
  intro pins s σ H xs us Q I r h
  obtain ⟨a, D, c, cv, b, rfl, hE, C, hcv, e, q⟩ := h
  cases r with
  | cons rx rr =>
    cases rr with
    | cons rt rr =>
      cases rr
      cases rx
      have ec := hcv _ rt
      subst ec
      obtain ⟨ox, od, J⟩ := hE.inst I
      have cl : (PySem.W.clsIn X.K D).isSome = true := by
        obtain ⟨cd, hc, _⟩ := PySem.W.any_some C.hd
        rw [hc]
        rfl
      exact PySem.W.kia_one (PySem.W.kitx_exc cl C.hg C.hk C.hs C.ha C.hn C.ht C.hm) I.kIn J e (fun z => nomatch z) fun tk => ⟨.bl b, H, I.kept (t' := tk) fun _ _ z => z, rfl, q⟩
theorem count_vals {y : V} : ∀ {ys : List V} {us : List Value}, Vals ys us → ys.all flatV = true → us.countP (eqU y) = ys.countP fun z => eqV z y
  | [], _, .nil, _ => rfl
  | z :: r, u :: us, .cons r1 t, f => by
    rw [List.all_cons, Bool.and_eq_true] at f
    rw [List.countP_cons, List.countP_cons, count_vals t f.2, eqU_of r1 f.1]
/-- xs.count(y), flat items -/
def rCountV (K : PySem.W.Frag) : V → List V → Hp → VK → Prop := fun x xs H Q => ∃ (p : Addr) (ys : List V) (y : V), x = .ref p ∧ xs = [y] ∧ SqL K H p ys ∧ flatV y = true ∧ ys.all flatV = true ∧ Q (.int ((ys.countP fun z => eqV z y : Nat) : Int)) H
theorem mt_countV {X : Cx} : MtR X "list.count" (rCountV X.K) := by
  intro pins s σ H x xs v us Q I rx rxs h
  obtain ⟨p, ys, y, rfl, rfl, hs, fy, fys, q⟩ := h
  cases rx
  obtain ⟨u, rfl, ru⟩ := rxs.one
  obtain ⟨its, rv, ⟨⟨cls, dd, data, sl⟩, n, ho, hc, hdn, hd⟩, hlen⟩ := I.list hs
  simp only at hc hd
  subst hc hd
  refine call_meets PySem.F.slot_list_count ⟨_, ho, rfl⟩ PySem.F.entry_list_count (PySem.F.args_list_count_2 _ _)
    (SeqAt.list_countAt p its.toArray n dd sl u (eqU y)) ⟨ho, fun z hz => mem_eqAt ru fy rv fys z (by simpa using hz), ?_⟩
  have ec : its.toArray.toList.countP (eqU y) = ys.countP fun z => eqV z y := count_vals rv fys
  refine ⟨.int ((ys.countP fun z => eqV z y : Nat) : Int), H, I.tok _, ⟨s.toks, ?_⟩, q⟩
  show Value.int ((its.toArray.toList.countP (eqU y) : Nat) : Int) s.toks = _
  rw [ec]
end Rk
namespace Tr
open PySem PySem.Spec PyProof.Rows L2 GxR Nw Dr Kp Ct Lr
/-! ### trees -/
inductive T where
  | leaf (n : Nat)
  | cut (t u : T) (k : Int)
def T.depth : T → Nat
  | .leaf _ => 1
  | .cut t u _ => 1 + max t.depth u.depth
def T.pieces : T → Nat
  | .leaf _ => 1
  | .cut t u _ => 1 + t.pieces + u.pieces
def T.cuts : T → Nat
  | .leaf _ => 0
  | .cut t u _ => 1 + t.cuts + u.cuts
def T.isCut : T → Bool
  | .leaf _ => false
  | .cut _ _ _ => true
theorem T.pos : ∀ t : T, 1 ≤ t.depth ∧ 1 ≤ t.pieces
  | .leaf _ => ⟨Nat.le_refl _, Nat.le_refl _⟩
  | .cut t u _ => ⟨Nat.le_add_right _ _, by show 1 ≤ 1 + t.pieces + u.pieces; omega⟩
/-- at v stands the tree -/
def At (H : Hp) : T → V → Prop
  | .leaf n, v => ∃ a, v = .ref a ∧ H a = some (.tup [.str "book", .int (n : Nat)])
  | .cut t u k, v => ∃ a x y, v = .ref a ∧ H a = some (.tup [.str "cut", x, y, .int k]) ∧ At H t x ∧ At H u y
theorem At.ke {F : Addr → Prop} {H H' : Hp} (k : Ke F H H') : ∀ {t : T} {v : V}, At H t v → At H' t v
  | .leaf n, v, h => by
    obtain ⟨a, e, h⟩ := h
    exact ⟨a, e, k.tups _ _ h⟩
  | .cut t u i, v, h => by
    obtain ⟨a, x, y, e, h, h1, h2⟩ := h
    exact ⟨a, x, y, e, k.tups _ _ h, At.ke k h1, At.ke k h2⟩
theorem At.wr {H : Hp} {D : Addr} {ys : List V} {o : HO} (hD : H D = some (.lst ys)) : ∀ {t : T} {v : V}, At H t v → At (upd H D o) t v
  | .leaf n, v, h => by
    obtain ⟨a, e, h⟩ := h
    refine ⟨a, e, ?_⟩
    rw [upd_ne (fun z => by rw [z, hD] at h; cases h)]
    exact h
  | .cut t u i, v, h => by
    obtain ⟨a, x, y, e, h, h1, h2⟩ := h
    refine ⟨a, x, y, e, ?_, At.wr hD h1, At.wr hD h2⟩
    rw [upd_ne (fun z => by rw [z, hD] at h; cases h)]
    exact h
/-- its claim -/
def Cl (css : List (List Int)) : T → List Int → Prop
  | .leaf n, c => css[n]? = some c
  | .cut t u k, c => ∃ x y, Cl css t x ∧ Cl css u y ∧ Comes x y k c
theorem Cl.one {css : List (List Int)} : ∀ {t : T} {c d : List Int}, Cl css t c → Cl css t d → c = d
  | .leaf n, _, _, a, b => Option.some.inj (a.symm.trans b)
  | .cut t u k, _, _, a, b => by
    obtain ⟨x, y, h1, h2, h3⟩ := a
    obtain ⟨x', y', h1', h2', h3'⟩ := b
    cases Cl.one h1 h1'
    cases Cl.one h2 h2'
    exact h3.one h3'
theorem Cl.isCl {css : List (List Int)} (hb : ∀ c ∈ css, IsCl c) : ∀ {t : T} {c : List Int}, Cl css t c → IsCl c
  | .leaf n, c, h => hb c (List.mem_of_getElem? h)
  | .cut t u k, c, h => by
    obtain ⟨x, y, h1, h2, h3⟩ := h
    exact cl_comes (Cl.isCl hb h1) (Cl.isCl hb h2) h3
/-- all pieces, in the order in which they are done -/
def T.all : T → List T
  | .leaf n => [.leaf n]
  | .cut t u k => t.all ++ u.all ++ [.cut t u k]
theorem T.all_len : ∀ t : T, t.all.length = t.pieces
  | .leaf _ => rfl
  | .cut t u k => by
    show (t.all ++ u.all ++ [T.cut t u k]).length = 1 + t.pieces + u.pieces
    rw [List.length_append, List.length_append, T.all_len t, T.all_len u]
    show t.pieces + u.pieces + 1 = _
    omega
theorem T.all_cuts : ∀ t : T, t.all.countP T.isCut = t.cuts
  | .leaf _ => rfl
  | .cut t u k => by
    show (t.all ++ u.all ++ [T.cut t u k]).countP T.isCut = 1 + t.cuts + u.cuts
    rw [List.countP_append, List.countP_append, T.all_cuts t, T.all_cuts u]
    show t.cuts + u.cuts + 1 = _
    omega
theorem T.all_sub {css : List (List Int)} : ∀ {t : T} {c : List Int}, Cl css t c → ∀ s ∈ t.all, s.depth ≤ t.depth ∧ s.pieces ≤ t.pieces ∧ ∃ d, Cl css s d
  | .leaf n, c, h, s, hs => by
    obtain rfl : s = .leaf n := List.mem_singleton.mp hs
    exact ⟨Nat.le_refl _, Nat.le_refl _, c, h⟩
  | .cut t u k, c, h, s, hs => by
    obtain ⟨x, y, h1, h2, h3⟩ := id h
    rcases List.mem_append.mp hs with hs | hs
    · rcases List.mem_append.mp hs with hs | hs
      · obtain ⟨a1, a2, a3⟩ := T.all_sub h1 s hs
        exact ⟨by show s.depth ≤ 1 + max t.depth u.depth; omega, by show s.pieces ≤ 1 + t.pieces + u.pieces; omega, a3⟩
      · obtain ⟨a1, a2, a3⟩ := T.all_sub h2 s hs
        exact ⟨by show s.depth ≤ 1 + max t.depth u.depth; omega, by show s.pieces ≤ 1 + t.pieces + u.pieces; omega, a3⟩
    · rw [List.mem_singleton.mp hs]
      exact ⟨Nat.le_refl _, Nat.le_refl _, c, h⟩
theorem unsnoc {α β : Type} {R : α → β → Prop} {xs : List α} {ys : List β} (h : All2 R xs ys) (ne : xs ≠ []) : ∃ xs0 x ys0 y, xs = xs0 ++ [x] ∧ ys = ys0 ++ [y] ∧ All2 R xs0 ys0 ∧ R x y := by
  have l := h.1
  have lp : 0 < xs.length := by
    cases xs with
    | nil => exact absurd rfl ne
    | cons a t => exact Nat.zero_lt_succ _
  have e1 : xs = xs.take (xs.length - 1) ++ [xs[xs.length - 1]] := by
    have := Lp.take_snoc (List.getElem?_eq_getElem (show xs.length - 1 < xs.length by omega))
    rw [show xs.length - 1 + 1 = xs.length by omega, List.take_length] at this
    exact this
  have e2 : ys = ys.take (xs.length - 1) ++ [ys[xs.length - 1]] := by
    have := Lp.take_snoc (List.getElem?_eq_getElem (show xs.length - 1 < ys.length by omega))
    rw [show xs.length - 1 + 1 = ys.length by omega, List.take_length] at this
    exact this
  exact ⟨_, _, _, _, e1, e2, h.take _, h.2 _ _ _ (List.getElem?_eq_getElem _) (List.getElem?_eq_getElem _)⟩
end Tr
namespace Bkg
open PySem PySem.Spec PyProof.Rows L2 GxR Nw Dr Kp Ct Lr Lp Tr
/-! ### a ladder put back: the trees of its rows -/
def trOf (ts : List T) : Rw → T
  | .book n => .leaf n
  | .cut i j k => .cut (ts.getD i (.leaf 0)) (ts.getD j (.leaf 0)) k
def trs (rows : List Rw) : List T := rows.foldl (fun ts r => ts ++ [trOf ts r]) []
theorem trs_snoc (rows : List Rw) (r : Rw) : trs (rows ++ [r]) = trs rows ++ [trOf (trs rows) r] := by
  unfold trs
  rw [List.foldl_append]
  rfl
theorem trs_len (rows : List Rw) : (trs rows).length = rows.length := by
  have key : ∀ (l : List Rw) (hs : List T), (l.foldl (fun ts r => ts ++ [trOf ts r]) hs).length = hs.length + l.length := by
    intro l
    induction l with
    | nil => exact fun hs => rfl
    | cons r t ih =>
      intro hs
      rw [List.foldl_cons, ih]
      simp only [List.length_append, List.length_cons, List.length_nil]
      omega
  have := key rows []
  rw [List.length_nil, Nat.zero_add] at this
  exact this
/-- how many pieces a row has -/
def pcOf (hs : List Int) : Rw → Int
  | .book _ => 1
  | .cut i j _ => 1 + hs.getD i 0 + hs.getD j 0
def pcs (rows : List Rw) : List Int := (trs rows).map fun t => ((t.pieces : Nat) : Int)
theorem gdAt {α : Type} {l : List α} {i : Nat} {d : α} (h : i < l.length) : l.getD i d = l[i] := by
  rw [List.getD_eq_getElem?_getD, List.getElem?_eq_getElem h]
  rfl
theorem pcs_snoc {rows : List Rw} {r : Rw} (hp : ∀ i j k, r = .cut i j k → i < rows.length ∧ j < rows.length) : pcs (rows ++ [r]) = pcs rows ++ [pcOf (pcs rows) r] := by
  unfold pcs
  rw [trs_snoc, List.map_append]
  congr 1
  cases r with
  | book n => rfl
  | cut i j k =>
    obtain ⟨li, lj⟩ := hp i j k rfl
    have l := trs_len rows
    show [(((1 + ((trs rows).getD i (.leaf 0)).pieces + ((trs rows).getD j (.leaf 0)).pieces : Nat)) : Int)] = [1 + ((trs rows).map fun t => ((t.pieces : Nat) : Int)).getD i 0 + ((trs rows).map fun t => ((t.pieces : Nat) : Int)).getD j 0]
    rw [gdAt (by omega), gdAt (by omega), gdAt (by rw [List.length_map]; omega), gdAt (by rw [List.length_map]; omega), List.getElem_map, List.getElem_map]
    simp only [Int.natCast_add]
    rfl
theorem pcs_len (rows : List Rw) : (pcs rows).length = rows.length := by
  unfold pcs
  rw [List.length_map, trs_len]
theorem trs_go (l : List Rw) : ∀ hs : List T, ∃ ts, l.foldl (fun ts r => ts ++ [trOf ts r]) hs = hs ++ ts := by
  induction l with
  | nil => exact fun hs => ⟨[], by rw [List.append_nil]; rfl⟩
  | cons r t ih =>
    intro hs
    obtain ⟨ts, e⟩ := ih (hs ++ [trOf hs r])
    exact ⟨trOf hs r :: ts, by rw [List.foldl_cons, e, List.append_assoc]; rfl⟩
theorem trs_pre (a b : List Rw) : ∃ ts, trs (a ++ b) = trs a ++ ts := by
  unfold trs
  rw [List.foldl_append]
  exact trs_go b _
theorem trs_get {rows : List Rw} {n : Nat} {r : Rw} (h : rows[n]? = some r) : (trs rows)[n]? = some (trOf (trs (rows.take n)) r) := by
  have l := (List.getElem?_eq_some_iff.mp h).1
  obtain ⟨ts, e⟩ := trs_pre (rows.take (n + 1)) (rows.drop (n + 1))
  rw [List.take_append_drop, take_snoc h, trs_snoc] at e
  have l2 : (trs (rows.take n)).length = n := by rw [trs_len, List.length_take]; omega
  rw [e, List.append_assoc, List.getElem?_append_right (by omega), l2, Nat.sub_self]
  rfl
/-- each cut's rows lie ahead of it -/
def Par (rows : List Rw) : Prop := ∀ (n i j : Nat) (k : Int), rows[n]? = some (.cut i j k) → i < n ∧ j < n
theorem Par.take {rows : List Rw} (h : Par rows) (m : Nat) : Par (rows.take m) := fun n i j k e => by
  rw [List.getElem?_take] at e
  split at e
  · exact h n i j k e
  · cases e
theorem trs_at {rows : List Rw} (h : Par rows) {n i j : Nat} {k : Int} (e : rows[n]? = some (.cut i j k)) : ∃ ti tj, (trs rows)[i]? = some ti ∧ (trs rows)[j]? = some tj ∧ (trs rows)[n]? = some (.cut ti tj k) := by
  have l := (List.getElem?_eq_some_iff.mp e).1
  obtain ⟨li, lj⟩ := h n i j k e
  obtain ⟨ts, e2⟩ := trs_pre (rows.take n) (rows.drop n)
  rw [List.take_append_drop] at e2
  have l2 : (trs (rows.take n)).length = n := by rw [trs_len, List.length_take]; omega
  refine ⟨(trs (rows.take n)).getD i (.leaf 0), (trs (rows.take n)).getD j (.leaf 0), ?_, ?_, trs_get e⟩
  · rw [e2, List.getElem?_append_left (by omega), gdAt (by omega)]
    exact List.getElem?_eq_getElem _
  · rw [e2, List.getElem?_append_left (by omega), gdAt (by omega)]
    exact List.getElem?_eq_getElem _
theorem trs_book {rows : List Rw} {n m : Nat} (e : rows[n]? = some (.book m)) : (trs rows)[n]? = some (.leaf m) := trs_get e
theorem T.lt2 : ∀ t : T, t.pieces < 2 ^ t.depth
  | .leaf _ => by
    show 1 < 2 ^ 1
    decide
  | .cut t u _ => by
    have h1 := T.lt2 t
    have h2 := T.lt2 u
    have p1 : 2 ^ t.depth ≤ 2 ^ (max t.depth u.depth) := Nat.pow_le_pow_right (by decide) (Nat.le_max_left _ _)
    have p2 : 2 ^ u.depth ≤ 2 ^ (max t.depth u.depth) := Nat.pow_le_pow_right (by decide) (Nat.le_max_right _ _)
    show 1 + t.pieces + u.pieces < 2 ^ (1 + max t.depth u.depth)
    rw [Nat.add_comm 1 (max _ _), Nat.pow_succ]
    omega
theorem dep_le {rows : List Rw} (h : Par rows) : ∀ (n : Nat) {t : T}, (trs rows)[n]? = some t → t.depth ≤ n + 1 := by
  intro n
  induction n using Nat.strongRecOn with
  | ind n ih =>
    intro t e
    have l := (List.getElem?_eq_some_iff.mp e).1
    rw [trs_len] at l
    cases hr : rows[n]'l with
    | book m =>
      rw [trs_book (by rw [List.getElem?_eq_getElem l, hr])] at e
      cases e
      show 1 ≤ n + 1
      omega
    | cut i j k =>
      have er : rows[n]? = some (.cut i j k) := by rw [List.getElem?_eq_getElem l, hr]
      obtain ⟨li, lj⟩ := h n i j k er
      obtain ⟨ti, tj, e1, e2, e3⟩ := trs_at h er
      rw [e3] at e
      cases e
      have := ih i li e1
      have := ih j lj e2
      show 1 + max ti.depth tj.depth ≤ n + 1
      omega
def hOf (t : T) : Int := ((t.depth : Nat) : Int) - 1
theorem hts_trs {rows : List Rw} (h : Par rows) : hts rows = (trs rows).map hOf := by
  have key : ∀ n, hts (rows.take n) = (trs (rows.take n)).map hOf := by
    intro n
    induction n with
    | zero => rfl
    | succ n ih =>
      cases er : rows[n]? with
      | none =>
        have l : rows.length ≤ n := List.getElem?_eq_none_iff.mp er
        rw [List.take_of_length_le (by omega)]
        rw [List.take_of_length_le l] at ih
        exact ih
      | some r =>
        have l := (List.getElem?_eq_some_iff.mp er).1
        rw [take_snoc er, hts_snoc, trs_snoc, List.map_append, ih]
        congr 1
        have l2 : (trs (rows.take n)).length = n := by rw [trs_len, List.length_take]; omega
        cases r with
        | book m => rfl
        | cut i j k =>
          obtain ⟨li, lj⟩ := h n i j k er
          show [1 + (if ((trs (rows.take n)).map hOf).getD j 0 > ((trs (rows.take n)).map hOf).getD i 0 then ((trs (rows.take n)).map hOf).getD j 0 else ((trs (rows.take n)).map hOf).getD i 0)] = [hOf (.cut ((trs (rows.take n)).getD i (.leaf 0)) ((trs (rows.take n)).getD j (.leaf 0)) k)]
          rw [gdAt (by rw [List.length_map]; omega), gdAt (by rw [List.length_map]; omega), gdAt (by omega), gdAt (by omega), List.getElem_map, List.getElem_map]
          generalize (trs (rows.take n))[i]'(by omega) = ti
          generalize (trs (rows.take n))[j]'(by omega) = tj
          unfold hOf
          show _ = [((1 + max ti.depth tj.depth : Nat) : Int) - 1]
          congr 1
          split <;> omega
  have := key rows.length
  rw [List.take_length] at this
  exact this
theorem lad_par {css cls : List (List Int)} {rows : List Rw} (h : Lad css rows cls) : Par rows := fun n i j k e => by
  have l := (List.getElem?_eq_some_iff.mp e).1
  have l2 : n < cls.length := by rw [← h.1]; exact l
  have := (h.2 n _ _ e (List.getElem?_eq_getElem l2)).parts
  rw [List.length_take] at this
  omega
/-- a tree as data -/
def tdt : T → PyData
  | .leaf n => .tuple [.str "book", .int (n : Nat)]
  | .cut t u k => .tuple [.str "cut", tdt t, tdt u, .int k]
theorem dp_tree {K : PySem.W.Frag} {H : Hp} : ∀ {t : T} {v : V}, At H t v → Dp K H v (tdt t)
  | .leaf n, v, h => by
    obtain ⟨a, rfl, h⟩ := h
    exact .tup (.of h) (.cons (.str _) (.cons (.int _) .nil))
  | .cut t u k, v, h => by
    obtain ⟨a, x, y, rfl, h, h1, h2⟩ := h
    exact .tup (.of h) (.cons (.str _) (.cons (dp_tree h1) (.cons (dp_tree h2) (.cons (.int _) .nil))))
theorem ltree : ∀ t : T, PyData.canLay0 (tdt t) = true ∧ PyData.depth (tdt t) ≤ t.depth
  | .leaf n => by
    have b1 : PyData.strOk "book" = true := by decide +kernel
    exact ⟨by simp [tdt, PyData.canLay0, PyData.canLayAll0, b1], by simp [tdt, PyData.depth, PyData.depthAll, T.depth]⟩
  | .cut t u k => by
    have b1 : PyData.strOk "cut" = true := by decide +kernel
    obtain ⟨h1, h2⟩ := ltree t
    obtain ⟨h3, h4⟩ := ltree u
    refine ⟨by simp [tdt, PyData.canLay0, PyData.canLayAll0, b1, h1, h3], ?_⟩
    simp [tdt, PyData.depth, PyData.depthAll, T.depth]
    omega
theorem at_last {xs : List V} {x : V} (h : xs[xs.length - 1]? = some x) : atI xs (-1) = some x := by
  have l := (List.getElem?_eq_some_iff.mp h).1
  unfold atI ixN
  rw [if_neg (by decide), if_pos (by omega)]
  show xs[(-1 + (xs.length : Int)).toNat]? = some x
  rw [show (-1 + (xs.length : Int)).toNat = xs.length - 1 by omega]
  exact h
theorem All2.same {H H' : Hp} {vs : List V} {ts : List T} (a : All2 (fun v t => At H t v) vs ts) {F : Addr → Prop} (k : Ke F H H') : All2 (fun v t => At H' t v) vs ts := a.imp fun _ _ h => h.ke k
end Bkg
namespace Bkp
open PySem PySem.Spec PyProof.Rows L2 GxR Nw Dr Kp Se Cl Ct Lr Lp Ll Od Wg Wl Wk Tr Bkg
/-- what is known of the class TooGreat -/
structure CG (K : PySem.W.Frag) (mg : Str → Option Value) (C : Addr) : Prop where
  xP : PySem.W.excIn K C [.type "ValueError", .type "Exception", .type "BaseException", .type "object"] "ValueError.__new__" = true
  gP : mg "TooGreat" = some (.ref C)
  kP : PySem.W.keepIn K (.ref C) = true
  bP : PySem.W.subIn K (.ref C) (.type "BaseException") = some true
  tP : PySem.W.typeIn K (.ref C) = some (.type "type")
section
variable {P : Program} {w : World} {K : PySem.W.Frag} {mg : Str → Option Value} {base : Heap}
abbrev sPor : Stmt := topS 23
theorem scPor : FnScope ["row", "pieces_ahead"] ["row", "pieces_ahead"] (defScope sPor) := ⟨rfl, rfl, rfl, by decide +kernel, rfl, by decide +kernel, by decide +kernel⟩
def spPor : Sp := fun vs H Q _ => ∃ (v : V) (L : Addr) (r : Rw) (hs : List Int), vs = [v, .ref L] ∧ RowAt H v r ∧ H L = some (.lst (hs.map V.int)) ∧ (∀ i j k, r = .cut i j k → i < hs.length ∧ j < hs.length) ∧ Q (.int (pcOf hs r)) H
theorem ok_por {f : Addr} {fd : FuncData} {k : Nat} (F : Fun K "pieces_of_row" "pieces_of_row" sPor f fd) : FnOk P w K mg base CX0 (k + 1) f fd ["row", "pieces_ahead"] spPor := by
  refine F.ok scPor (fun vs H Q E h => ?_) (fun cdv A outer s H vs Q E hr h => ?_)
  · obtain ⟨v, L, r, hs, rfl, _⟩ := h
    rfl
  · obtain ⟨v, L, r, hs, rfl, ⟨a, rfl, ha⟩, hL, hp, q⟩ := h
    refine ⟨_, (pss_cons (ps_if (pt_cmpR op_eq (pe_ix ix_tup (pv 0) pe_int (fun _ _ => rfl)) pe_str (nomark _)) (pss_one (ps_ret pe_int)) pss_nil)
      (pss_one (ps_ret (pe_op op_add (pe_op op_add pe_int (pe_ix ix_list (pv 1) (pe_ix ix_tup (pv 0) pe_int (fun _ _ => rfl)) (fun _ _ => rfl))) (pe_ix ix_list (pv 1) (pe_ix ix_tup (pv 0) pe_int (fun _ _ => rfl)) (fun _ _ => rfl)))))), ?_⟩
    cases r with
    | book n => exact ⟨_, rfl, a, _, 0, .str "book", rfl, rfl, .of ha, rfl, rfl, true, by simp, q⟩
    | cut i j k =>
      obtain ⟨li, lj⟩ := hp i j k rfl
      refine ⟨_, rfl, a, _, 0, .str "cut", rfl, rfl, .of ha, rfl, rfl, false, by simp; decide, ?_⟩
      refine ⟨_, rfl, _, rfl, a, _, 1, .int (i : Nat), rfl, rfl, .of ha, rfl, L, _, _, .int hs[i], rfl, rfl, .of hL, at_of (j := i) rfl (by rw [List.getElem?_map, List.getElem?_eq_getElem li]; rfl), _, _, rfl, rfl, ?_⟩
      refine ⟨_, rfl, _, rfl, a, _, 2, .int (j : Nat), rfl, rfl, .of ha, rfl, L, _, _, .int hs[j], rfl, rfl, .of hL, at_of (j := j) rfl (by rw [List.getElem?_map, List.getElem?_eq_getElem lj]; rfl), _, _, rfl, rfl, ?_⟩
      have q : Q (.int (1 + hs.getD i 0 + hs.getD j 0)) H := q
      rw [gdAt li, gdAt lj] at q
      exact q
abbrev sPof : Stmt := topS 24
theorem scPof : FnScope ["book", "ladder", "told", "row"] ["book", "ladder"] (defScope sPof) := ⟨rfl, rfl, rfl, by decide +kernel, rfl, by decide +kernel, by decide +kernel⟩
def spPof (Po : Addr) : Sp := fun vs H Q _ => ∃ (b : V) (L : Addr) (css cls : List (List Int)) (rows : List Rw), vs = [b, .ref L] ∧ BL H b L css rows cls ∧ 0 < rows.length ∧ TabG H Po ∧ ∀ (t : T) H', Ke Nof H H' → (trs rows)[rows.length - 1]? = some t → Q (.int (t.pieces : Nat)) H'
theorem ok_pof {f fK fH Po : Addr} {fd fdK fdH : FuncData} {k : Nat} (F : Fun K "pieces_of" "pieces_of" sPof f fd) (FK : Fun K "check_ladder" "check_ladder" sChk fK fdK) (bK : Binds K fdK ["book", "ladder"] []) (gK : mg "check_ladder" = some (.ref fK)) (GK : FnOk P w K mg base CX0 8 fK fdK ["book", "ladder"] (spChk Po))
    (FH : Fun K "pieces_of_row" "pieces_of_row" sPor fH fdH) (bH : Binds K fdH ["row", "pieces_ahead"] []) (gH : mg "pieces_of_row" = some (.ref fH)) (GH : FnOk P w K mg base CX0 1 fH fdH ["row", "pieces_ahead"] spPor) :
    FnOk P w K mg base CX0 (k + 9) f fd ["book", "ladder"] (spPof Po) := by
  refine F.ok scPof (fun vs H Q E h => ?_) (fun cdv A outer s H vs Q E hr h => ?_)
  · obtain ⟨b, L, css, cls, rows, rfl, _⟩ := h
    rfl
  · obtain ⟨b, L, css, cls, rows, rfl, x, l0, tg, q⟩ := h
    have hr8 : Room 8 _ := hr.mono (by omega)
    have hr1 : Room 1 _ := hr.mono (by omega)
    refine ⟨_, (Evl.pss_cut (ps_expr (pe_call GK hr8 (by rfl) gK FK.kp bK .nil pass0 (pa_cons (pv 0) (pa_cons (pv 1) pa_nil))))
      (Evl.pss_cut (ps_set (i := 2) scPof.nd rfl (.inl rfl) (pe_lstN pa_nil))
      (Evl.pss_cut (ps_for PassesOwn.never rfl (pi_list (pv 1)) (pg_name (i := 3) scPof.nd rfl (.inl rfl)) (pss_one (ps_expr (pe_bm PySem.F.plainAttrs_list PySem.F.slot_list_append PySem.F.type_list_append mt_append (pv 2) (pa_cons (pe_call GH hr1 (by rfl) gH FH.kp bH .nil pass0 (pa_cons (pv 3) (pa_cons (pv 2) pa_nil))) pa_nil)))))
      (pss_one (ps_ret (pe_ix ix_list (pv 2) (pe_un un_neg pe_int) (fun _ _ => rfl))))))), ?_⟩
    refine Evl.q_cut (M := fun σ' H' => σ' = [some b, some (.ref L), none, none] ∧ Ke Nof H H') ?_ ?_
    · exact ⟨_, rfl, _, rfl, b, L, css, cls, rows, rfl, x, l0, tg, fun H1 k1 => ⟨rfl, k1⟩⟩
    rintro σ' H1 ⟨rfl, k1⟩
    refine Evl.q_cut (M := fun σ' H' => ∃ D : Addr, σ' = [some b, some (.ref L), some (.ref D), none] ∧ H1 D = none ∧ Same H1 H' ∧ H' D = some (.lst [])) ?_ ?_
    · exact ⟨Nat.zero_le _, fun D H2 nD s2 hD _ => ⟨D, rfl, nD, s2, hD⟩⟩
    rintro σ' H2 ⟨D, rfl, nD, s2, hD⟩
    have par := lad_par x.ld
    obtain ⟨rvs, hLr, aR⟩ := (x.ke k1 fun z => z).rw
    have l2 := x.le
    refine Evl.q_cut (M := fun σ' H' => ∃ y3 : Option V, σ' = [some b, some (.ref L), some (.ref D), y3] ∧ Ke Nof H1 H' ∧ H' D = some (.lst ((pcs rows).map V.int))) ?_ ?_
    · refine ⟨_, rfl, L, rfl, ⟨_, .of (s2 _ _ hLr)⟩, for_list (K := K) (a := L) (xs := rvs) (Pv := fun i σ H' => ∃ y3 : Option V, σ = [some b, some (.ref L), some (.ref D), y3] ∧ Ke Nof H1 H' ∧ H' D = some (.lst ((pcs (rows.take i)).map V.int))) ?_ (fun i σ H' _ p => ?_) ?_ ?_⟩
      · exact ⟨none, rfl, .same s2, hD⟩
      · obtain ⟨_, _, k3, _⟩ := p
        exact .of (k3.lst hLr fun z => z)
      · rintro i v σ H3 hv ⟨y3, rfl, k3, hD3⟩
        obtain ⟨r, hr', rv⟩ := aR.at hv
        have hl := pcs_len (rows.take i)
        have lr := (List.getElem?_eq_some_iff.mp hr').1
        rw [List.length_take] at hl
        refine ⟨_, rfl, .inl ⟨rfl, _, .of hD3⟩, _, rfl, _, rfl, v, D, r, _, rfl, rv.ke k3, hD3, fun a b' k' e => ?_, ?_⟩
        · subst e
          have := par _ _ _ _ hr'
          omega
        · refine ⟨D, _, _, rfl, rfl, hD3, by rw [List.length_map]; exact small1000 (by omega), ?_⟩
          refine ⟨_, rfl, k3.upd nD, ?_⟩
          rw [upd_same, take_snoc hr', pcs_snoc (fun a b' k' e => by
            subst e
            have := par _ _ _ _ hr'
            rw [List.length_take]
            omega), List.map_append]
          rfl
      · rintro σ H3 ⟨y3, rfl, k3, hD3⟩
        rw [aR.1, List.take_length] at hD3
        exact ⟨y3, rfl, k3, hD3⟩
    rintro σ' H3 ⟨y3, rfl, k3, hD3⟩
    have lt := trs_len rows
    have et := List.getElem?_eq_getElem (show rows.length - 1 < (trs rows).length by omega)
    generalize (trs rows)[rows.length - 1]'(by omega) = t at et
    refine ⟨_, rfl, _, rfl, D, _, _, .int ((t.pieces : Nat) : Int), rfl, rfl, .of hD3, at_last ?_, q t H3 (k1.trans k3) et⟩
    rw [List.length_map, pcs_len, List.getElem?_map]
    unfold pcs
    rw [List.getElem?_map, et]
    rfl
abbrev sTor : Stmt := topS 25
theorem scTor : FnScope ["row", "trees_ahead"] ["row", "trees_ahead"] (defScope sTor) := ⟨rfl, rfl, rfl, by decide +kernel, rfl, by decide +kernel, by decide +kernel⟩
def spTor : Sp := fun vs H Q _ => ∃ (v : V) (L : Addr) (r : Rw) (tvs : List V) (ts : List T), vs = [v, .ref L] ∧ RowAt H v r ∧ H L = some (.lst tvs) ∧ All2 (fun v t => At H t v) tvs ts ∧ (∀ i j k, r = .cut i j k → i < ts.length ∧ j < ts.length) ∧ ∀ v' H', Same H H' → At H' (trOf ts r) v' → Q v' H'
theorem ok_tor {f : Addr} {fd : FuncData} {k : Nat} (F : Fun K "tree_of_row" "tree_of_row" sTor f fd) : FnOk P w K mg base CX0 (k + 1) f fd ["row", "trees_ahead"] spTor := by
  refine F.ok scTor (fun vs H Q E h => ?_) (fun cdv A outer s H vs Q E hr h => ?_)
  · obtain ⟨v, L, r, tvs, ts, rfl, _⟩ := h
    rfl
  · obtain ⟨v, L, r, tvs, ts, rfl, ⟨a, rfl, ha⟩, hL, aT, hp, q⟩ := h
    refine ⟨_, (pss_cons (ps_if (pt_cmpR op_eq (pe_ix ix_tup (pv 0) pe_int (fun _ _ => rfl)) pe_str (nomark _)) (pss_one (ps_ret (pv 0))) pss_nil)
      (pss_one (ps_ret (pe_tupN (pa_cons pe_str (pa_cons (pe_ix ix_list (pv 1) (pe_ix ix_tup (pv 0) pe_int (fun _ _ => rfl)) (fun _ _ => rfl)) (pa_cons (pe_ix ix_list (pv 1) (pe_ix ix_tup (pv 0) pe_int (fun _ _ => rfl)) (fun _ _ => rfl)) (pa_cons (pe_ix ix_tup (pv 0) pe_int (fun _ _ => rfl)) pa_nil)))))))), ?_⟩
    cases r with
    | book n =>
      refine ⟨_, rfl, a, _, 0, .str "book", rfl, rfl, .of ha, rfl, rfl, true, by simp, ?_⟩
      exact ⟨_, rfl, q _ H (Same.refl _) ⟨a, rfl, ha⟩⟩
    | cut i j k =>
      obtain ⟨li, lj⟩ := hp i j k rfl
      obtain ⟨vi, hvi, ai⟩ := aT.atR (List.getElem?_eq_getElem li)
      obtain ⟨vj, hvj, aj⟩ := aT.atR (List.getElem?_eq_getElem lj)
      refine ⟨_, rfl, a, _, 0, .str "cut", rfl, rfl, .of ha, rfl, rfl, false, by simp; decide, ?_⟩
      refine ⟨_, rfl, _, rfl, a, _, 1, .int (i : Nat), rfl, rfl, .of ha, rfl, L, _, _, vi, rfl, rfl, .of hL, at_of (j := i) rfl hvi, ?_⟩
      refine ⟨_, rfl, _, rfl, a, _, 2, .int (j : Nat), rfl, rfl, .of ha, rfl, L, _, _, vj, rfl, rfl, .of hL, at_of (j := j) rfl hvj, ?_⟩
      refine ⟨_, rfl, a, _, 3, .int k, rfl, rfl, .of ha, rfl, by show 4 ≤ sizeLine; decide, fun p H1 np s1 hp _ => ?_⟩
      refine q _ H1 s1 ?_
      show At H1 (.cut (ts.getD i (.leaf 0)) (ts.getD j (.leaf 0)) k) _
      rw [gdAt li, gdAt lj]
      exact ⟨p, vi, vj, rfl, hp, ai.ke (Ke.same (F := Nof) s1), aj.ke (Ke.same (F := Nof) s1)⟩
abbrev sTof : Stmt := topS 26
theorem scTof : FnScope ["book", "ladder", "trees", "row"] ["book", "ladder"] (defScope sTof) := ⟨rfl, rfl, rfl, by decide +kernel, rfl, by decide +kernel, by decide +kernel⟩
def spTof (C Po : Addr) : Sp := fun vs H Q E => ∃ (b : V) (L : Addr) (css cls : List (List Int)) (rows : List Rw) (t : T), vs = [b, .ref L] ∧ BL H b L css rows cls ∧ 0 < rows.length ∧ TabG H Po ∧ (trs rows)[rows.length - 1]? = some t ∧
  (360 < t.pieces ∨ 40 < t.depth → ∀ H', Ke Nof H H' → E (.ref C) none H') ∧ (t.pieces ≤ 360 → t.depth ≤ 40 → ∀ v H', Ke Nof H H' → At H' t v → Q v H')
theorem ok_tof {f fP fE fH C Po : Addr} {fd fdP fdE fdH : FuncData} {tk tk' : Tok} (F : Fun K "tree_of" "tree_of" sTof f fd) (C' : CG K mg C) (M3 : mg "MOST_PIECES" = some (.int 360 tk)) (M4 : mg "MOST_WITHIN" = some (.int 40 tk'))
    (FP : Fun K "pieces_of" "pieces_of" sPof fP fdP) (bP : Binds K fdP ["book", "ladder"] []) (gP : mg "pieces_of" = some (.ref fP)) (GP : FnOk P w K mg base CX0 9 fP fdP ["book", "ladder"] (spPof Po))
    (FE : Fun K "heights" "heights" sHei fE fdE) (bE : Binds K fdE ["book", "ladder"] []) (gE : mg "heights" = some (.ref fE)) (GE : FnOk P w K mg base CX0 9 fE fdE ["book", "ladder"] (spHei Po))
    (FH : Fun K "tree_of_row" "tree_of_row" sTor fH fdH) (bH : Binds K fdH ["row", "trees_ahead"] []) (gH : mg "tree_of_row" = some (.ref fH)) (GH : FnOk P w K mg base CX0 1 fH fdH ["row", "trees_ahead"] spTor) :
    Gx2.FnX P w K mg base (L2.CX P w) 10 f fd ["book", "ladder"] (spTof C Po) := by
  refine Gx2.okX F scTof (fun vs H Q E h => ?_) (fun cdv A outer s H vs Q E gd0 hr h => ?_)
  · obtain ⟨b, L, css, cls, rows, t, rfl, _⟩ := h
    rfl
  · obtain ⟨b, L, css, cls, rows, t, rfl, x, l0, tg, et, q1, q2⟩ := h
    have hr9 : Room 9 _ := hr.mono (by omega)
    have hr1 : Room 1 _ := hr.mono (by omega)
    have gd : (A.deeper (envOfC "tree_of" (defScope sTof) s.heap.objs.size f cdv)).guards = some [] := gd0
    refine ⟨_, (Evl.pss_cut (ps_if (PW.pt (pw_or (pt_cmpR op_gt (pe_call GP hr9 (by rfl) gP FP.kp bP .nil pass0 (pa_cons (pv 0) (pa_cons (pv 1) pa_nil))) (pe_glob (v := .int 360) rfl M3 ⟨_, rfl⟩) (nomark _)) (pw_or1 (pt_cmpR op_gt (pe_op op_add (pe_ix ix_list (pe_call GE hr9 (by rfl) gE FE.kp bE .nil pass0 (pa_cons (pv 0) (pa_cons (pv 1) pa_nil))) (pe_un un_neg pe_int) (fun _ _ => rfl)) pe_int) (pe_glob (v := .int 40) rfl M4 ⟨_, rfl⟩) (nomark _))))) (pss_one (ps_raise rfl (takes_of rfl rfl rfl rfl) (SkE.pmk_own1 PySem.F.excBase_ValueError C'.xP C'.gP C'.kP (raises_own C'.bP C'.tP) rfl pe_str))) pss_nil)
      (PSs.nox (Evl.pss_cut (ps_set (i := 2) scTof.nd rfl (.inl rfl) (pe_lstN pa_nil))
      (Evl.pss_cut (ps_for PassesOwn.never rfl (pi_list (pv 1)) (pg_name (i := 3) scTof.nd rfl (.inl rfl)) (pss_one (ps_expr (pe_bm PySem.F.plainAttrs_list PySem.F.slot_list_append PySem.F.type_list_append mt_append (pv 2) (pa_cons (pe_call GH hr1 (by rfl) gH FH.kp bH .nil pass0 (pa_cons (pv 3) (pa_cons (pv 2) pa_nil))) pa_nil)))))
      (pss_one (ps_ret (pe_ix ix_list (pv 2) (pe_un un_neg pe_int) (fun _ _ => rfl)))))))), ?_⟩
    have par := lad_par x.ld
    have l2 := x.le
    have lt := trs_len rows
    refine Evl.q_cut (M := fun σ' H' => σ' = [some b, some (.ref L), none, none] ∧ Ke Nof H H' ∧ t.pieces ≤ 360 ∧ t.depth ≤ 40) ?_ ?_
    · refine ⟨_, rfl, _, rfl, b, L, css, cls, rows, rfl, x, l0, tg, fun t' H1 k1 et' => ?_⟩
      rw [et] at et'
      cases et'
      refine ⟨_, _, rfl, rfl, _, rfl, ite2 (fun e => ?_) (fun e => ?_)⟩
      · have e : ((t.pieces : Nat) : Int) > 360 := of_decide_eq_true e
        exact q1 (.inl (by omega)) H1 k1
      · have e : ¬ ((t.pieces : Nat) : Int) > 360 := fun z => e (decide_eq_true z)
        refine ⟨_, rfl, _, rfl, b, L, css, cls, rows, rfl, x.ke k1 fun z => z, l0, k1.tabs _ tg, fun p H2 fr k2 hp => ?_⟩
        refine ⟨_, rfl, p, _, _, .int (hOf t), rfl, rfl, .of hp, at_last ?_, _, _, rfl, rfl, _, _, rfl, rfl, _, rfl, ite2 (fun e2 => ?_) (fun e2 => ?_)⟩
        · rw [List.length_map, hts_len, List.getElem?_map, hts_trs par, List.getElem?_map, et]
          rfl
        · have e2 : hOf t + 1 > 40 := of_decide_eq_true e2
          unfold hOf at e2
          exact q1 (.inr (by omega)) H2 (k1.trans k2)
        · have e2 : ¬ hOf t + 1 > 40 := fun z => e2 (decide_eq_true z)
          unfold hOf at e2
          exact ⟨rfl, k1.trans k2, by omega, by omega⟩
    rintro σ' H1 ⟨rfl, k1, b1, b2⟩
    refine Evl.q_cut (M := fun σ' H' => ∃ D : Addr, σ' = [some b, some (.ref L), some (.ref D), none] ∧ H1 D = none ∧ Same H1 H' ∧ H' D = some (.lst [])) ?_ ?_
    · exact ⟨Nat.zero_le _, fun D H2 nD s2 hD _ => ⟨D, rfl, nD, s2, hD⟩⟩
    rintro σ' H2 ⟨D, rfl, nD, s2, hD⟩
    obtain ⟨rvs, hLr, aR⟩ := (x.ke k1 fun z => z).rw
    refine Evl.q_cut (M := fun σ' H' => ∃ (y3 : Option V) (tvs : List V), σ' = [some b, some (.ref L), some (.ref D), y3] ∧ Ke Nof H1 H' ∧ H' D = some (.lst tvs) ∧ All2 (fun v t => At H' t v) tvs (trs rows)) ?_ ?_
    · refine ⟨_, rfl, L, rfl, ⟨_, .of (s2 _ _ hLr)⟩, for_list (K := K) (a := L) (xs := rvs) (Pv := fun i σ H' => ∃ (y3 : Option V) (tvs : List V), σ = [some b, some (.ref L), some (.ref D), y3] ∧ Ke Nof H1 H' ∧ H' D = some (.lst tvs) ∧ All2 (fun v t => At H' t v) tvs (trs (rows.take i))) ?_ (fun i σ H' _ p => ?_) ?_ ?_⟩
      · exact ⟨none, [], rfl, .same s2, hD, .nil⟩
      · obtain ⟨_, _, _, k3, _⟩ := p
        exact .of (k3.lst hLr fun z => z)
      · rintro i v σ H3 hv ⟨y3, tvs, rfl, k3, hD3, aT⟩
        obtain ⟨r, hr', rv⟩ := aR.at hv
        have hl := trs_len (rows.take i)
        have lr := (List.getElem?_eq_some_iff.mp hr').1
        rw [List.length_take] at hl
        have la := aT.1
        refine ⟨_, rfl, .inl ⟨rfl, _, .of hD3⟩, _, rfl, _, rfl, v, D, r, tvs, _, rfl, rv.ke k3, hD3, aT, fun a b' k' e => ?_, fun v' H4 s4 at' => ?_⟩
        · subst e
          have := par _ _ _ _ hr'
          omega
        · have hD4 := s4 _ _ hD3
          refine ⟨D, _, _, rfl, rfl, hD4, small1000 (by omega), ?_⟩
          refine ⟨_, _, rfl, (k3.trans (.same s4)).upd nD, upd_same, ?_⟩
          rw [take_snoc hr', trs_snoc]
          exact All2.snoc (aT.imp fun _ _ h => (h.ke (Ke.same (F := Nof) s4)).wr hD4) (at'.wr hD4)
      · rintro σ H3 ⟨y3, tvs, rfl, k3, hD3, aT⟩
        rw [aR.1, List.take_length] at aT
        exact ⟨y3, tvs, rfl, k3, hD3, aT⟩
    rintro σ' H3 ⟨y3, tvs, rfl, k3, hD3, aT⟩
    obtain ⟨v, hv, av⟩ := aT.atR et
    refine ⟨_, rfl, _, rfl, D, _, _, v, rfl, rfl, .of hD3, at_last ?_, q2 b1 b2 v H3 (k1.trans k3) av⟩
    rw [aT.1, lt]
    exact hv
theorem cx_down {k : Nat} {f : Addr} {fd : FuncData} {ps : List Str} {sp : Sp} (F : Gx2.FnX P w K mg base (L2.CX P w) k f fd ps sp) : Gx2.FnX P w K mg base CX0 k f fd ps (fun vs H Q _ => sp vs H Q fun _ _ _ => False) :=
  ⟨fun us H Q E h => F.len us H Q _ h, fun A outer s H args us vs Q E gd room env bind rel ask => codeAny_mono (F.run A outer s H args us vs Q (fun _ _ _ => False) gd room env bind rel ask) fun r s' z => by
    match r, z with
    | .ok (.ret u), z => exact z
    | .error e, z =>
      obtain ⟨_, _, _, _, _, _, _, _, _, _, _, _, hW⟩ := z
      exact hW.elim⟩
end
end Bkp
namespace Tl
open PySem PySem.Spec PyProof.Rows L2 GxR Nw Dr Kp Se Cl Ct Lr Lp Tr
structure Zv (mg : Str → Option Value) : Prop where
  z_len : mg "len" = none
  z_range : mg "range" = none
  z_tuple : mg "tuple" = none
  z_sorted : mg "sorted" = none
  z_zip : mg "zip" = none
/-- a tree and its claim -/
def TC (H : Hp) (v : V) (tc : T × List Int) : Prop := ∃ p x y, v = .ref p ∧ H p = some (.tup [x, y]) ∧ At H tc.1 x ∧ TupI H y tc.2
theorem TC.ke {F : Addr → Prop} {H H' : Hp} {v : V} {tc : T × List Int} (h : TC H v tc) (k : Ke F H H') : TC H' v tc := by
  obtain ⟨p, x, y, e, h1, h2, h3⟩ := h
  exact ⟨p, x, y, e, k.tups _ _ h1, h2.ke k, h3.ke k⟩
theorem TC.wr {H : Hp} {D : Addr} {ys : List V} {o : HO} {v : V} {tc : T × List Int} (h : TC H v tc) (hD : H D = some (.lst ys)) : TC (upd H D o) v tc := by
  obtain ⟨p, x, y, e, h1, h2, h3⟩ := h
  refine ⟨p, x, y, e, ?_, h2.wr hD, TupI.wr h3 hD⟩
  rw [upd_ne (fun z => by rw [z, hD] at h1; cases h1)]
  exact h1
/-- a list of ours is written -/
theorem keD {H H1 : Hp} {D : Addr} {xs : List V} {o : HO} (k : Ke (· = D) H H1) (h1 : H1 D = some (.lst xs)) : Ke (· = D) H (upd H1 D o) := by
  refine ⟨fun b x e t m => ?_, fun Q hQ => ?_, fun b ys e => ?_⟩
  · rw [upd_ne m]
    exact k.keep b x e t m
  · obtain ⟨qs, e2, t2⟩ := k.tabs Q hQ
    exact ⟨qs, by rw [upd_ne (fun z => by rw [z, h1] at e2; cases e2)]; exact e2, t2⟩
  · have e2 := k.tups b ys e
    rw [upd_ne (fun z => by rw [z, h1] at e2; cases e2)]
    exact e2
theorem keH {H H1 H2 : Hp} {D : Addr} (a : Ke Nof H H1) (b : Ke (· = D) H1 H2) (n : H D = none) : Ke Nof H H2 :=
  ⟨fun x o e t m => b.keep x o (a.keep x o e t m) t (fun z => by rw [z, n] at e; cases e), fun Q h => b.tabs Q (a.tabs Q h), fun x xs e => b.tups x xs (a.tups x xs e)⟩
/-- a tree as data -/
def dat : T → PyData
  | .leaf n => .tuple [.str "book", .int (n : Nat)]
  | .cut t u k => .tuple [.str "cut", dat t, dat u, .int k]
theorem dp_tree {K : PySem.W.Frag} {H : Hp} : ∀ {t : T} {v : V}, At H t v → Dp K H v (dat t)
  | .leaf n, v, h => by
    obtain ⟨a, rfl, h⟩ := h
    exact .tup (.of h) (.cons (.str _) (.cons (.int _) .nil))
  | .cut t u k, v, h => by
    obtain ⟨a, x, y, rfl, h, h1, h2⟩ := h
    exact .tup (.of h) (.cons (.str _) (.cons (dp_tree h1) (.cons (dp_tree h2) (.cons (.int _) .nil))))
theorem ltree : ∀ t : T, PyData.canLay0 (dat t) = true ∧ PyData.depth (dat t) ≤ t.depth
  | .leaf n => by
    have b1 : PyData.strOk "book" = true := by decide +kernel
    exact ⟨by simp [dat, PyData.canLay0, PyData.canLayAll0, b1], by simp [dat, PyData.depth, PyData.depthAll, T.depth]⟩
  | .cut t u k => by
    have b1 : PyData.strOk "cut" = true := by decide +kernel
    obtain ⟨h1, h2⟩ := ltree t
    obtain ⟨h3, h4⟩ := ltree u
    refine ⟨by simp [dat, PyData.canLay0, PyData.canLayAll0, b1, h1, h3], ?_⟩
    simp [dat, PyData.depth, PyData.depthAll, T.depth]
    omega
def tdat (tc : T × List Int) : PyData := .tuple [dat tc.1, .tuple (tc.2.map PyData.int)]
theorem dp_tcs {K : PySem.W.Frag} {H : Hp} : ∀ {vs : List V} {ms : List (T × List Int)}, All2 (TC H) vs ms → DpAll K H vs (ms.map tdat)
  | [], [], _ => .nil
  | [], r :: t, h => by cases h.1
  | v :: t, [], h => by cases h.1
  | v :: t, m :: u, h => by
    obtain ⟨p, x, y, rfl, hp, h1, q, rfl, hq⟩ := h.2 0 v m rfl rfl
    exact .cons (.tup (.of hp) (.cons (dp_tree h1) (.cons (.tup (.of hq) (dp_ints m.2)) .nil))) (dp_tcs ⟨by have := h.1; simp only [List.length_cons] at this; omega, fun i x y h1 h2 => h.2 (i + 1) x y h1 h2⟩)
theorem lay_tcs : ∀ ms : List (T × List Int), (∀ m ∈ ms, m.1.depth ≤ 45) → PyData.canLayAll0 (ms.map tdat) = true ∧ PyData.depthAll (ms.map tdat) ≤ 47
  | [], _ => ⟨rfl, by decide⟩
  | m :: r, h => by
    obtain ⟨h1, h2⟩ := lay_tcs r fun x hx => h x (List.mem_cons_of_mem _ hx)
    obtain ⟨h3, h4⟩ := ltree m.1
    have h5 := h m List.mem_cons_self
    have h6 : PyData.canLayAll0 (m.2.map PyData.int) = true := flat_lay _ (flat_ints m.2)
    have h7 := flat_depth _ (flat_ints m.2)
    refine ⟨?_, ?_⟩
    · show (PyData.canLay0 (tdat m) && PyData.canLayAll0 (r.map tdat)) = true
      rw [h1]
      simp [tdat, PyData.canLay0, PyData.canLayAll0, h3, h6]
    · show Nat.max (PyData.depth (tdat m)) (PyData.depthAll (r.map tdat)) ≤ 47
      refine Nat.max_le.mpr ⟨?_, h2⟩
      simp [tdat, PyData.depth, PyData.depthAll]
      omega
theorem shaped_tcs {ms : List (T × List Int)} (h : ∀ m ∈ ms, m.1.depth ≤ 45) : SeqAt.shaped (.list (ms.map tdat)) = true := by
  obtain ⟨h1, h2⟩ := lay_tcs ms h
  show (PyData.canLayAll0 (ms.map tdat) && decide (PyData.depthAll (ms.map tdat) + 1 ≤ 64)) = true
  rw [h1, decide_eq_true (by omega)]
  rfl
theorem not_f {H : Hp} {p f c : Addr} {B : Nat} (h : Frs H p) (F : Feed H f c B) : p ≠ f ∧ p ≠ c := by
  obtain ⟨_, _, _, h1, h2, _⟩ := F
  exact ⟨Ne.symm (h f _ h1 fun ps z => by cases z), Ne.symm (h c _ h2 fun ps z => by cases z)⟩
section
variable {P : Program} {w : World} {K : PySem.W.Frag} {mg : Str → Option Value} {base : Heap}
abbrev sStt : Stmt := topS 37
abbrev nStt : List Str := ["feed", "book", "deep", "number", "one", "other", "made", "first", "second", "k", "claim"]
theorem scStt : FnScope nStt ["feed", "book", "deep"] (defScope sStt) := ⟨rfl, rfl, rfl, by decide +kernel, rfl, by decide +kernel, by decide +kernel⟩
/-- a drawn tree -/
def spStt (d : Nat) : Sp := fun vs H Q _ => ∃ (f c : Addr) (b : V) (n B : Nat) (css : List (List Int)), vs = [.ref f, b, .int (n : Nat)] ∧ n < d ∧ d ≤ 10 ∧ Bk H b css ∧ (∀ c ∈ css, IsCl c) ∧ 1 ≤ css.length ∧ css.length ≤ 100 ∧ Feed H f c B ∧ B + 4 ^ (n + 1) ≤ 2 ^ 50 ∧
  ∀ (v : V) (t : T) (ct : List Int) (H' : Hp), Feed H' f c (B + 4 ^ (n + 1)) → Ke (· = f) H H' → TC H' v (t, ct) → Cl css t ct → t.depth ≤ n + 1 → t.pieces + 1 ≤ 2 ^ (n + 1) → Q v H'
theorem pow_le {a b : Nat} (h : a ≤ b) : 4 ^ a ≤ 4 ^ b ∧ 2 ^ a ≤ 2 ^ b := ⟨Nat.pow_le_pow_right (by decide) h, Nat.pow_le_pow_right (by decide) h⟩
theorem ok_stt {f fD fC : Addr} {fd fdD fdC : FuncData} (F : Fun K "_law_stree" "_law_stree" sStt f fd) (T : Zv mg) (bS : Binds K fd ["feed", "book", "deep"] []) (gS : mg "_law_stree" = some (.ref f)) (FD : Fun K "_law_sdraw" "_law_sdraw" sDrw fD fdD) (bD : Binds K fdD ["feed", "many"] []) (gD : mg "_law_sdraw" = some (.ref fD)) (GD : FnOk P w K mg base CX0 2 fD fdD ["feed", "many"] spDrw)
    (FC : Fun K "_law_scut" "_law_scut" sSct fC fdC) (bC : Binds K fdC ["one", "other", "k"] []) (gC : mg "_law_scut" = some (.ref fC)) (GC : FnOk P w K mg base CX0 1 fC fdC ["one", "other", "k"] spSct) :
    ∀ d, FnOk P w K mg base CX0 (d + 3) f fd ["feed", "book", "deep"] (spStt d) := by
  intro d
  induction d with
  | zero =>
    refine F.ok scStt (fun vs H Q E h => ?_) (fun cdv A outer s H vs Q E hr h => ?_)
    · obtain ⟨f, c, b, n, B, css, rfl, _⟩ := h
      rfl
    · obtain ⟨f, c, b, n, B, css, rfl, h0, _⟩ := h
      omega
  | succ d ih =>
    refine F.ok scStt (fun vs H Q E h => ?_) (fun cdv A outer s H vs Q E hr h => ?_)
    · obtain ⟨f, c, b, n, B, css, rfl, _⟩ := h
      rfl
    · obtain ⟨f, c, b, n, B, css, rfl, nd, d10, hb, ib, l1, l2, hF, hB, q⟩ := h
      have hr1 : Room 1 _ := hr.mono (by omega)
      have hr2 : Room 2 _ := hr.mono (by omega)
      have hrd : Room (d + 3) _ := hr
      refine ⟨_, (Evl.pss_cut (ps_if (PW.pt (pw_or (pt_cmpR op_eq (pv 2) pe_int (nomark _)) (pw_or1 (pt_cmpR op_eq (pe_call GD hr2 (by rfl) gD FD.kp bD .nil pass0 (pa_cons (pv 0) (pa_cons pe_int pa_nil))) pe_int (nomark _))))) (Evl.pss_cut (ps_set (i := 3) scStt.nd rfl (.inl rfl) (pe_call GD hr2 (by rfl) gD FD.kp bD .nil pass0 (pa_cons (pv 0) (pa_cons (pe_callB call_len_seq (by rfl) T.z_len (by decide +kernel) (pa_cons (pv 1) pa_nil)) pa_nil))))
      (pss_one (ps_ret (pe_tupN (pa_cons (pe_tupN (pa_cons pe_str (pa_cons (pv 3) pa_nil))) (pa_cons (pe_ix ix_tup (pv 1) (pv 3) (fun _ _ => rfl)) pa_nil)))))) pss_nil)
      (Evl.pss_cut (ps_set (i := 4) scStt.nd rfl (.inl rfl) (pe_call ih hrd (by rfl) gS F.kp bS .nil pass0 (pa_cons (pv 0) (pa_cons (pv 1) (pa_cons (pe_op op_sub (pv 2) pe_int) pa_nil)))))
      (Evl.pss_cut (ps_set (i := 5) scStt.nd rfl (.inl rfl) (pe_call ih hrd (by rfl) gS F.kp bS .nil pass0 (pa_cons (pv 0) (pa_cons (pv 1) (pa_cons (pe_op op_sub (pe_op op_sub (pv 2) pe_int) (pe_call GD hr2 (by rfl) gD FD.kp bD .nil pass0 (pa_cons (pv 0) (pa_cons (pv 2) pa_nil)))) pa_nil)))))
      (Evl.pss_cut (ps_set (i := 6) scStt.nd rfl (.inl rfl) (pe_lstN pa_nil))
      (Evl.pss_cut (ps_for PassesOwn.never rfl (pi_tup (pe_tupN (pa_cons (pe_tupN (pa_cons (pv 4) (pa_cons (pv 5) pa_nil))) (pa_cons (pe_tupN (pa_cons (pv 5) (pa_cons (pv 4) pa_nil))) pa_nil)))) (pg_tup rfl (pgs_cons (pg_name (i := 7) scStt.nd rfl (.inl rfl)) (pgs_cons (pg_name (i := 8) scStt.nd rfl (.inl rfl)) pgs_nil))) (pss_one (ps_for PassesOwn.never rfl (pi_range2 (by rfl) T.z_range (pa_cons pe_int (pa_cons pe_int pa_nil))) (pg_name (i := 9) scStt.nd rfl (.inl rfl)) (pss_cons (ps_set (i := 10) scStt.nd rfl (.inl rfl) (pe_call GC hr1 (by rfl) gC FC.kp bC .nil pass0 (pa_cons (pe_ix ix_tup (pv 7) pe_int (fun _ _ => rfl)) (pa_cons (pe_ix ix_tup (pv 8) pe_int (fun _ _ => rfl)) (pa_cons (pv 9) pa_nil)))))
      (pss_one (ps_if (pt_cmpR op_notN (pv 10) pe_non (nomark _)) (pss_one (ps_expr (pe_bm PySem.F.plainAttrs_list PySem.F.slot_list_append PySem.F.type_list_append mt_append (pv 6) (pa_cons (pe_tupN (pa_cons (pe_tupN (pa_cons pe_str (pa_cons (pe_ix ix_tup (pv 7) pe_int (fun _ _ => rfl)) (pa_cons (pe_ix ix_tup (pv 8) pe_int (fun _ _ => rfl)) (pa_cons (pv 9) pa_nil))))) (pa_cons (pv 10) pa_nil))) pa_nil)))) pss_nil))))))
      (pss_cons (ps_if (pt_cmpR (op_eqD hr.units) (pv 6) (pe_lstN pa_nil) (nomark _)) (pss_one (ps_ret (pe_ix ix_list (pe_lstN (pa_cons (pv 4) (pa_cons (pv 5) pa_nil))) (pe_call GD hr2 (by rfl) gD FD.kp bD .nil pass0 (pa_cons (pv 0) (pa_cons pe_int pa_nil))) (fun _ _ => rfl)))) pss_nil)
      (pss_one (ps_ret (pe_ix ix_list (pv 6) (pe_call GD hr2 (by rfl) gD FD.kp bD .nil pass0 (pa_cons (pv 0) (pa_cons (pe_callB call_len_seq (by rfl) T.z_len (by decide +kernel) (pa_cons (pv 6) pa_nil)) pa_nil))) (fun _ _ => rfl)))))))))), ?_⟩
      obtain ⟨ba, bvs, rfl, hbt, aB⟩ := bk_all hb
      have lb := aB.1
      have n10 : n ≤ 9 := by omega
      have p4 := (pow_le (show n + 1 ≤ 10 by omega)).1
      have big : 4 ^ (n + 1) ≤ 1048576 := p4
      refine Evl.q_cut (M := fun σ' H' => σ' = [some (.ref f), some (.ref ba), some (.int (n : Nat)), none, none, none, none, none, none, none, none] ∧ 1 ≤ n ∧ Feed H' f c (B + 1) ∧ Ke (· = f) H H') ?_ ?_
      · have fin : ∀ (H1 : Hp) (B1 : Nat), Feed H1 f c B1 → B1 ≤ B + 1 → B1 + 1 ≤ B + 4 ^ (n + 1) → Ke (· = f) H H1 → Evl.tCut (tAsg (tCall spDrw [] E0 (tCons (tVar 0) (tCons (tCB (fun xs H Q => ∃ p ys, xs = [V.ref p] ∧ (SqL K H p ys ∨ SqT K H p ys) ∧ Q (V.int (ys.length : Nat)) H) (tCons (tVar 1) tNil)) tNil))) (gName 3)) (tRet (nTup (tCons (nTup (tCons (tC (V.str "book")) (tCons (tVar 3) tNil))) (tCons (tOp (rIxT K) (tVar 1) (tVar 3)) tNil)))) { nx := fun σ' H' => σ' = [some (.ref f), some (.ref ba), some (.int (n : Nat)), none, none, none, none, none, none, none, none] ∧ 1 ≤ n ∧ Feed H' f c (B + 1) ∧ Ke (· = f) H H', rt := Q } [some (.ref f), some (.ref ba), some (.int (n : Nat)), none, none, none, none, none, none, none, none] H1 := fun H1 B1 F1 b1 b2 k1 => by
          refine Evl.q_cut (M := fun σ' H' => ∃ m : Nat, σ' = [some (.ref f), some (.ref ba), some (.int (n : Nat)), some (.int (m : Nat)), none, none, none, none, none, none, none] ∧ m < css.length ∧ Feed H' f c (B1 + 1) ∧ Ke (· = f) H H') ?_ ?_
          · refine ⟨_, rfl, _, rfl, ba, _, rfl, .inr (.of (k1.tups _ _ hbt)), f, c, _, _, rfl, by omega, by omega, F1, by omega, fun d H2 d0 d1 F2 b2 => ?_⟩
            refine ⟨d.toNat, ?_, by omega, F2, k1.trans (.but F1 b2)⟩
            rw [Int.toNat_of_nonneg d0]
            rfl
          rintro σ' H2 ⟨m, rfl, lm, F2, k2⟩
          refine ⟨_, rfl, by show 2 ≤ sizeLine; decide, fun p1 H3 np1 s3 hp1 _ => ?_⟩
          have lmb : m < bvs.length := by omega
          obtain ⟨cm, hcm, p, e, hp⟩ := aB.at (List.getElem?_eq_getElem lmb)
          have k3 : Ke (· = f) H H3 := k2.trans (.same s3)
          refine ⟨_, rfl, _, rfl, ba, bvs, _, bvs[m], rfl, rfl, .of (k3.tups _ _ hbt), at_of (j := m) rfl (List.getElem?_eq_getElem lmb), ?_⟩
          refine ⟨by show 2 ≤ sizeLine; decide, fun p2 H4 np2 s4 hp2 _ => ?_⟩
          have k4 : Ke (· = f) H H4 := k3.trans (.same s4)
          refine q (.ref p2) (.leaf m) cm H4 ((F2.same (s3.trans s4)).mono (by omega)) k4 ⟨p2, _, _, rfl, hp2, ⟨p1, rfl, s4 _ _ hp1⟩, ?_⟩ hcm (by show 1 ≤ n + 1; omega) ?_
          · rw [e]
            exact ⟨p, rfl, k4.tups _ _ hp⟩
          · have := (pow_le (show 1 ≤ n + 1 by omega)).2
            show 1 + 1 ≤ _
            omega
        have f4 := (pow_le (show 1 ≤ n + 1 by omega)).1
        refine ⟨_, rfl, rfl, _, rfl, ite2 (fun y => ?_) (fun y => ?_)⟩
        · exact fin H B hF (by omega) (by omega) (.refl _ _)
        · have n1 : 1 ≤ n := by
            by_cases z : n = 0
            · subst z
              exact absurd (decide_eq_true rfl) y
            · omega
          have f5 := (pow_le (show 2 ≤ n + 1 by omega)).1
          refine ⟨_, rfl, f, c, 6, _, rfl, by decide, by decide, hF, by omega, fun d H1 d0 d1 F1 b1 => ⟨rfl, _, rfl, ite2 (fun y => ?_) (fun y => ?_)⟩⟩
          · exact fin H1 (B + 1) F1 (by omega) (by omega) (.but hF b1)
          · exact ⟨rfl, n1, F1, .but hF b1⟩
      rintro σ' H1 ⟨rfl, n1, F1, k1⟩
      obtain ⟨n', rfl⟩ : ∃ n', n = n' + 1 := ⟨n - 1, by omega⟩
      have e4 : 4 ^ (n' + 1 + 1) = 4 * 4 ^ (n' + 1) := by rw [Nat.pow_succ]; omega
      have e2 : 2 ^ (n' + 1 + 1) = 2 * 2 ^ (n' + 1) := by rw [Nat.pow_succ]; omega
      have f4 := (pow_le (show 1 ≤ n' + 1 by omega)).1
      -- one
      refine Evl.q_cut (M := fun σ' H' => ∃ (v1 : V) (t1 : Tr.T) (c1 : List Int), σ' = [some (.ref f), some (.ref ba), some (.int ((n' + 1 : Nat) : Int)), none, some v1, none, none, none, none, none, none] ∧ Feed H' f c (B + 1 + 4 ^ (n' + 1)) ∧ Ke (· = f) H H' ∧ TC H' v1 (t1, c1) ∧ Tr.Cl css t1 c1 ∧ t1.depth ≤ n' + 1 ∧ t1.pieces + 1 ≤ 2 ^ (n' + 1)) ?_ ?_
      · refine ⟨_, rfl, _, rfl, _, rfl, _, _, rfl, rfl, f, c, .ref ba, n', _, css, ?_, by omega, by omega, hb.ke k1, ib, l1, l2, F1, by omega, fun v t ct H2 F2 k2 tc cl dp pc => ?_⟩
        · show [V.ref f, V.ref ba, V.int (((n' + 1 : Nat) : Int) - 1)] = _
          rw [show ((n' + 1 : Nat) : Int) - 1 = (n' : Int) by omega]
        · exact ⟨v, t, ct, rfl, F2, k1.trans k2, tc, cl, dp, pc⟩
      rintro σ' H2 ⟨v1, t1, c1, rfl, F2, k2, tc1, cl1, dp1, pc1⟩
      -- other
      refine Evl.q_cut (M := fun σ' H' => ∃ (v2 : V) (t2 : Tr.T) (c2 : List Int), σ' = [some (.ref f), some (.ref ba), some (.int ((n' + 1 : Nat) : Int)), none, some v1, some v2, none, none, none, none, none] ∧ Feed H' f c (B + 2 + 4 ^ (n' + 1) + 4 ^ (n' + 1)) ∧ Ke (· = f) H H' ∧ TC H' v1 (t1, c1) ∧ TC H' v2 (t2, c2) ∧ Tr.Cl css t2 c2 ∧ t2.depth ≤ n' + 1 ∧ t2.pieces + 1 ≤ 2 ^ (n' + 1)) ?_ ?_
      · refine ⟨_, rfl, _, rfl, _, rfl, _, _, rfl, rfl, _, rfl, _, rfl, f, c, _, _, rfl, by omega, by omega, F2, by omega, fun d H3 d0 d1 F3 b3 => ?_⟩
        have k3 : Ke (· = f) H2 H3 := .but F2 b3
        have k03 := k2.trans k3
        have d1 : d < ((n' + 1 : Nat) : Int) := d1
        have g := pow_le (show n' - d.toNat + 1 ≤ n' + 1 by omega)
        refine ⟨_, _, rfl, rfl, f, c, .ref ba, n' - d.toNat, _, css, ?_, by omega, by omega, hb.ke k03, ib, l1, l2, F3, by omega, fun v t ct H4 F4 k4 tc cl dp pc => ?_⟩
        · show [V.ref f, V.ref ba, V.int (((n' + 1 : Nat) : Int) - 1 - d)] = _
          rw [show ((n' + 1 : Nat) : Int) - 1 - d = ((n' - d.toNat : Nat) : Int) by omega]
        · exact ⟨v, t, ct, rfl, F4.mono (by omega), k03.trans k4, (tc1.ke k3).ke k4, tc, cl, by omega, by omega⟩
      clear tc1
      rintro σ' H3 ⟨v2, t2, c2, rfl, F3, k3, tc1, tc2, cl2, dp2, pc2⟩
      have i1 := cl1.isCl ib
      have i2 := cl2.isCl ib
      have z1 := i1.len
      have z2 := i2.len
      -- made
      refine Evl.q_cut (M := fun σ' H' => ∃ D : Addr, σ' = [some (.ref f), some (.ref ba), some (.int ((n' + 1 : Nat) : Int)), none, some v1, some v2, some (.ref D), none, none, none, none] ∧ H3 D = none ∧ Same H3 H' ∧ H' D = some (.lst [])) ?_ ?_
      · exact ⟨Nat.zero_le _, fun D H4 nD s4 hD _ => ⟨D, rfl, nD, s4, hD⟩⟩
      rintro σ' H4 ⟨D, rfl, nD, s4, hD⟩
      have nDf : D ≠ f := F3.nf nD
      let okM : Tr.T × List Int → Prop := fun m => Tr.Cl css m.1 m.2 ∧ m.1.depth ≤ n' + 2 ∧ m.1.pieces + 1 ≤ 2 ^ (n' + 1 + 1)
      refine Evl.q_cut (M := fun σ' H' => ∃ (y7 y8 y9 y10 : Option V) (vs : List V) (ms : List (Tr.T × List Int)), σ' = [some (.ref f), some (.ref ba), some (.int ((n' + 1 : Nat) : Int)), none, some v1, some v2, some (.ref D), y7, y8, y9, y10] ∧ Ke Nof H3 H' ∧ H' D = some (.lst vs) ∧ All2 (TC H') vs ms ∧ ms.length ≤ 16 ∧ ∀ m ∈ ms, okM m) ?_ ?_
      · refine ⟨_, rfl, _, rfl, by show 2 ≤ sizeLine; decide, fun p1 H5 np1 s5 hp1 _ => ?_⟩
        refine ⟨_, rfl, _, rfl, by show 2 ≤ sizeLine; decide, fun p2 H6 np2 s6 hp2 _ => ?_⟩
        refine ⟨by show 2 ≤ sizeLine; decide, fun p3 H7 np3 s7 hp3 _ => ?_⟩
        have k37 : Ke Nof H3 H7 := .same (s4.trans (s5.trans (s6.trans s7)))
        have hD7 : H7 D = some (.lst []) := s7 _ _ (s6 _ _ (s5 _ _ hD))
        have pair : ∀ (m : Nat) (x : V), [V.ref p1, V.ref p2][m]? = some x → ∃ (p : Addr) (va vb : V) (ta tb : Tr.T) (ca cb : List Int), x = .ref p ∧ H7 p = some (.tup [va, vb]) ∧ TC H7 va (ta, ca) ∧ TC H7 vb (tb, cb) ∧ Tr.Cl css ta ca ∧ Tr.Cl css tb cb ∧ ta.depth ≤ n' + 1 ∧ tb.depth ≤ n' + 1 ∧ ta.pieces + 1 ≤ 2 ^ (n' + 1) ∧ tb.pieces + 1 ≤ 2 ^ (n' + 1) ∧ ca.length ≤ 20 ∧ cb.length ≤ 20 := fun m x hx => by
          have hm := List.mem_of_getElem? hx
          simp only [List.mem_cons, List.not_mem_nil, or_false] at hm
          rcases hm with rfl | rfl
          · exact ⟨p1, v1, v2, t1, t2, c1, c2, rfl, s7 _ _ (s6 _ _ hp1), tc1.ke k37, tc2.ke k37, cl1, cl2, dp1, dp2, pc1, pc2, by omega, by omega⟩
          · exact ⟨p2, v2, v1, t2, t1, c2, c1, rfl, s7 _ _ hp2, tc2.ke k37, tc1.ke k37, cl2, cl1, dp2, dp1, pc2, pc1, by omega, by omega⟩
        refine ⟨p3, rfl, ⟨_, .of hp3⟩, for_tup (K := K) (a := p3) (xs := [V.ref p1, V.ref p2]) (Pv := fun m σ H' => ∃ (y7 y8 y9 y10 : Option V) (vs : List V) (ms : List (Tr.T × List Int)), σ = [some (.ref f), some (.ref ba), some (.int ((n' + 1 : Nat) : Int)), none, some v1, some v2, some (.ref D), y7, y8, y9, y10] ∧ Ke (· = D) H7 H' ∧ H' D = some (.lst vs) ∧ All2 (TC H') vs ms ∧ ms.length ≤ 8 * m ∧ ∀ m ∈ ms, okM m) ?_ (fun m σ H' _ z => ?_) ?_ ?_⟩
        · exact ⟨none, none, none, none, [], [], rfl, .refl _ _, hD7, .nil, Nat.le_refl _, fun m h => nomatch h⟩
        · obtain ⟨_, _, _, _, _, _, _, kt, _⟩ := z
          exact .of (kt.tups _ _ hp3)
        · rintro m x σ J1 hx ⟨y7, y8, y9, y10, vs, ms, rfl, kt, hDj, am, lm, okm⟩
          have m2 : m < 2 := (List.getElem?_eq_some_iff.mp hx).1
          obtain ⟨p, va, vb, ta, tb, ca, cb, rfl, hp, tca, tcb, cla, clb, da, db, pa', pb', la, lb'⟩ := pair m x hx
          refine ⟨p, _, rfl, .of (kt.tups _ _ hp), rfl, _, _, rfl, _, _, rfl, rfl, ?_⟩
          refine ⟨1, 9, rfl, ⟨by decide, by decide, by decide, by decide⟩, for_range (Pv := fun k σ H' => ∃ (y9 y10 : Option V) (vs : List V) (ms : List (Tr.T × List Int)), σ = [some (.ref f), some (.ref ba), some (.int ((n' + 1 : Nat) : Int)), none, some v1, some v2, some (.ref D), some va, some vb, y9, y10] ∧ Ke (· = D) H7 H' ∧ H' D = some (.lst vs) ∧ All2 (TC H') vs ms ∧ ms.length ≤ 8 * m + k ∧ ∀ m ∈ ms, okM m) ?_ ?_ ?_⟩
          · exact ⟨y9, y10, vs, ms, rfl, kt, hDj, am, by omega, okm⟩
          · clear hDj am lm okm kt
            clear y9 y10 vs ms
            rintro k σ J2 hk ⟨y9, y10, vs, ms, rfl, kt, hDj, am, lm, okm⟩
            have hk : k < 8 := hk
            obtain ⟨pa1, xa, ya, rfl, hpa, hxa, hya⟩ := tca.ke kt
            obtain ⟨pb1, xb, yb, rfl, hpb, hxb, hyb⟩ := tcb.ke kt
            have hxa : At J2 ta xa := hxa
            have hxb : At J2 tb xb := hxb
            have hya : TupI J2 ya ca := hya
            have hyb : TupI J2 yb cb := hyb
            have lv := am.1
            refine ⟨_, rfl, pa1, _, 1, ya, rfl, rfl, .of hpa, rfl, _, rfl, pb1, _, 1, yb, rfl, rfl, .of hpb, rfl, _, rfl, ya, yb, _, ca, cb, rfl, hya, hyb, la, lb', fun J3 s3 no => ?_, fun ns pn J3 s3 a1 a2 a3 a4 up me hpn => ?_⟩
            · refine ⟨_, rfl, rfl, false, rfl, ?_⟩
              have k3 : Ke (· = D) J2 J3 := .same s3
              exact ⟨_, _, vs, ms, rfl, kt.trans k3, s3 _ _ hDj, am.imp fun _ _ h => h.ke k3, by omega, okm⟩
            · refine ⟨_, rfl, rfl, true, rfl, ?_⟩
              have hDj3 := s3 _ _ hDj
              refine ⟨_, rfl, .inl ⟨rfl, _, .of hDj3⟩, _, rfl, pa1, _, 0, xa, rfl, rfl, .of (s3 _ _ hpa), rfl, _, rfl, pb1, _, 0, xb, rfl, rfl, .of (s3 _ _ hpb), rfl, _, rfl, by show 4 ≤ sizeLine; decide, fun q1 J4 nq1 s4' hq1 _ => ?_⟩
              refine ⟨_, rfl, by show 2 ≤ sizeLine; decide, fun q2 J5 nq2 s5' hq2 _ => ?_⟩
              have s25 := s3.trans (s4'.trans s5')
              have k25 : Ke (· = D) J2 J5 := .same s25
              have hDj5 := s25 _ _ hDj
              refine ⟨D, _, _, rfl, rfl, hDj5, small1000 (by omega), ?_⟩
              have tcn : TC J5 (.ref q2) (.cut ta tb (1 + (k : Int)), ns) := ⟨q2, _, _, rfl, hq2, ⟨q1, xa, xb, rfl, s5' _ _ hq1, hxa.ke k25, hxb.ke k25⟩, ⟨pn, rfl, (s4'.trans s5') _ _ hpn⟩⟩
              refine ⟨_, _, _, ms ++ [(.cut ta tb (1 + (k : Int)), ns)], rfl, keD (kt.trans k25) hDj5, upd_same, (am.imp fun _ _ h => (h.ke k25).wr hDj5).snoc (tcn.wr hDj5), by rw [List.length_append]; show ms.length + 1 ≤ _; omega, fun m' hm' => ?_⟩
              rcases List.mem_append.mp hm' with z | z
              · exact okm m' z
              · rw [List.mem_singleton.mp z]
                exact ⟨⟨ca, cb, cla, clb, a1, a2, a3, a4, up, me⟩, by show 1 + max ta.depth tb.depth ≤ n' + 2; omega, by show 1 + ta.pieces + tb.pieces + 1 ≤ _; omega⟩
          · rintro σ J2 ⟨z9, z10, vs', ms', rfl, kt', hD', am', lm', ok'⟩
            exact ⟨_, _, _, _, vs', ms', rfl, kt', hD', am', by have : ms'.length ≤ 8 * m + 8 := lm'; omega, ok'⟩
        · rintro σ J1 ⟨y7, y8, y9, y10, vs, ms, rfl, kt, hDj, am, lm, okm⟩
          exact ⟨y7, y8, y9, y10, vs, ms, rfl, keH k37 kt nD, hDj, am, by have : ms.length ≤ 8 * 2 := lm; omega, okm⟩
      rintro σ' H5 ⟨y7, y8, y9, y10, vs, ms, rfl, k5, hD5, am, lm, okm⟩
      have F5 := k5.feed F3
      have k05 := k3.trans k5.all
      refine ⟨_, rfl, Nat.zero_le _, fun p H6 np s6 hp _ => ?_⟩
      have k6 : Ke Nof H3 H6 := k5.trans (.same s6)
      have k06 : Ke (· = f) H H6 := k3.trans k6.all
      have F6 := k6.feed F3
      have hD6 := s6 _ _ hD5
      have am6 : All2 (TC H6) vs ms := am.imp fun _ _ h => h.ke (Ke.same (F := Nof) s6)
      have dpm : ∀ m ∈ ms, m.1.depth ≤ 45 := fun m hm => by
        have := (okm m hm).2.1
        omega
      match ms, vs, am6, hD6, okm, lm, dpm with
      | [], [], _, hD6, _, _, _ =>
        refine ⟨_, _, .lst (.of hD6) .nil, .lst (.of hp) .nil, rfl, rfl, true, rfl, ?_⟩
        refine ⟨_, rfl, _, rfl, by show 2 ≤ sizeLine; decide, fun p2 H7 np2 s7 hp2 _ => ?_⟩
        refine ⟨_, rfl, f, c, 2, _, rfl, by decide, by decide, F6.same s7, by omega, fun d H8 d0 d1 F8 b8 => ?_⟩
        have k8 : Ke (· = f) H6 H8 := (Ke.same s7).trans (.but (F6.same s7) b8)
        have hp8 : H8 p2 = some (.lst [v1, v2]) := (b8 p2 (F6.nf np2)).trans hp2
        have k08 := k06.trans k8
        have k38 : Ke (· = f) H3 H8 := k6.all.trans k8
        have two : d = 0 ∨ d = 1 := by omega
        rcases two with rfl | rfl
        · refine ⟨p2, _, 0, v1, rfl, rfl, .of hp8, rfl, ?_⟩
          exact q v1 t1 c1 H8 (F8.mono (by omega)) k08 (tc1.ke k38) cl1 (by omega) (by omega)
        · refine ⟨p2, _, 1, v2, rfl, rfl, .of hp8, rfl, ?_⟩
          exact q v2 t2 c2 H8 (F8.mono (by omega)) k08 (tc2.ke k38) cl2 (by omega) (by omega)
      | [], _ :: _, am6, _, _, _, _ => cases am6.1
      | _ :: _, [], am6, _, _, _, _ => cases am6.1
      | m0 :: mt, w0 :: wt, am6, hD6, okm, lm, dpm =>
        refine ⟨_, _, .lst (.of hD6) (dp_tcs am6), .lst (.of hp) .nil, shaped_tcs dpm, rfl, false, rfl, ?_⟩
        have lw := am6.1
        refine ⟨_, rfl, _, rfl, _, rfl, D, _, rfl, .inl (.of hD6), f, c, _, _, rfl, by rw [lw, List.length_cons]; omega, by rw [lw]; omega, F6, by omega, fun d H8 d0 d1 F8 b8 => ?_⟩
        have k8 : Ke (· = f) H6 H8 := .but F6 b8
        have dl : d.toNat < (w0 :: wt).length := by omega
        obtain ⟨⟨tm, cm⟩, hm', tcm⟩ := am6.at (List.getElem?_eq_getElem dl)
        obtain ⟨o1, o2, o3⟩ := okm _ (List.mem_of_getElem? hm')
        refine ⟨D, _, d, _, rfl, rfl, .of ((b8 D nDf).trans hD6), at_of (j := d.toNat) (by omega) (List.getElem?_eq_getElem dl), ?_⟩
        exact q _ tm cm H8 (F8.mono (by omega)) (k06.trans k8) (tcm.ke k8) o1 o2 o3
abbrev sSpc : Stmt := topS 39
theorem scSpc : FnScope ["tree"] ["tree"] (defScope sSpc) := ⟨rfl, rfl, rfl, by decide +kernel, rfl, by decide +kernel, by decide +kernel⟩
def spSpc (d : Nat) : Sp := fun vs H Q _ => ∃ (v : V) (t : Tr.T), vs = [v] ∧ At H t v ∧ t.depth ≤ d ∧ t.pieces ≤ 1000 ∧ ∀ p vs H', H p = none → Same H H' → H' p = some (.lst vs) → All2 (fun v s => At H' s v) vs t.all → Q (.ref p) H'
theorem ok_spc {f : Addr} {fd : FuncData} (F : Fun K "_law_spieces" "_law_spieces" sSpc f fd) (bS : Binds K fd ["tree"] []) (gS : mg "_law_spieces" = some (.ref f)) : ∀ d, FnOk P w K mg base CX0 (d + 1) f fd ["tree"] (spSpc d) := by
  intro d
  induction d with
  | zero =>
    refine F.ok scSpc (fun vs H Q E h => ?_) (fun cdv A outer s H vs Q E hr h => ?_)
    · obtain ⟨v, t, rfl, _⟩ := h
      rfl
    · obtain ⟨v, t, rfl, _, h0, _⟩ := h
      have := t.pos
      omega
  | succ d ih =>
    refine F.ok scSpc (fun vs H Q E h => ?_) (fun cdv A outer s H vs Q E hr h => ?_)
    · obtain ⟨v, t, rfl, _⟩ := h
      rfl
    · obtain ⟨v, t, rfl, ht, hd, hp, q⟩ := h
      have hrd : Room (d + 1) _ := hr
      refine ⟨_, (pss_cons (ps_if (pt_cmpR op_eq (pe_ix ix_tup (pv 0) pe_int (fun _ _ => rfl)) pe_str (nomark _)) (pss_one (ps_ret (pe_lstN (pa_cons (pv 0) pa_nil)))) pss_nil)
      (pss_one (ps_ret (pe_op op_catN (pe_op op_catN (pe_call ih hrd (by rfl) gS F.kp bS .nil pass0 (pa_cons (pe_ix ix_tup (pv 0) pe_int (fun _ _ => rfl)) pa_nil)) (pe_call ih hrd (by rfl) gS F.kp bS .nil pass0 (pa_cons (pe_ix ix_tup (pv 0) pe_int (fun _ _ => rfl)) pa_nil))) (pe_lstN (pa_cons (pv 0) pa_nil)))))), ?_⟩
      cases t with
      | leaf n =>
        obtain ⟨a, rfl, ha⟩ := id ht
        refine ⟨_, rfl, a, _, 0, .str "book", rfl, rfl, .of ha, rfl, rfl, true, by simp, ?_⟩
        refine ⟨_, rfl, by show 1 ≤ sizeLine; decide, fun p H1 np s1 hp1 _ => ?_⟩
        exact q p _ H1 np s1 hp1 (All2.nil.snoc (At.ke (Ke.same (F := Nof) s1) ht))
      | cut tl tr k0 =>
        obtain ⟨a, x, y, rfl, ha, h1, h2⟩ := id ht
        have dp : (Tr.T.cut tl tr k0).depth = 1 + max tl.depth tr.depth := rfl
        have pp : (Tr.T.cut tl tr k0).pieces = 1 + tl.pieces + tr.pieces := rfl
        refine ⟨_, rfl, a, _, 0, .str "cut", rfl, rfl, .of ha, rfl, rfl, false, by simp; decide, ?_⟩
        refine ⟨_, rfl, a, _, 1, x, rfl, rfl, .of ha, rfl, x, tl, rfl, h1, by omega, by omega, fun p1 vs1 H1 np1 s1 hp1 a1 => ?_⟩
        refine ⟨_, rfl, a, _, 2, y, rfl, rfl, .of (s1 _ _ ha), rfl, y, tr, rfl, h2.ke (Ke.same (F := Nof) s1), by omega, by omega, fun p2 vs2 H2 np2 s2 hp2 a2 => ?_⟩
        have l1 := a1.1
        have l2 := a2.1
        rw [T.all_len] at l1 l2
        refine ⟨p1, p2, _, _, rfl, rfl, s2 _ _ hp1, hp2, Nat.le_trans (by omega : _ ≤ 1000) (by decide), fun p3 H3 np3 s3 hp3 _ => ?_⟩
        refine ⟨_, rfl, by show 1 ≤ sizeLine; decide, fun p4 H4 np4 s4 hp4 _ => ?_⟩
        refine ⟨p3, p4, _, _, rfl, rfl, s4 _ _ hp3, hp4, ?_, fun p5 H5 np5 s5 hp5 _ => ?_⟩
        · rw [List.length_append]
          show vs1.length + vs2.length + 1 ≤ sizeLine
          exact Nat.le_trans (by omega : _ ≤ 1000) (by decide)
        have s25 := s3.trans (s4.trans s5)
        have s15 := s2.trans s25
        have s05 := s1.trans s15
        refine q p5 _ H5 (s1.free (s2.free ((s3.trans s4).free np5))) s05 hp5 ?_
        exact ((a1.imp fun _ _ h => At.ke (Ke.same (F := Nof) s15) h).cat (a2.imp fun _ _ h => At.ke (Ke.same (F := Nof) s25) h)).snoc (At.ke (Ke.same (F := Nof) s05) ht)
end
end Tl
namespace Ro
open PySem PySem.Spec PyProof.Rows L2 GxR Nw Dr Kp Se Ct Lr Lp Ll Od Tr Bkg
/-! ### the rows of a tree -/
noncomputable def pick {α : Type} (p : Prop) (a b : α) : α := @ite α p (Classical.propDecidable p) a b
theorem pick_pos {α : Type} {p : Prop} {a b : α} (h : p) : pick p a b = a := by
  unfold pick
  exact if_pos h
theorem pick_neg {α : Type} {p : Prop} {a b : α} (h : ¬ p) : pick p a b = b := by
  unfold pick
  exact if_neg h
/-- the first place -/
noncomputable def ix : List T → T → Nat
  | [], _ => 0
  | x :: xs, t => pick (x = t) 0 (ix xs t + 1)
theorem ix_mem : ∀ {l : List T} {t : T}, t ∈ l → l[ix l t]? = some t
  | [], t, h => nomatch h
  | x :: xs, t, h => by
    unfold ix
    by_cases e : x = t
    · rw [pick_pos e, e]
      rfl
    · rw [pick_neg e, List.getElem?_cons_succ]
      exact ix_mem ((List.mem_cons.mp h).resolve_left fun z => e z.symm)
theorem ix_lt {l : List T} {t : T} (h : t ∈ l) : ix l t < l.length := (List.getElem?_eq_some_iff.mp (ix_mem h)).1
theorem ix_app : ∀ {l m : List T} {t : T}, t ∈ l → ix (l ++ m) t = ix l t
  | [], m, t, h => nomatch h
  | x :: xs, m, t, h => by
    show (pick (x = t) 0 (ix (xs ++ m) t + 1)) = pick (x = t) 0 (ix xs t + 1)
    by_cases e : x = t
    · rw [pick_pos e, pick_pos e]
    · rw [pick_neg e, pick_neg e, ix_app ((List.mem_cons.mp h).resolve_left fun z => e z.symm)]
theorem ix_end : ∀ {l : List T} {t : T}, t ∉ l → ix (l ++ [t]) t = l.length
  | [], t, _ => pick_pos rfl
  | x :: xs, t, h => by
    show (pick (x = t) 0 (ix (xs ++ [t]) t + 1)) = xs.length + 1
    rw [pick_neg fun e : x = t => h (e ▸ List.mem_cons_self), ix_end fun z => h (List.mem_cons_of_mem _ z)]
theorem ix_before : ∀ {l : List T} {t z : T} {m : Nat}, m < ix l t → l[m]? = some z → z ≠ t
  | [], t, z, m, h, e => nomatch e
  | x :: xs, t, z, m, h, e => by
    have h : m < pick (x = t) 0 (ix xs t + 1) := h
    by_cases c : x = t
    · rw [pick_pos c] at h
      omega
    · rw [pick_neg c] at h
      cases m with
      | zero =>
        have e : some x = some z := e
        rw [← Option.some.inj e]
        exact c
      | succ m => exact ix_before (l := xs) (show m < ix xs t by omega) e
theorem ix_inj {l : List T} {a b : T} (ha : a ∈ l) (hb : b ∈ l) (e : ix l a = ix l b) : a = b := by
  have h := ix_mem ha
  rw [e, ix_mem hb] at h
  exact (Option.some.inj h).symm
/-- the row of a tree behind others -/
noncomputable def rowOf (ts : List T) : T → Rw
  | .leaf n => .book n
  | .cut a b k => .cut (ix ts a) (ix ts b) k
def In2 (ts : List T) : T → Prop
  | .leaf _ => True
  | .cut a b _ => a ∈ ts ∧ b ∈ ts
theorem In2.mono {ts us : List T} {t : T} (h : In2 ts t) (s : ∀ x ∈ ts, x ∈ us) : In2 us t := by
  cases t with
  | leaf n => trivial
  | cut a b k => exact ⟨s _ h.1, s _ h.2⟩
theorem rowOf_app {ts m : List T} {t : T} (h : In2 ts t) : rowOf (ts ++ m) t = rowOf ts t := by
  cases t with
  | leaf n => rfl
  | cut a b k =>
    obtain ⟨h1, h2⟩ := h
    show Rw.cut (ix (ts ++ m) a) (ix (ts ++ m) b) k = Rw.cut (ix ts a) (ix ts b) k
    rw [ix_app h1, ix_app h2]
theorem rowOf_inj {ts : List T} {s t : T} (hs : In2 ts s) (ht : In2 ts t) (e : rowOf ts s = rowOf ts t) : s = t := by
  cases s with
  | leaf n =>
    cases t with
    | leaf m =>
      have e : Rw.book n = Rw.book m := e
      rw [Rw.book.inj e]
    | cut a b k =>
      have e : Rw.book n = Rw.cut (ix ts a) (ix ts b) k := e
      cases e
  | cut a b k =>
    cases t with
    | leaf m =>
      have e : Rw.cut (ix ts a) (ix ts b) k = Rw.book m := e
      cases e
    | cut a' b' k' =>
      have e : Rw.cut (ix ts a) (ix ts b) k = Rw.cut (ix ts a') (ix ts b') k' := e
      obtain ⟨e1, e2, e3⟩ := Rw.cut.inj e
      rw [ix_inj hs.1 ht.1 e1, ix_inj hs.2 ht.2 e2, e3]
/-- pieces told once, each behind its parts -/
structure Gd (ts : List T) : Prop where
  nd : ts.Nodup
  cl : ∀ (n : Nat) (t : T), ts[n]? = some t → In2 (ts.take n) t
theorem Gd.nil : Gd [] := ⟨.nil, fun n t h => nomatch h⟩
theorem Gd.in2 {ts : List T} {t : T} (g : Gd ts) (h : t ∈ ts) : In2 ts t := by
  obtain ⟨n, e⟩ := List.getElem?_of_mem h
  exact (g.cl n t e).mono fun x hx => List.mem_of_mem_take hx
theorem Gd.snoc {ts : List T} {t : T} (g : Gd ts) (n : t ∉ ts) (h : In2 ts t) : Gd (ts ++ [t]) := by
  refine ⟨?_, fun i s e => ?_⟩
  · rw [List.nodup_append]
    refine ⟨g.nd, by simp, fun a ha b hb z => ?_⟩
    rw [List.mem_singleton.mp hb] at z
    exact n (z ▸ ha)
  · by_cases c : i < ts.length
    · rw [List.getElem?_append_left c] at e
      rw [List.take_append_of_le_length (by omega)]
      exact g.cl i s e
    · have l := (List.getElem?_eq_some_iff.mp e).1
      rw [List.length_append, List.length_singleton] at l
      obtain rfl : i = ts.length := by omega
      rw [List.getElem?_append_right (Nat.le_refl _), Nat.sub_self] at e
      obtain rfl : t = s := Option.some.inj e
      rw [List.take_left]
      exact h
noncomputable def dd1 (ts : List T) (t : T) : List T := pick (t ∈ ts) ts (ts ++ [t])
noncomputable def dd (ts l : List T) : List T := l.foldl dd1 ts
theorem dd_app (ts a b : List T) : dd ts (a ++ b) = dd (dd ts a) b := List.foldl_append ..
theorem dd_snoc (ts a : List T) (t : T) : dd ts (a ++ [t]) = dd1 (dd ts a) t := by
  rw [dd_app]
  rfl
theorem dd1_step {ts : List T} {t : T} (g : Gd ts) (h : In2 ts t) : Gd (dd1 ts t) ∧ t ∈ dd1 ts t ∧ ∃ m, dd1 ts t = ts ++ m ∧ ∀ x ∈ m, x = t := by
  unfold dd1
  by_cases c : t ∈ ts
  · rw [pick_pos c]
    exact ⟨g, c, [], (List.append_nil _).symm, fun x hx => nomatch hx⟩
  · rw [pick_neg c]
    exact ⟨g.snoc c h, List.mem_append_right _ (List.mem_singleton_self _), [t], rfl, fun x hx => List.mem_singleton.mp hx⟩
theorem dd1_len (ts : List T) (t : T) : (dd1 ts t).length ≤ ts.length + 1 := by
  unfold dd1
  by_cases c : t ∈ ts
  · rw [pick_pos c]
    omega
  · rw [pick_neg c, List.length_append]
    exact Nat.le_refl _
theorem dd_len : ∀ (l ts : List T), (dd ts l).length ≤ ts.length + l.length
  | [], ts => Nat.le_refl _
  | t :: l, ts => by
    have h1 := dd_len l (dd1 ts t)
    have h2 := dd1_len ts t
    show (dd (dd1 ts t) l).length ≤ ts.length + (l.length + 1)
    omega
theorem dd_sub : ∀ (l ts : List T), ∀ x ∈ dd ts l, x ∈ ts ∨ x ∈ l
  | [], ts, x, h => .inl h
  | t :: l, ts, x, h => by
    rcases dd_sub l (dd1 ts t) x h with z | z
    · unfold dd1 at z
      by_cases c : t ∈ ts
      · rw [pick_pos c] at z
        exact .inl z
      · rw [pick_neg c] at z
        rcases List.mem_append.mp z with z | z
        · exact .inl z
        · exact .inr (by rw [List.mem_singleton.mp z]; exact List.mem_cons_self)
    · exact .inr (List.mem_cons_of_mem _ z)
theorem dd_cut (ts : List T) (a b : T) (k : Int) : dd ts (T.cut a b k).all = dd1 (dd (dd ts a.all) b.all) (.cut a b k) := by
  show dd ts (a.all ++ b.all ++ [T.cut a b k]) = _
  rw [dd_snoc, dd_app]
theorem dd_tree : ∀ (t : T) {ts : List T}, Gd ts → Gd (dd ts t.all) ∧ t ∈ dd ts t.all ∧ ∃ m, dd ts t.all = ts ++ m
  | .leaf n, ts, g => by
    obtain ⟨h1, h2, m, h3, _⟩ := dd1_step (t := .leaf n) g trivial
    exact ⟨h1, h2, m, h3⟩
  | .cut a b k, ts, g => by
    obtain ⟨g1, i1, m1, e1⟩ := dd_tree a g
    obtain ⟨g2, i2, m2, e2⟩ := dd_tree b g1
    have i3 : a ∈ dd (dd ts a.all) b.all := by
      rw [e2]
      exact List.mem_append_left _ i1
    obtain ⟨h1, h2, m, h3, _⟩ := dd1_step (t := .cut a b k) g2 ⟨i3, i2⟩
    rw [dd_cut]
    refine ⟨h1, h2, m1 ++ m2 ++ m, ?_⟩
    rw [h3, e2, e1]
    simp only [List.append_assoc]
theorem gd_all (t : T) : Gd (dd [] t.all) := (dd_tree t .nil).1
noncomputable def rws (ts : List T) : List Rw := ts.map (rowOf ts)
theorem rws_len (ts : List T) : (rws ts).length = ts.length := List.length_map _
theorem rws_at {ts : List T} {n : Nat} {t : T} (h : ts[n]? = some t) : (rws ts)[n]? = some (rowOf ts t) := by
  unfold rws
  rw [List.getElem?_map, h]
  rfl
theorem rws_snoc {ts : List T} {t : T} (g : Gd ts) (h : In2 ts t) : rws (ts ++ [t]) = rws ts ++ [rowOf ts t] := by
  unfold rws
  rw [List.map_append]
  congr 1
  · exact List.map_congr_left fun s hs => rowOf_app (g.in2 hs)
  · show [rowOf (ts ++ [t]) t] = [rowOf ts t]
    rw [rowOf_app h]
/-- put back, they are the pieces -/
theorem trs_rws {ts : List T} (g : Gd ts) : ∀ n, n ≤ ts.length → trs ((rws ts).take n) = ts.take n
  | 0, _ => rfl
  | n + 1, l => by
    have ih := trs_rws g n (by omega)
    have e := List.getElem?_eq_getElem (show n < ts.length by omega)
    generalize ts[n]'(by omega) = t at e
    rw [take_snoc (rws_at e), trs_snoc, ih, take_snoc e]
    congr 1
    cases t with
    | leaf m => rfl
    | cut a b k =>
      obtain ⟨ha, hb⟩ := g.cl n _ e
      have key : ∀ x ∈ ts.take n, (ts.take n).getD (ix ts x) (.leaf 0) = x := fun x hx => by
        have e1 : ix ts x = ix (ts.take n) x := by
          have := ix_app (m := ts.drop n) hx
          rw [List.take_append_drop] at this
          exact this
        rw [e1, List.getD_eq_getElem?_getD, ix_mem hx]
        rfl
      show [T.cut ((ts.take n).getD (ix ts a) (.leaf 0)) ((ts.take n).getD (ix ts b) (.leaf 0)) k] = _
      rw [key a ha, key b hb]
theorem trs_all {ts : List T} (g : Gd ts) : trs (rws ts) = ts := by
  have := trs_rws g ts.length (Nat.le_refl _)
  rw [List.take_length, ← rws_len ts, List.take_length] at this
  exact this
/-- the last one is the tree -/
theorem dd_last {css : List (List Int)} {t : T} {c : List Int} (h : Tr.Cl css t c) : (dd [] t.all)[(dd [] t.all).length - 1]? = some t := by
  cases t with
  | leaf n =>
    have e : dd [] (T.leaf n).all = [T.leaf n] := pick_neg List.not_mem_nil
    rw [e]
    rfl
  | cut a b k =>
    obtain ⟨x, y, h1, h2, h3⟩ := id h
    have n : T.cut a b k ∉ dd (dd [] a.all) b.all := fun z => by
      have pp : (T.cut a b k).pieces = 1 + a.pieces + b.pieces := rfl
      rcases dd_sub _ _ _ z with z | z
      · rcases dd_sub _ _ _ z with z | z
        · exact nomatch z
        · have := (T.all_sub h1 _ z).2.1
          omega
      · have := (T.all_sub h2 _ z).2.1
        omega
    rw [dd_cut]
    unfold dd1
    rw [pick_neg n, List.length_append, List.length_singleton, Nat.add_sub_cancel, List.getElem?_append_right (Nat.le_refl _), Nat.sub_self]
    rfl
/-- the claims of pieces -/
theorem cls_of {css : List (List Int)} : ∀ (ts : List T), (∀ t ∈ ts, ∃ c, Tr.Cl css t c) → ∃ cls : List (List Int), cls.length = ts.length ∧ ∀ (n : Nat) (t : T) (c : List Int), ts[n]? = some t → cls[n]? = some c → Tr.Cl css t c
  | [], _ => ⟨[], rfl, fun n t c h => nomatch h⟩
  | t :: r, h => by
    obtain ⟨c, hc⟩ := h t List.mem_cons_self
    obtain ⟨cls, l, a⟩ := cls_of r fun x hx => h x (List.mem_cons_of_mem _ hx)
    refine ⟨c :: cls, by rw [List.length_cons, List.length_cons, l], fun n s d h1 h2 => ?_⟩
    cases n with
    | zero =>
      rw [← Option.some.inj h1, ← Option.some.inj h2]
      exact hc
    | succ n => exact a n s d h1 h2
theorem lad_rws {css : List (List Int)} {ts : List T} (g : Gd ts) (h : ∀ t ∈ ts, ∃ c, Tr.Cl css t c) : ∃ cls, Lad css (rws ts) cls := by
  obtain ⟨cls, l, a⟩ := cls_of ts h
  refine ⟨cls, by rw [rws_len, l], fun n r c h1 h2 => ?_⟩
  have ln := (List.getElem?_eq_some_iff.mp h1).1
  rw [rws_len] at ln
  have e := List.getElem?_eq_getElem ln
  generalize ts[n]'ln = t at e
  rw [rws_at e] at h1
  obtain rfl := (Option.some.inj h1).symm
  have ct := a n t c e h2
  cases t with
  | leaf m => exact ct
  | cut u v k =>
    obtain ⟨x, y, c1, c2, cm⟩ := ct
    obtain ⟨hu, hv⟩ := g.cl n _ e
    have key : ∀ s z, s ∈ ts.take n → Tr.Cl css s z → (cls.take n)[ix ts s]? = some z := fun s z hs cz => by
      have e1 : ix ts s = ix (ts.take n) s := by
        have := ix_app (m := ts.drop n) hs
        rw [List.take_append_drop] at this
        exact this
      have li := ix_lt hs
      rw [List.length_take] at li
      have hi := ix_mem hs
      rw [List.getElem?_take_of_lt (by omega)] at hi
      rw [e1, List.getElem?_take_of_lt (by omega)]
      have lc : ix (ts.take n) s < cls.length := by omega
      have ec := List.getElem?_eq_getElem lc
      rw [ec, (a _ _ _ hi ec).one cz]
    exact ⟨x, y, key u x hu c1, key v y hv c2, cm⟩
/-! ### rows as keys -/
def keyR : Rw → List Key
  | .book n => [.inr "book", .inl (n : Nat)]
  | .cut i j k => [.inr "cut", .inl (i : Nat), .inl (j : Nat), .inl k]
theorem keyR_v (r : Rw) : (keyR r).map kV = r.vs := by cases r <;> rfl
theorem keyR_inj {r s : Rw} (e : keyR r = keyR s) : r = s := by
  cases r with
  | book n =>
    cases s with
    | book m =>
      simp only [keyR, List.cons.injEq, Sum.inl.injEq, Int.ofNat_inj, and_true, true_and] at e
      rw [e]
    | cut i j k => simp [keyR] at e
  | cut i j k =>
    cases s with
    | book m => simp [keyR] at e
    | cut i' j' k' =>
      simp only [keyR, List.cons.injEq, Sum.inl.injEq, Int.ofNat_inj, and_true, true_and] at e
      rw [e.1, e.2.1, e.2.2]
structure Dc (ts : List T) (kvs : List (List Key × V)) : Prop where
  ln : kvs.length ≤ ts.length
  «at» : ∀ t ∈ ts, valV kvs (keyR (rowOf ts t)) = some (.int (ix ts t : Nat))
  no : ∀ r, r ∉ rws ts → valV kvs (keyR r) = none
theorem Dc.nil : Dc [] [] := ⟨Nat.le_refl _, fun t h => (nomatch h), fun _ _ => rfl⟩
theorem rws_no {ts : List T} {t : T} (g : Gd ts) (n : t ∉ ts) (h : In2 ts t) : rowOf ts t ∉ rws ts := fun z => by
  obtain ⟨s, hs, e⟩ := List.mem_map.mp z
  exact n (rowOf_inj (g.in2 hs) h e ▸ hs)
theorem Dc.snoc {ts : List T} {kvs : List (List Key × V)} {t : T} (d : Dc ts kvs) (g : Gd ts) (n : t ∉ ts) (h : In2 ts t) : Dc (ts ++ [t]) (putK kvs (keyR (rowOf ts t)) (.int (ts.length : Nat))) := by
  refine ⟨?_, fun s hs => ?_, fun r hr => ?_⟩
  · have := length_putK kvs (keyR (rowOf ts t)) (.int (ts.length : Nat))
    have := d.ln
    rw [List.length_append, List.length_singleton]
    omega
  · rw [valV_put]
    rcases List.mem_append.mp hs with hs | hs
    · rw [rowOf_app (g.in2 hs), ix_app hs, if_neg fun z => n (rowOf_inj (g.in2 hs) h (keyR_inj z) ▸ hs)]
      exact d.at s hs
    · rw [List.mem_singleton.mp hs, rowOf_app h, if_pos rfl, ix_end n]
  · rw [rws_snoc g h, List.mem_append, List.mem_singleton] at hr
    rw [valV_put, if_neg fun z => hr (.inr (keyR_inj z))]
    exact d.no r fun z => hr (.inl z)
/-! ### the rows, shown -/
def RwB : Rw → Prop
  | .book n => n ≤ 200
  | .cut i j k => i ≤ 200 ∧ j ≤ 200 ∧ 1 ≤ k ∧ k ≤ 8
theorem lad_b {css cls : List (List Int)} {rows : List Rw} (ib : ∀ c ∈ css, IsCl c) (h : Lad css rows cls) (l1 : css.length ≤ 16) (l2 : rows.length ≤ 200) : ∀ r ∈ rows, RwB r := fun r hr => by
  obtain ⟨i, hi⟩ := List.getElem?_of_mem hr
  have li := (List.getElem?_eq_some_iff.mp hi).1
  have lc := h.1
  have rc := h.2 i r _ hi (List.getElem?_eq_getElem (show i < cls.length by omega))
  cases r with
  | book n =>
    have := (List.getElem?_eq_some_iff.mp rc).1
    show n ≤ 200
    omega
  | cut a b k =>
    have pa := rc.parts
    rw [List.length_take] at pa
    obtain ⟨x, y, h1, h2, c1, c2, _⟩ := rc
    have ix := h.isCl ib x (List.mem_of_mem_take (List.mem_of_getElem? h1))
    have := ix.says k c2
    exact ⟨by omega, by omega, c1, this.2.2⟩
theorem mid_ints : ∀ n : Fin 601, PyData.showable (.int ((n.val : Int) - 300)) = true ∧ (PyData.shown (.int ((n.val : Int) - 300))).length ≤ 4 := by decide +kernel
theorem sm_mid {n : Int} (h0 : -300 ≤ n) (h1 : n ≤ 300) : Sm 45 (.int n) := by
  have := mid_ints ⟨(n + 300).toNat, by omega⟩
  rw [show (((n + 300).toNat : Nat) : Int) - 300 = n by omega] at this
  exact ⟨this.1, rfl, by show 0 ≤ 6; decide, Nat.le_trans this.2 (by decide)⟩
theorem sm_txt {d : PyData} (h : (d.showable && !d.hasDict && decide (d.depth ≤ 2) && decide (d.shown.length ≤ 45)) = true) : Sm 45 d := by
  simp only [Bool.and_eq_true, decide_eq_true_eq, Bool.not_eq_true'] at h
  obtain ⟨⟨⟨h1, h2⟩, h3⟩, h4⟩ := h
  exact ⟨h1, h2, by omega, h4⟩
theorem sm_row {r : Rw} (h : RwB r) : Sm 400 (dat r) ∧ (dat r).depth ≤ 5 := by
  cases r with
  | book n =>
    have h : n ≤ 200 := h
    exact ⟨(SmAll.cons (sm_txt (d := .str "book") (by decide +kernel)) (Nat.zero_le _) (SmAll.cons (sm_mid (n := (n : Nat)) (by omega) (by omega)) (Nat.zero_le _) .nil)).tuple (n := 4) (by show 2 ≤ 4; decide) (by decide), by show Nat.max 0 (Nat.max 0 0) + 1 ≤ 5; decide⟩
  | cut i j k =>
    obtain ⟨h1, h2, h3, h4⟩ := h
    exact ⟨(SmAll.cons (sm_txt (d := .str "cut") (by decide +kernel)) (Nat.zero_le _) (SmAll.cons (sm_mid (n := (i : Nat)) (by omega) (by omega)) (Nat.zero_le _) (SmAll.cons (sm_mid (n := (j : Nat)) (by omega) (by omega)) (Nat.zero_le _) (SmAll.cons (sm_mid (n := k) (by omega) (by omega)) (Nat.zero_le _) .nil)))).tuple (n := 4) (by show 4 ≤ 4; decide) (by decide), by show Nat.max 0 (Nat.max 0 (Nat.max 0 (Nat.max 0 0))) + 1 ≤ 5; decide⟩
theorem sm_rows {rows : List Rw} (h : ∀ r ∈ rows, RwB r) (l : rows.length ≤ 500) : Sm 300000 (.list (rows.map dat)) :=
  (SmAll.of fun d hd => by
    obtain ⟨r, hr, rfl⟩ := List.mem_map.mp hd
    exact sm_row (h r hr)).list (n := 500) (by rw [List.length_map]; exact l) (by decide)
/-! ### the trees as data -/
theorem eqvA (x y : PyData) (xs ys : List PyData) : PyData.eqvAll (x :: xs) (y :: ys) = (PyData.eqv x y && PyData.eqvAll xs ys) := rfl
theorem eqvT (xs ys : List PyData) : PyData.eqv (.tuple xs) (.tuple ys) = PyData.eqvAll xs ys := rfl
theorem eqvI (x y : Int) : PyData.eqv (.int x) (.int y) = (x == y) := rfl
theorem eqvN : PyData.eqvAll [] [] = true := rfl
theorem eqv_bc : PyData.eqv (.str "book") (.str "cut") = false := by decide +kernel
theorem eqv_cb : PyData.eqv (.str "cut") (.str "book") = false := by decide +kernel
theorem eqv_bb : PyData.eqv (.str "book") (.str "book") = true := by decide +kernel
theorem eqv_cc : PyData.eqv (.str "cut") (.str "cut") = true := by decide +kernel
theorem tdt_l (n : Nat) : tdt (.leaf n) = .tuple [.str "book", .int (n : Nat)] := rfl
theorem tdt_c (a b : T) (k : Int) : tdt (.cut a b k) = .tuple [.str "cut", tdt a, tdt b, .int k] := rfl
theorem eqv_tdt (s : T) : ∀ t : T, PyData.eqv (tdt s) (tdt t) = true ↔ s = t := by
  induction s with
  | leaf n =>
    intro t
    cases t with
    | leaf m =>
      rw [tdt_l, tdt_l, eqvT, eqvA, eqvA, eqv_bb, eqvI, eqvN, Bool.true_and, Bool.and_true, beq_iff_eq]
      exact ⟨fun h => by rw [Int.ofNat_inj.mp h], fun h => by rw [T.leaf.inj h]⟩
    | cut a b k =>
      rw [tdt_l, tdt_c, eqvT, eqvA, eqv_bc, Bool.false_and]
      exact ⟨fun h => (nomatch h), fun h => (nomatch h)⟩
  | cut a b k iha ihb =>
    intro t
    cases t with
    | leaf m =>
      rw [tdt_l, tdt_c, eqvT, eqvA, eqv_cb, Bool.false_and]
      exact ⟨fun h => (nomatch h), fun h => (nomatch h)⟩
    | cut a' b' k' =>
      rw [tdt_c, tdt_c, eqvT, eqvA, eqvA, eqvA, eqvA, eqv_cc, eqvI, eqvN, Bool.true_and, Bool.and_true, Bool.and_eq_true, Bool.and_eq_true, beq_iff_eq, iha a', ihb b']
      exact ⟨fun ⟨h1, h2, h3⟩ => by rw [h1, h2, h3], fun h => ⟨(T.cut.inj h).1, (T.cut.inj h).2.1, (T.cut.inj h).2.2⟩⟩
theorem any_tdt (ts : List T) (t : T) : ((ts.map tdt).any fun z => PyData.eqv z (tdt t)) = true ↔ t ∈ ts := by
  rw [List.any_eq_true]
  constructor
  · rintro ⟨d, hd, e⟩
    obtain ⟨s, hs, rfl⟩ := List.mem_map.mp hd
    exact (eqv_tdt s t).mp e ▸ hs
  · exact fun h => ⟨_, List.mem_map_of_mem h, (eqv_tdt t t).mpr rfl⟩
theorem shaped_t {t : T} (h : t.depth ≤ 40) : SeqAt.shaped (tdt t) = true := by
  obtain ⟨h1, h2⟩ := Bkg.ltree t
  show (PyData.canLay0 (tdt t) && decide (PyData.depth (tdt t) ≤ 64)) = true
  rw [h1, decide_eq_true (by omega)]
  rfl
theorem lay_ts : ∀ ts : List T, (∀ t ∈ ts, t.depth ≤ 40) → PyData.canLayAll0 (ts.map tdt) = true ∧ PyData.depthAll (ts.map tdt) ≤ 40
  | [], _ => ⟨rfl, by decide⟩
  | t :: r, h => by
    obtain ⟨h1, h2⟩ := lay_ts r fun x hx => h x (List.mem_cons_of_mem _ hx)
    obtain ⟨h3, h4⟩ := Bkg.ltree t
    have h5 := h t List.mem_cons_self
    refine ⟨?_, Nat.max_le.mpr ⟨by omega, h2⟩⟩
    show (PyData.canLay0 (tdt t) && PyData.canLayAll0 (r.map tdt)) = true
    rw [h3, h1]
    rfl
theorem shaped_ts {ts : List T} (h : ∀ t ∈ ts, t.depth ≤ 40) : SeqAt.shaped (.list (ts.map tdt)) = true := by
  obtain ⟨h1, h2⟩ := lay_ts ts h
  show (PyData.canLayAll0 (ts.map tdt) && decide (PyData.depthAll (ts.map tdt) + 1 ≤ 64)) = true
  rw [h1, decide_eq_true (by omega)]
  rfl
theorem dp_ts {K : PySem.W.Frag} {H : Hp} : ∀ {vs : List V} {ts : List T}, All2 (fun v t => At H t v) vs ts → DpAll K H vs (ts.map tdt)
  | [], [], _ => .nil
  | [], r :: t, h => by cases h.1
  | v :: t, [], h => by cases h.1
  | v :: t, m :: u, h => .cons (Bkg.dp_tree (h.2 0 v m rfl rfl)) (dp_ts ⟨by have := h.1; simp only [List.length_cons] at this; omega, fun i x y h1 h2 => h.2 (i + 1) x y h1 h2⟩)
/-! ### what the program does -/
theorem lt1 {n : Nat} (h : n + 64 < cLine) : n + 1 < cLine := by omega
theorem ke_put {F : Addr → Prop} {H H1 : Hp} {p : Addr} {xs : List (List Key × V)} {o : HO} (k : Ke F H H1) (fp : F p) (h1 : H1 p = some (.dT xs)) : Ke F H (upd H1 p o) := by
  refine ⟨fun b x e t m => ?_, fun Q hQ => ?_, fun b ys e => ?_⟩
  · rw [upd_ne (fun z => m (by rw [z]; exact fp))]
    exact k.keep b x e t m
  · obtain ⟨qs, e2, t2⟩ := k.tabs Q hQ
    have n : Q ≠ p := fun z => by
      rw [z, h1] at e2
      cases e2
    exact ⟨qs, by rw [upd_ne n]; exact e2, t2⟩
  · have e2 := k.tups b ys e
    rw [upd_ne (fun z => by rw [z, h1] at e2; cases e2)]
    exact e2
theorem ke_wr {F : Addr → Prop} {H H1 : Hp} {p : Addr} {xs : List V} {o : HO} (k : Ke F H H1) (fp : F p) (h1 : H1 p = some (.lst xs)) : Ke F H (upd H1 p o) := by
  refine ⟨fun b x e t m => ?_, fun Q hQ => ?_, fun b ys e => ?_⟩
  · rw [upd_ne (fun z => m (by rw [z]; exact fp))]
    exact k.keep b x e t m
  · obtain ⟨qs, e2, t2⟩ := k.tabs Q hQ
    have n : Q ≠ p := fun z => by
      rw [z, h1] at e2
      cases e2
    exact ⟨qs, by rw [upd_ne n]; exact e2, t2⟩
  · have e2 := k.tups b ys e
    rw [upd_ne (fun z => by rw [z, h1] at e2; cases e2)]
    exact e2
theorem keN {F : Addr → Prop} {H H1 H2 : Hp} (a : Ke Nof H H1) (b : Ke F H1 H2) (n : ∀ x, F x → H x = none) : Ke Nof H H2 :=
  ⟨fun x o e t m => b.keep x o (a.keep x o e t m) t (fun z => by rw [n x z] at e; cases e), fun Q h => b.tabs Q (a.tabs Q h), fun x xs e => b.tups x xs (a.tups x xs e)⟩
section
variable {P : Program} {w : World} {K : PySem.W.Frag} {mg : Str → Option Value} {base : Heap}
abbrev sPut : Stmt := topS 27
theorem scPut : FnScope ["tree", "rows", "numbers", "row", "one", "other"] ["tree", "rows", "numbers"] (defScope sPut) := ⟨rfl, rfl, rfl, by decide +kernel, rfl, by decide +kernel, by decide +kernel⟩
abbrev RD (R D : Addr) : Addr → Prop := fun a => a = R ∨ a = D
structure Zl (mg : Str → Option Value) : Prop where
  z_len : mg "len" = none
def spPut (d : Nat) : Sp := fun vs H Q _ => ∃ (v : V) (R D : Addr) (t : T) (ts : List T) (kvs : List (List Key × V)), vs = [v, .ref R, .ref D] ∧ At H t v ∧ t.depth ≤ d ∧ Gd ts ∧ RwL H R (rws ts) ∧ H D = some (.dT kvs) ∧ Dc ts kvs ∧ R ≠ D ∧ ts.length + t.pieces ≤ 500 ∧
  ∀ kvs' H', Ke (RD R D) H H' → RwL H' R (rws (dd ts t.all)) → H' D = some (.dT kvs') → Dc (dd ts t.all) kvs' → Q (.int (ix (dd ts t.all) t : Nat)) H'
theorem ok_put {f : Addr} {fd : FuncData} (F : Fun K "put_rows" "put_rows" sPut f fd) (T : Zl mg) (bS : Binds K fd ["tree", "rows", "numbers"] []) (gS : mg "put_rows" = some (.ref f)) : ∀ d, FnOk P w K mg base CX0 (d + 1) f fd ["tree", "rows", "numbers"] (spPut d) := by
  intro d
  induction d with
  | zero =>
    refine F.ok scPut (fun vs H Q E h => ?_) (fun cdv A outer s H vs Q E hr h => ?_)
    · obtain ⟨v, R, D, t, ts, kvs, rfl, _⟩ := h
      rfl
    · obtain ⟨v, R, D, t, ts, kvs, rfl, _, h0, _⟩ := h
      have := t.pos
      omega
  | succ d ih =>
    refine F.ok scPut (fun vs H Q E h => ?_) (fun cdv A outer s H vs Q E hr h => ?_)
    · obtain ⟨v, R, D, t, ts, kvs, rfl, _⟩ := h
      rfl
    · obtain ⟨v, R, D, t, ts, kvs, rfl, ht, hd, g, hR, hD, dc, nRD, sz, q⟩ := h
      have hrd : Room (d + 1) _ := hr
      refine ⟨_, (pss_cons (ps_set (i := 3) scPut.nd rfl (.inl rfl) (pv 0))
      (Evl.pss_cut (ps_if (pt_cmpR op_eq (pe_ix ix_tup (pv 0) pe_int (fun _ _ => rfl)) pe_str (nomark _)) (pss_cons (ps_set (i := 4) scPut.nd rfl (.inl rfl) (pe_call ih hrd (by rfl) gS F.kp bS .nil pass0 (pa_cons (pe_ix ix_tup (pv 0) pe_int (fun _ _ => rfl)) (pa_cons (pv 1) (pa_cons (pv 2) pa_nil)))))
      (pss_cons (ps_set (i := 5) scPut.nd rfl (.inl rfl) (pe_call ih hrd (by rfl) gS F.kp bS .nil pass0 (pa_cons (pe_ix ix_tup (pv 0) pe_int (fun _ _ => rfl)) (pa_cons (pv 1) (pa_cons (pv 2) pa_nil)))))
      (pss_one (ps_set (i := 3) scPut.nd rfl (.inl rfl) (pe_tupN (pa_cons pe_str (pa_cons (pv 4) (pa_cons (pv 5) (pa_cons (pe_ix ix_tup (pv 0) pe_int (fun _ _ => rfl)) pa_nil))))))))) pss_nil)
      (Evl.pss_cut (ps_if (pt_cmp (pc_dnotin (lt1 hr.units) (pv 3) (pv 2))) (pss_cons (ps_dput (lt1 hr.units) (pv 2) (pv 3) (pe_callB call_len_seq (by rfl) T.z_len (by decide +kernel) (pa_cons (pv 1) pa_nil)) rfl)
      (pss_one (ps_expr (pe_bm PySem.F.plainAttrs_list PySem.F.slot_list_append PySem.F.type_list_append mt_append (pv 1) (pa_cons (pv 3) pa_nil))))) pss_nil)
      (pss_one (ps_ret (pe_dget (lt1 hr.units) (pv 2) (pv 3) (fun _ _ => rfl))))))), ?_⟩
      refine ⟨_, rfl, ?_⟩
      -- its row
      refine Evl.q_cut (M := fun σ' H' => ∃ (x : Addr) (y4 y5 : Option V) (ts2 : List Tr.T) (kvs2 : List (List Key × V)), σ' = [some v, some (.ref R), some (.ref D), some (.ref x), y4, y5] ∧ Ke (RD R D) H H' ∧ H' x = some (.tup (rowOf ts2 t).vs) ∧ Gd ts2 ∧ In2 ts2 t ∧ RwL H' R (rws ts2) ∧ H' D = some (.dT kvs2) ∧ Dc ts2 kvs2 ∧ dd ts t.all = dd1 ts2 t ∧ ts2.length + 1 ≤ 500) ?_ ?_
      · cases t with
        | leaf n =>
          obtain ⟨a, rfl, ha⟩ := ht
          refine ⟨_, rfl, a, _, 0, .str "book", rfl, rfl, .of ha, rfl, rfl, false, by simp; decide, ?_⟩
          exact ⟨a, none, none, ts, kvs, rfl, .refl _ _, ha, g, trivial, hR, hD, dc, rfl, sz⟩
        | cut a b k =>
          obtain ⟨a0, x, y, rfl, ha, h1, h2⟩ := ht
          have dp : (Tr.T.cut a b k).depth = 1 + max a.depth b.depth := rfl
          have pp : (Tr.T.cut a b k).pieces = 1 + a.pieces + b.pieces := rfl
          refine ⟨_, rfl, a0, _, 0, .str "cut", rfl, rfl, .of ha, rfl, rfl, true, by simp, ?_⟩
          refine ⟨_, rfl, a0, _, 1, x, rfl, rfl, .of ha, rfl, _, rfl, _, rfl, x, R, D, a, ts, kvs, rfl, h1, by omega, g, hR, hD, dc, nRD, by omega, fun kvs1 H1 k1 hR1 hD1 dc1 => ?_⟩
          obtain ⟨g1, i1, m1, e1⟩ := dd_tree a g
          have l1 := dd_len a.all ts
          rw [Tr.T.all_len] at l1
          refine ⟨_, rfl, a0, _, 2, y, rfl, rfl, .of (k1.tups _ _ ha), rfl, _, rfl, _, rfl, y, R, D, b, dd ts a.all, kvs1, rfl, h2.ke k1, by omega, g1, hR1, hD1, dc1, nRD, by omega, fun kvs2 H2 k2 hR2 hD2 dc2 => ?_⟩
          obtain ⟨g2, i2, m2, e2⟩ := dd_tree b g1
          have l2 := dd_len b.all (dd ts a.all)
          rw [Tr.T.all_len] at l2
          have k12 := k1.trans k2
          have i3 : a ∈ dd (dd ts a.all) b.all := by
            rw [e2]
            exact List.mem_append_left _ i1
          refine ⟨_, rfl, _, rfl, _, rfl, a0, _, 3, .int k, rfl, rfl, .of (k12.tups _ _ ha), rfl, by show 4 ≤ sizeLine; decide, fun p H3 np s3 hp _ => ?_⟩
          have e3 : ix (dd ts a.all) a = ix (dd (dd ts a.all) b.all) a := by
            rw [e2, ix_app i1]
          rw [e3] at hp
          exact ⟨p, _, _, dd (dd ts a.all) b.all, kvs2, rfl, k12.trans (.same s3), hp, g2, ⟨i3, i2⟩, hR2.ke (Ke.same (F := Nof) s3) fun z => z, s3 _ _ hD2, dc2, dd_cut ts a b k, by omega⟩
      rintro σ' H1 ⟨x, y4, y5, ts2, kvs2, rfl, k1, hx, g2, i2, hR1, hD1, dc1, e, sz2⟩
      rw [e] at q
      -- is it new
      refine Evl.q_cut (M := fun σ' H' => ∃ kvs3 : List (List Key × V), σ' = [some v, some (.ref R), some (.ref D), some (.ref x), y4, y5] ∧ Ke (RD R D) H H' ∧ H' x = some (.tup (rowOf (dd1 ts2 t) t).vs) ∧ RwL H' R (rws (dd1 ts2 t)) ∧ H' D = some (.dT kvs3) ∧ Dc (dd1 ts2 t) kvs3) ?_ ?_
      · refine ⟨_, rfl, _, rfl, D, _, rfl, DGet.t (k := keyR (rowOf ts2 t)) hD1 (by rw [keyR_v]; exact hx), _, rfl, ite2 (fun c1 => ?_) (fun c1 => ?_)⟩
        · have nin : t ∉ ts2 := fun z => by
            have c1 : (!(valV kvs2 (keyR (rowOf ts2 t))).isSome) = true := c1
            rw [dc1.at t z] at c1
            cases c1
          obtain ⟨ws, hW, aW⟩ := hR1
          have lw := aW.1
          rw [rws_len] at lw
          refine ⟨_, rfl, R, _, rfl, .inl (.of hW), _, rfl, _, rfl, D, _, rfl, DPut.t (k := keyR (rowOf ts2 t)) hD1 (by rw [keyR_v]; exact hx) (small1000 (by have := dc1.ln; omega)), ?_⟩
          rw [lw]
          have hD2 : upd H1 D (.dT (putK kvs2 (keyR (rowOf ts2 t)) (.int (ts2.length : Nat)))) D = some (.dT (putK kvs2 (keyR (rowOf ts2 t)) (.int (ts2.length : Nat)))) := upd_same
          have k2 : Ke (RD R D) H (upd H1 D (.dT (putK kvs2 (keyR (rowOf ts2 t)) (.int (ts2.length : Nat))))) := ke_put k1 (.inr rfl) hD1
          have k12 : Ke (· = D) H1 (upd H1 D (.dT (putK kvs2 (keyR (rowOf ts2 t)) (.int (ts2.length : Nat))))) := ke_put (.refl _ _) rfl hD1
          have hW2 := k12.keep _ _ hW (fun ps z => nomatch z) nRD
          generalize upd H1 D (.dT (putK kvs2 (keyR (rowOf ts2 t)) (.int (ts2.length : Nat)))) = H2 at hD2 k2 k12 hW2
          have hx2 := k12.tups _ _ hx
          refine ⟨_, rfl, .inl ⟨rfl, _, .of hW2⟩, _, rfl, R, _, _, rfl, rfl, hW2, small1000 (by omega), ?_⟩
          have ed : dd1 ts2 t = ts2 ++ [t] := pick_neg nin
          rw [ed]
          refine ⟨_, rfl, ke_wr k2 (.inl rfl) hW2, ?_, ?_, by rw [upd_ne (Ne.symm nRD)]; exact hD2, dc1.snoc g2 nin i2⟩
          · rw [rowOf_app i2, upd_ne (fun z => by rw [z, hW2] at hx2; cases hx2)]
            exact hx2
          · rw [rws_snoc g2 i2]
            exact ⟨_, upd_same, All2.snoc (aW.imp fun _ _ r => RowAt.wr (r.ke k12) hW2) (RowAt.wr ⟨x, rfl, hx2⟩ hW2)⟩
        · have inn : t ∈ ts2 := Classical.byContradiction fun z => c1 (by
            show (!(valV kvs2 (keyR (rowOf ts2 t))).isSome) = true
            rw [dc1.no _ (rws_no g2 z i2)]
            rfl)
          have ed : dd1 ts2 t = ts2 := pick_pos inn
          rw [ed]
          exact ⟨kvs2, rfl, k1, hx, hR1, hD1, dc1⟩
      rintro σ' H2 ⟨kvs3, rfl, k2, hx2, hR2, hD2, dc2⟩
      have gg := DGet.t (k := keyR (rowOf (dd1 ts2 t) t)) hD2 (by rw [keyR_v]; exact hx2)
      rw [dc2.at t (dd1_step g2 i2).2.1] at gg
      exact ⟨_, rfl, _, rfl, D, _, rfl, gg, q kvs3 H2 k2 hR2 hD2 dc2⟩
abbrev sRof : Stmt := topS 28
theorem scRof : FnScope ["tree", "rows"] ["tree"] (defScope sRof) := ⟨rfl, rfl, rfl, by decide +kernel, rfl, by decide +kernel, by decide +kernel⟩
def spRof (d : Nat) : Sp := fun vs H Q _ => ∃ (v : V) (t : T), vs = [v] ∧ At H t v ∧ t.depth ≤ d ∧ t.pieces ≤ 400 ∧ ∀ R H', H R = none → Ke Nof H H' → RwL H' R (rws (dd [] t.all)) → Q (.ref R) H'
theorem ok_rof {f fP : Addr} {fd fdP : FuncData} (F : Fun K "rows_of" "rows_of" sRof f fd) (FP : Fun K "put_rows" "put_rows" sPut fP fdP) (bP : Binds K fdP ["tree", "rows", "numbers"] []) (gP : mg "put_rows" = some (.ref fP)) (d : Nat) (GP : FnOk P w K mg base CX0 (d + 1) fP fdP ["tree", "rows", "numbers"] (spPut d)) :
    FnOk P w K mg base CX0 (d + 2) f fd ["tree"] (spRof d) := by
  refine F.ok scRof (fun vs H Q E h => ?_) (fun cdv A outer s H vs Q E hr h => ?_)
  · obtain ⟨v, t, rfl, _⟩ := h
    rfl
  · obtain ⟨v, t, rfl, ht, hd, hp, q⟩ := h
    have hrd : Room (d + 1) _ := hr
    refine ⟨_, (pss_cons (ps_set (i := 1) scRof.nd rfl (.inl rfl) (pe_lstN pa_nil))
      (Evl.pss_cut (ps_expr (pe_call GP hrd (by rfl) gP FP.kp bP .nil pass0 (pa_cons (pv 0) (pa_cons (pv 1) (pa_cons pe_dnewT pa_nil)))))
      (pss_one (ps_ret (pv 1))))), ?_⟩
    refine ⟨Nat.zero_le _, fun R H1 nR s1 hR _ => ?_⟩
    refine Evl.q_cut (M := fun σ' H' => σ' = [some v, some (.ref R)] ∧ Ke Nof H H' ∧ RwL H' R (rws (dd [] t.all))) ?_ ?_
    · refine ⟨_, rfl, _, rfl, fun D nD => ?_⟩
      have s2 : Same H1 (upd H1 D (.dT [])) := same_new nD
      have k2 : Ke Nof H (upd H1 D (.dT [])) := .same (s1.trans s2)
      refine ⟨v, R, D, t, [], [], rfl, ht.ke k2, hd, .nil, ⟨[], s2 _ _ hR, .nil⟩, upd_same, .nil, ne_of_none hR nD, by simp only [List.length_nil]; omega, fun kvs' H3 k3 hR3 _ _ => ?_⟩
      refine ⟨rfl, keN k2 k3 fun z hz => ?_, hR3⟩
      rcases hz with rfl | rfl
      · exact nR
      · exact s1.free nD
    rintro σ' H2 ⟨rfl, k2, hR2⟩
    exact ⟨_, rfl, q R H2 nR k2 hR2⟩
end
end Ro
namespace Tl
open PySem PySem.Spec PyProof.Rows L2 GxR Nw Dr Kp Se Cl Ct Lr Lp Tr
section
variable {P : Program} {w : World} {K : PySem.W.Frag} {mg : Str → Option Value} {base : Heap}
/-- a book and a tree by it -/
def spTr (B0 : Nat) : Sp := fun vs H Q _ => ∃ (f c : Addr) (B : Nat), vs = [.ref f] ∧ Feed H f c B ∧ B ≤ 2 ^ 40 ∧
  ∀ (p : Addr) (b x : V) (css : List (List Int)) (t : Tr.T) (ct : List Int) (H' : Hp), Feed H' f c (B + B0) → Ke (· = f) H H' → H' p = some (.tup [b, x]) → Bk H' b css → (∀ c ∈ css, IsCl c) → At H' t x → Tr.Cl css t ct → t.depth ≤ 40 → t.pieces ≤ 100 → css.length ≤ 16 → Q (.ref p) H'
abbrev sSts : Stmt := topS 38
abbrev nSts : List Str := ["feed", "book"]
theorem scSts : FnScope nSts ["feed"] (defScope sSts) := ⟨rfl, rfl, rfl, by decide +kernel, rfl, by decide +kernel, by decide +kernel⟩
theorem ok_sts {f fD fT fB fS : Addr} {fd fdD fdT fdB fdS : FuncData} {k : Nat} (F : Fun K "_law_stree_case" "_law_stree_case" sSts f fd) (FD : Fun K "_law_sdraw" "_law_sdraw" sDrw fD fdD) (bD : Binds K fdD ["feed", "many"] []) (gD : mg "_law_sdraw" = some (.ref fD)) (GD : FnOk P w K mg base CX0 2 fD fdD ["feed", "many"] spDrw)
    (FT : Fun K "_law_sthings" "_law_sthings" sThg fT fdT) (bT : Binds K fdT ["feed", "least", "most"] []) (gT : mg "_law_sthings" = some (.ref fT)) (GT : FnOk P w K mg base CX0 3 fT fdT ["feed", "least", "most"] spThg)
    (FB : Fun K "_law_sbook" "_law_sbook" sBok fB fdB) (bB : Binds K fdB ["feed", "things", "most"] []) (gB : mg "_law_sbook" = some (.ref fB)) (GB : FnOk P w K mg base CX0 4 fB fdB ["feed", "things", "most"] spBok)
    (FS : Fun K "_law_stree" "_law_stree" sStt fS fdS) (bS : Binds K fdS ["feed", "book", "deep"] []) (gS : mg "_law_stree" = some (.ref fS)) (GS : FnOk P w K mg base CX0 13 fS fdS ["feed", "book", "deep"] (spStt 10)) :
    FnOk P w K mg base CX0 (k + 14) f fd ["feed"] (spTr 20000) := by
  refine F.ok scSts (fun vs H Q E h => ?_) (fun cdv A outer s H vs Q E hr h => ?_)
  · obtain ⟨f, c, B, rfl, _⟩ := h
    rfl
  · obtain ⟨f, c, B, rfl, hF, hB, q⟩ := h
    have hr2 : Room 2 _ := hr.mono (by omega)
    have hr3 : Room 3 _ := hr.mono (by omega)
    have hr4 : Room 4 _ := hr.mono (by omega)
    have hr13 : Room 13 _ := hr.mono (by omega)
    refine ⟨_, (Evl.pss_cut (ps_set (i := 1) scSts.nd rfl (.inl rfl) (pe_call GB hr4 (by rfl) gB FB.kp bB .nil pass0 (pa_cons (pv 0) (pa_cons (pe_call GT hr3 (by rfl) gT FT.kp bT .nil pass0 (pa_cons (pv 0) (pa_cons pe_int (pa_cons pe_int pa_nil)))) (pa_cons pe_int pa_nil)))))
      (pss_one (ps_ret (pe_tupN (pa_cons (pv 1) (pa_cons (pe_ix ix_tup (pe_call GS hr13 (by rfl) gS FS.kp bS .nil pass0 (pa_cons (pv 0) (pa_cons (pv 1) (pa_cons (pe_op op_add pe_int (pe_call GD hr2 (by rfl) gD FD.kp bD .nil pass0 (pa_cons (pv 0) (pa_cons pe_int pa_nil)))) pa_nil)))) pe_int (fun _ _ => rfl)) pa_nil)))))), ?_⟩
    refine Evl.q_cut (M := fun σ' H' => ∃ (b : V) (css : List (List Int)), σ' = [some (.ref f), some b] ∧ Feed H' f c (B + 600) ∧ Ke (· = f) H H' ∧ Bk H' b css ∧ (∀ c ∈ css, IsCl c) ∧ 1 ≤ css.length ∧ css.length ≤ 16) ?_ ?_
    · refine ⟨_, rfl, _, rfl, f, c, 2, 5, B, rfl, by decide, by decide, by decide, hF, by omega, fun ks t H1 F1 k1 fr ht Tk l1 l2 => ?_⟩
      have ntf := (not_f fr hF).1
      refine ⟨f, c, t, 7, _, ks, rfl, by decide, by decide, ht, Tk, (fun z => by rw [z] at l1; exact absurd l1 (by decide)), ntf, F1, by omega, fun css p H2 F2 k2 _ hb hc m1 m2 => ?_⟩
      exact ⟨_, css, rfl, F2.mono (by omega), k1.trans k2, hb, fun c hc' => (hc c hc').1, m1, by omega⟩
    rintro σ' H1 ⟨b, css, rfl, F1, k1, hb, ib, m1, m2⟩
    refine ⟨_, rfl, _, rfl, _, rfl, _, rfl, f, c, 4, _, rfl, by decide, by decide, F1, by omega, fun d H2 d0 d1 F2 b2 => ?_⟩
    have k2 : Ke (· = f) H1 H2 := .but F1 b2
    have g4 : 4 ^ ((2 + d).toNat + 1) ≤ 4096 := Nat.le_trans (pow_le (show (2 + d).toNat + 1 ≤ 6 by omega)).1 (by decide)
    have g2 : 2 ^ ((2 + d).toNat + 1) ≤ 64 := Nat.le_trans (pow_le (show (2 + d).toNat + 1 ≤ 6 by omega)).2 (by decide)
    refine ⟨_, _, rfl, rfl, f, c, b, (2 + d).toNat, _, css, ?_, by omega, by omega, hb.ke k2, ib, m1, by omega, F2, by omega, fun v t ct H3 F3 k3 tc cl dp pc => ?_⟩
    · show [V.ref f, b, V.int (2 + d)] = _
      rw [show (((2 + d).toNat : Nat) : Int) = 2 + d by omega]
    obtain ⟨p, x, y, rfl, hp, hx, hy⟩ := tc
    refine ⟨p, _, 0, x, rfl, rfl, .of hp, rfl, ?_⟩
    refine ⟨by show 2 ≤ sizeLine; decide, fun pp H4 np s4 hpp _ => ?_⟩
    have k34 : Ke (· = f) H3 H4 := .same s4
    have k14 : Ke (· = f) H1 H4 := (k2.trans k3).trans k34
    exact q pp b x css t ct H4 ((F3.same s4).mono (by omega)) (k1.trans k14) hpp (hb.ke k14) ib (At.ke k34 hx) cl (by omega) (by omega) m2

end
end Tl
namespace K23
open PySem PySem.Spec PyProof.Rows L2 GxR Nw Dr Kp Se Cl Ct Lr Lp Ll Od Tr Bkg Bkp Ro
open Tl (spTr sSts spSpc sSpc)
structure Zk (mg : Str → Option Value) : Prop where
  z_len : mg "len" = none
  z_range : mg "range" = none
  z_list : mg "list" = none
  z_isinstance : mg "isinstance" = none
  z_repr : mg "repr" = none
theorem mt_indexDB {X : Cx} {K : PySem.W.Frag} (hk : X.K = K) (hu : X.A.units + 65 < cLine) : MtR X "list.index" (rIndexD K) := by
  rw [← hk]
  exact mt_indexD hu
theorem pe_bmB {X : Cx} {K : PySem.W.Frag} {o e : Expr} {es : List Expr} {to : TE} {t : TA} {name : Str} {apos cpos : Pos} {T id : String} {r : V → List V → Hp → VK → Prop} (hk : X.K = K)
    (pa : PlainAttrs T) (slot : Slot T name id) (hty : typeOf (.builtin id) = pure (.type "method_descriptor")) (hm : MtR X id r) (ho : PE X o to) (ha : PA X (e :: es) t)
    (hbase : attributeBase o name X.env (eval o X.env) = eval o X.env := by rfl)
    (hfew : ((backTo cpos (starEach (e :: es) X.env)).all (fun x => !x.1) && (backToKw cpos (keywordEach [] X.env)).all (fun x => x.1.isSome)
      && decide ((e :: es).length + ([] : List Keyword).length + (if ([] : List Keyword).isEmpty then 0 else 1) < 30)) = true := by rfl)
    (hline : (apos.endLine == cpos.line) = true := by rfl) (hs : starEach (e :: es) X.env = (false, eval e X.env) :: starEach es X.env := by rfl) (hplain : (backTo cpos (starEach es X.env)).any (·.1) = false := by rfl) :
    PE X (.Call (.Attribute o name apos) (e :: es) [] cpos) (tBM K T r to t) := by
  subst hk
  exact pe_bm pa slot hty hm ho ha hbase hfew hline hs hplain
section
variable {P : Program} {w : World} {K : PySem.W.Frag} {mg : Str → Option Value} {base : Heap}
theorem cut_13 (a b c d : V) : cutV [a, b, c, d] (some 1) (some 3) = [b, c] := by rfl
abbrev sSdu : Stmt := topS 40
abbrev nSdu : List Str := ["tree", "some", "piece", "rows", "i", "j", "part"]
theorem scSdu : FnScope nSdu ["tree"] (defScope sSdu) := ⟨rfl, rfl, rfl, by decide +kernel, rfl, by decide +kernel, by decide +kernel⟩
def spSdu : Sp := fun vs H Q _ => ∃ (v : V) (t : T), vs = [v] ∧ At H t v ∧ t.depth ≤ 40 ∧ t.pieces ≤ 400 ∧ (∀ s ∈ t.all, s.depth ≤ 40) ∧ ∀ R H', Ke Nof H H' → RwL H' R (rws (dd [] t.all)) → Q (.ref R) H'
theorem ok_sdu {f fP : Addr} {fd fdP : FuncData} {k : Nat} (F : Fun K "_law_s_due" "_law_s_due" sSdu f fd)
    (FP : Fun K "_law_spieces" "_law_spieces" sSpc fP fdP) (bP : Binds K fdP ["tree"] []) (gP : mg "_law_spieces" = some (.ref fP)) (GP : FnOk P w K mg base CX0 41 fP fdP ["tree"] (spSpc 40)) :
    FnOk P w K mg base CX0 (k + 42) f fd ["tree"] spSdu := by
  refine F.ok scSdu (fun vs H Q E h => ?_) (fun cdv A outer s H vs Q E hr h => ?_)
  · obtain ⟨v, t, rfl, _⟩ := h
    rfl
  · obtain ⟨v, t, rfl, ht, hd, hp, hal, q⟩ := h
    have hr41 : Room 41 _ := hr.mono (by omega)
    have hu : (A.deeper (envOfC "_law_s_due" (defScope sSdu) s.heap.objs.size f cdv)).units + 65 < cLine := by
      have := hr.un
      omega
    refine ⟨_, (Evl.pss_cut (ps_set (i := 1) scSdu.nd rfl (.inr rfl) (pe_lstN pa_nil))
      (Evl.pss_cut (ps_for PassesOwn.never rfl (pi_list (pe_call GP hr41 (by rfl) gP FP.kp bP .nil pass0 (pa_cons (pv 0) pa_nil))) (pg_name (i := 2) scSdu.nd rfl (.inl rfl)) (pss_one (ps_if (pt_cmpR (op_notInD hu) (pv 2) (pv 1) (by rfl)) (pss_one (ps_expr (pe_bm PySem.F.plainAttrs_list PySem.F.slot_list_append PySem.F.type_list_append mt_append (pv 1) (pa_cons (pv 2) pa_nil)))) pss_nil)))
      (Evl.pss_cut (ps_set (i := 3) scSdu.nd rfl (.inl rfl) (pe_lstN pa_nil))
      (Evl.pss_cut (ps_for PassesOwn.never rfl (pi_list (pv 1)) (pg_name (i := 2) scSdu.nd rfl (.inl rfl)) (Evl.pss_cut (ps_if (pt_cmpR op_eq (pe_ix ix_tup (pv 2) pe_int (fun _ _ => rfl)) pe_str (nomark _)) (pss_cons (ps_asg (pe_lc (own := [("part", 6)]) (g := (gName 6)) (tt := tYes) rfl scSdu.nd (pi_tup (pe_slice sl_tupN (pv 2) (po_some pe_int) (po_some pe_int))) (blkOk_by (N := nSdu) (sc := defScope sSdu) (by decide +kernel)) (fun _ _ _ _ _ => (pg_name (i := 6) scSdu.nd rfl (.inl rfl))) (fun _ _ _ _ _ => pts_nil) (fun _ _ _ _ _ => (pe_bmB (K := K) rfl PySem.F.plainAttrs_list PySem.F.slot_list_index PySem.F.type_list_index (mt_indexDB (K := K) rfl hu) (pv 1) (pa_cons (pv 6) pa_nil)))) (pg_lst rfl (pgs_cons (pg_name (i := 4) scSdu.nd rfl (.inl rfl)) (pgs_cons (pg_name (i := 5) scSdu.nd rfl (.inl rfl)) pgs_nil))))
      (pss_one (ps_set (i := 2) scSdu.nd rfl (.inl rfl) (pe_tupN (pa_cons pe_str (pa_cons (pv 4) (pa_cons (pv 5) (pa_cons (pe_ix ix_tup (pv 2) pe_int (fun _ _ => rfl)) pa_nil)))))))) pss_nil)
      (pss_one (ps_expr (pe_bm PySem.F.plainAttrs_list PySem.F.slot_list_append PySem.F.type_list_append mt_append (pv 3) (pa_cons (pv 2) pa_nil))))))
      (pss_one (ps_ret (pv 3))))))), ?_⟩
    have g := gd_all t
    have ta := Tr.T.all_len t
    have dl := dd_len t.all []
    rw [ta, List.length_nil] at dl
    have dall : ∀ s ∈ dd [] t.all, s.depth ≤ 40 := fun s hs => hal s ((dd_sub t.all [] s hs).resolve_left fun z => (nomatch z))
    -- some
    refine Evl.q_cut (M := fun σ' H' => ∃ S : Addr, σ' = [some v, some (.ref S), none, none, none, none, none] ∧ H S = none ∧ Same H H' ∧ H' S = some (.lst [])) ?_ ?_
    · exact ⟨Nat.zero_le _, fun S H1 nS s1 hS _ => ⟨S, rfl, nS, s1, hS⟩⟩
    rintro σ' H1 ⟨S, rfl, nS, s1, hS⟩
    refine Evl.q_cut (M := fun σ' H' => ∃ (y2 : Option V) (svs : List V), σ' = [some v, some (.ref S), y2, none, none, none, none] ∧ Ke Nof H H' ∧ H' S = some (.lst svs) ∧ All2 (fun v t => At H' t v) svs (dd [] t.all)) ?_ ?_
    · refine ⟨_, rfl, v, t, rfl, ht.ke (Ke.same (F := Nof) s1), hd, by omega, fun p vs H2 np s2 hp2 a2 => ?_⟩
      refine ⟨p, rfl, ⟨_, .of hp2⟩, for_list (K := K) (a := p) (xs := vs) (Pv := fun i σ H' => ∃ (y2 : Option V) (svs : List V), σ = [some v, some (.ref S), y2, none, none, none, none] ∧ Ke (· = S) H2 H' ∧ H' S = some (.lst svs) ∧ All2 (fun v t => At H' t v) svs (dd [] (t.all.take i))) ?_ (fun i σ H' _ z => ?_) ?_ ?_⟩
      · exact ⟨none, [], rfl, .refl _ _, s2 _ _ hS, .nil⟩
      · obtain ⟨_, _, _, k3, _⟩ := z
        exact .of (k3.lst hp2 fun z => ne_of_none hS np z.symm)
      · rintro i x σ H3 hx ⟨y2, svs, rfl, k3, hS3, aS⟩
        obtain ⟨sb, hsb, av⟩ := a2.at hx
        have av3 := av.ke k3
        have li := (List.getElem?_eq_some_iff.mp hsb).1
        have dl2 := dd_len (t.all.take i) []
        rw [List.length_take, List.length_nil] at dl2
        have la := aS.1
        have dsub : ∀ s ∈ dd [] (t.all.take i), s.depth ≤ 40 := fun s hs => hal s (List.mem_of_mem_take ((dd_sub _ [] s hs).resolve_left fun z => (nomatch z)))
        have dsb := hal sb (List.mem_of_getElem? hsb)
        have sn := dd_snoc [] (t.all.take i) sb
        rw [← take_snoc hsb] at sn
        refine ⟨_, rfl, _, rfl, tdt sb, (dd [] (t.all.take i)).map tdt, Bkg.dp_tree av3, .lst (.of hS3) (dp_ts aS), shaped_t dsb, shaped_ts dsub, _, rfl, ite2 (fun e => ?_) (fun e => ?_)⟩
        · have nin : sb ∉ dd [] (t.all.take i) := fun z => by
            rw [(any_tdt _ _).mpr z] at e
            cases e
          refine ⟨_, rfl, .inl ⟨rfl, _, .of hS3⟩, _, rfl, S, _, _, rfl, rfl, hS3, small1000 (by omega), ?_⟩
          have ed : dd1 (dd [] (t.all.take i)) sb = dd [] (t.all.take i) ++ [sb] := pick_neg nin
          refine ⟨_, _, rfl, Ro.ke_wr k3 rfl hS3, upd_same, ?_⟩
          rw [sn, ed]
          exact All2.snoc (aS.imp fun _ _ h => h.wr hS3) (av3.wr hS3)
        · have inn : sb ∈ dd [] (t.all.take i) := Classical.byContradiction fun z => e (by
            have : ((dd [] (t.all.take i)).map tdt).any (fun z => PyData.eqv z (tdt sb)) = false := Bool.eq_false_iff.mpr fun y => z ((any_tdt _ _).mp y)
            rw [this]
            rfl)
          have ed : dd1 (dd [] (t.all.take i)) sb = dd [] (t.all.take i) := pick_pos inn
          refine ⟨_, svs, rfl, k3, hS3, ?_⟩
          rw [sn, ed]
          exact aS
      · rintro σ H3 ⟨y2, svs, rfl, k3, hS3, aS⟩
        rw [a2.1, List.take_length] at aS
        exact ⟨y2, svs, rfl, keN (.same (s1.trans s2)) k3 fun z e => by rw [e]; exact nS, hS3, aS⟩
    rintro σ' H2 ⟨y2, svs, rfl, k2, hS2, aS⟩
    have la := aS.1
    -- rows
    refine Evl.q_cut (M := fun σ' H' => ∃ R : Addr, σ' = [some v, some (.ref S), y2, some (.ref R), none, none, none] ∧ H2 R = none ∧ Same H2 H' ∧ H' R = some (.lst [])) ?_ ?_
    · exact ⟨Nat.zero_le _, fun R H3 nR s3 hR _ => ⟨R, rfl, nR, s3, hR⟩⟩
    rintro σ' H3 ⟨R, rfl, nR, s3, hR⟩
    have hS3 := s3 _ _ hS2
    have k3 : Ke Nof H H3 := k2.trans (.same s3)
    refine Evl.q_cut (M := fun σ' H' => ∃ (y2 y4 y5 y6 : Option V), σ' = [some v, some (.ref S), y2, some (.ref R), y4, y5, y6] ∧ Ke Nof H2 H' ∧ RwL H' R (rws (dd [] t.all))) ?_ ?_
    · refine ⟨_, rfl, S, rfl, ⟨_, .of hS3⟩, for_list (K := K) (a := S) (xs := svs) (Pv := fun i σ H' => ∃ (y2 y4 y5 y6 : Option V), σ = [some v, some (.ref S), y2, some (.ref R), y4, y5, y6] ∧ Ke Nof H2 H' ∧ RwL H' R ((rws (dd [] t.all)).take i)) ?_ (fun i σ H' _ z => ?_) ?_ ?_⟩
      · exact ⟨_, none, none, none, rfl, .same s3, [], hR, .nil⟩
      · obtain ⟨_, _, _, _, _, k4, _⟩ := z
        exact .of (k4.lst hS2 fun z => z)
      · rintro i x σ H4 hx ⟨y2', y4, y5, y6, rfl, k4, rvs, hR4, aR⟩
        obtain ⟨sb, hsb, av⟩ := aS.at hx
        have li := (List.getElem?_eq_some_iff.mp hsb).1
        have lr := aR.1
        rw [List.length_take, rws_len] at lr
        have hS4 := k4.lst hS2 fun z => z
        have aS4 : All2 (fun v t => At H4 t v) svs (dd [] t.all) := aS.imp fun _ _ h => h.ke k4
        have i2 := g.in2 (List.mem_of_getElem? hsb)
        have tk := take_snoc (rws_at hsb)
        have av4 := av.ke k4
        -- its row
        refine Evl.q_cut (M := fun σ' H' => ∃ (x' : V) (y4 y5 y6 : Option V), σ' = [some v, some (.ref S), some x', some (.ref R), y4, y5, y6] ∧ Same H4 H' ∧ RowAt H' x' (rowOf (dd [] t.all) sb)) ?_ ?_
        · cases sb with
          | leaf n =>
            obtain ⟨a, rfl, ha⟩ := av4
            exact ⟨_, rfl, a, _, 0, .str "book", rfl, rfl, .of ha, rfl, rfl, false, by simp; decide, _, y4, y5, y6, rfl, Same.refl _, a, rfl, ha⟩
          | cut a b k0 =>
            obtain ⟨a0, xa, xb, rfl, ha, h1, h2⟩ := av4
            obtain ⟨ia, ib⟩ := i2
            refine ⟨_, rfl, a0, _, 0, .str "cut", rfl, rfl, .of ha, rfl, rfl, true, by simp, ?_⟩
            refine ⟨_, rfl, _, rfl, _, rfl, a0, _, rfl, ha, fun W H5 s5 hW => ?_⟩
            rw [show cutV [V.str "cut", xa, xb, .int k0] (some 1) (some 3) = [xa, xb] from cut_13 _ _ _ _] at hW
            refine ⟨W, rfl, ⟨_, .of hW⟩, fun Z nZ => ?_⟩
            refine lc_tup (xs := [xa, xb]) (Pv := fun u H' => Same H5 H' ∧ H' Z = some (.lst ([V.int (ix (dd [] t.all) a : Nat), V.int (ix (dd [] t.all) b : Nat)].take u))) ⟨same_new nZ, upd_same⟩ (fun u H' _ z => .of (z.1 _ _ hW)) ?_ ?_
            · rintro u x H6 hx' ⟨s6, hZ⟩
              have key : ∃ c : T, At H4 c x ∧ c ∈ dd [] t.all ∧ [V.int (ix (dd [] t.all) a : Nat), V.int (ix (dd [] t.all) b : Nat)][u]? = some (V.int (ix (dd [] t.all) c : Nat)) := by
                match u, hx' with
                | 0, hx' =>
                  obtain rfl := Option.some.inj hx'
                  exact ⟨a, h1, ia, rfl⟩
                | 1, hx' =>
                  obtain rfl := Option.some.inj hx'
                  exact ⟨b, h2, ib, rfl⟩
              have lu : u < 2 := (List.getElem?_eq_some_iff.mp hx').1
              obtain ⟨c, hc, ic, hu'⟩ := key
              have s56 := s5.trans s6
              have hm := ix_mem ic
              refine ⟨rfl, _, rfl, .inl ⟨rfl, _, .of (s56 _ _ hS4)⟩, _, rfl, S, x, tdt c, (dd [] t.all).map tdt, ix (dd [] t.all) c, tdt c, rfl, rfl, .lst (.of (s56 _ _ hS4)) (dp_ts (aS4.imp fun _ _ h => h.ke (Ke.same (F := Nof) s56))), Bkg.dp_tree (hc.ke (Ke.same (F := Nof) s56)), shaped_ts dall, shaped_t (dall c ic), ?_, (eqv_tdt c c).mpr rfl, fun m z' lm hz => ?_, ?_⟩
              · rw [List.getElem?_map, hm]
                rfl
              · rw [List.getElem?_map] at hz
                obtain ⟨z0, hz0, rfl⟩ := Option.map_eq_some_iff.mp hz
                exact Bool.eq_false_iff.mpr fun y => ix_before lm hz0 ((eqv_tdt _ _).mp y)
              · refine ⟨_, hZ, small1000 (by rw [List.length_take]; omega), fun b o e => ?_, ?_⟩
                · rw [upd_ne (ne_of_none e nZ)]
                  exact s6 _ _ e
                · rw [upd_same, take_snoc hu']
            · rintro H6 ⟨s6, hZ⟩
              have s46 := s5.trans s6
              refine ⟨Z, _, rfl, .of hZ, rfl, _, _, rfl, _, _, rfl, rfl, ?_⟩
              refine ⟨_, rfl, _, rfl, _, rfl, a0, _, 3, .int k0, rfl, rfl, .of (s46 _ _ ha), rfl, by show 4 ≤ sizeLine; decide, fun p H7 np s7 hp _ => ?_⟩
              exact ⟨_, _, _, _, rfl, s46.trans s7, p, rfl, hp⟩
        rintro σ' H5 ⟨x', y4', y5', y6', rfl, s5, rx⟩
        have hR5 := s5 _ _ hR4
        refine ⟨_, rfl, .inl ⟨rfl, _, .of hR5⟩, _, rfl, R, _, _, rfl, rfl, hR5, small1000 (by omega), ?_⟩
        refine ⟨_, _, _, _, rfl, (k4.trans (.same s5)).upd nR, ?_⟩
        rw [tk]
        exact ⟨_, upd_same, All2.snoc (aR.imp fun _ _ r => RowAt.wr (r.ke (Ke.same (F := Nof) s5)) hR5) (RowAt.wr rx hR5)⟩
      · rintro σ H4 ⟨y2', y4, y5, y6, rfl, k4, hR4⟩
        rw [la, ← rws_len, List.take_length] at hR4
        exact ⟨_, _, _, _, rfl, k4, hR4⟩
    rintro σ' H4 ⟨y2', y4, y5, y6, rfl, k4, hR4⟩
    exact ⟨_, rfl, q R H4 (k2.trans k4) hR4⟩
abbrev sSri : Stmt := topS 41
abbrev nSri : List Str := ["book", "tree", "due", "again", "told"]
theorem scSri : FnScope nSri ["book", "tree"] (defScope sSri) := ⟨rfl, rfl, rfl, by decide +kernel, rfl, by decide +kernel, by decide +kernel⟩
def spSri (Po : Addr) : Sp := fun vs H Q _ => ∃ (b v : V) (css : List (List Int)) (t : T) (c : List Int), vs = [b, v] ∧ Bk H b css ∧ (∀ c ∈ css, IsCl c) ∧ css.length ≤ 16 ∧ At H t v ∧ Tr.Cl css t c ∧ t.depth ≤ 40 ∧ t.pieces ≤ 100 ∧ TabG H Po ∧ ∀ H', Ke Nof H H' → Q (.bl true) H'
theorem ok_sri {f fU fW fT Po C : Addr} {fd fdU fdW fdT : FuncData} {k : Nat} (F : Fun K "_law_s_right" "_law_s_right" sSri f fd) (T : Zk mg)
    (FU : Fun K "_law_s_due" "_law_s_due" sSdu fU fdU) (bU : Binds K fdU ["tree"] []) (gU : mg "_law_s_due" = some (.ref fU)) (GU : FnOk P w K mg base CX0 42 fU fdU ["tree"] spSdu)
    (FW : Fun K "rows_of" "rows_of" sRof fW fdW) (bW : Binds K fdW ["tree"] []) (gW : mg "rows_of" = some (.ref fW)) (GW : FnOk P w K mg base CX0 42 fW fdW ["tree"] (spRof 40))
    (FT : Fun K "tree_of" "tree_of" sTof fT fdT) (bT : Binds K fdT ["book", "ladder"] []) (gT : mg "tree_of" = some (.ref fT)) (GT : Gx2.FnX P w K mg base CX0 10 fT fdT ["book", "ladder"] (fun vs H Q _ => spTof C Po vs H Q fun _ _ _ => False)) :
    Gx2.FnX P w K mg base CX0 (k + 43) f fd ["book", "tree"] (spSri Po) := by
  refine Gx2.okX F scSri (fun vs H Q E h => ?_) (fun cdv A outer s H vs Q E gd0 hr h => ?_)
  · obtain ⟨b, v, css, t, c, rfl, _⟩ := h
    rfl
  · obtain ⟨b, v, css, t, c, rfl, hb, ib, c16, ht, ct, hd, hp, tg, q⟩ := h
    have gd : (A.deeper (envOfC "_law_s_right" (defScope sSri) s.heap.objs.size f cdv)).guards = some [] := gd0
    have hr10 : Room 10 _ := hr.mono (by omega)
    have hr42 : Room 42 _ := hr.mono (by omega)
    have hu : (A.deeper (envOfC "_law_s_right" (defScope sSri) s.heap.objs.size f cdv)).units + 70 < cLine := by
      have := hr.un
      omega
    refine ⟨_, (PSs.nox (Evl.pss_cut (ps_set (i := 2) scSri.nd rfl (.inl rfl) (pe_call GU hr42 (by rfl) gU FU.kp bU .nil pass0 (pa_cons (pv 1) pa_nil)))
      (Evl.pss_cut (ps_for PassesOwn.never rfl (pi_range1 (by rfl) T.z_range (pa_cons pe_int pa_nil)) (pg_name (i := 3) scSri.nd rfl (.inl rfl)) (Evl.pss_cut (ps_set (i := 4) scSri.nd rfl (.inl rfl) (pe_call GW hr42 (by rfl) gW FW.kp bW .nil pass0 (pa_cons (pv 1) pa_nil)))
      (Evl.pss_cut (ps_if (PW.pt (pw_or (pt_not (pt_val (pe_callB call_isi (by rfl) T.z_isinstance (by decide +kernel) (pa_cons (pv 4) (pa_cons (pe_bltn (v := .ty "list") (u := .type "list") (by rfl) T.z_list (by decide +kernel) rfl) pa_nil))))) (pw_or1 (pt_cmpR op_ne (pe_callB (Rpa.cr_reprA gd hu) (by rfl) T.z_repr (by decide +kernel) (pa_cons (pv 4) pa_nil)) (pe_callB (Rpa.cr_reprA gd hu) (by rfl) T.z_repr (by decide +kernel) (pa_cons (pv 2) pa_nil)) (nomark _))))) (pss_one (ps_ret pe_bl)) pss_nil)
      (Evl.pss_cut (ps_if (pt_cmpR (op_neD hr.units) (Gx2.pe_callX GT gd hr10 (by rfl) gT FT.kp bT .nil pass0 (pa_cons (pv 0) (pa_cons (pv 4) pa_nil))) (pv 1) (nomark _)) (pss_one (ps_ret pe_bl)) pss_nil)
      (pss_one (ps_expr (pe_bm PySem.F.plainAttrs_list PySem.F.slot_list_append PySem.F.type_list_append mt_append (pv 4) (pa_cons pe_non pa_nil))))))))
      (pss_one (ps_ret pe_bl))))), ?_⟩
    have g := gd_all t
    have ta := Tr.T.all_len t
    have dl := dd_len t.all []
    rw [ta, List.length_nil] at dl
    have hal : ∀ s ∈ t.all, s.depth ≤ 40 ∧ ∃ d, Tr.Cl css s d := fun s hs => by
      obtain ⟨a1, _, a3⟩ := Tr.T.all_sub ct s hs
      exact ⟨by omega, a3⟩
    obtain ⟨cls, ld⟩ := lad_rws g fun s hs => (hal s ((dd_sub t.all [] s hs).resolve_left fun z => (nomatch z))).2
    have dlast := dd_last ct
    have dpos : 0 < (dd [] t.all).length := by
      have := (List.getElem?_eq_some_iff.mp dlast).1
      omega
    have rb := lad_b ib ld c16 (by rw [rws_len]; omega)
    have smr := sm_rows rb (by rw [rws_len]; omega)
    have etr : (trs (rws (dd [] t.all)))[(rws (dd [] t.all)).length - 1]? = some t := by
      rw [trs_all g, rws_len]
      exact dlast
    have sht := shaped_t hd
    -- due
    refine Evl.q_cut (M := fun σ' H' => ∃ D : Addr, σ' = [some b, some v, some (.ref D), none, none] ∧ Ke Nof H H' ∧ RwL H' D (rws (dd [] t.all))) ?_ ?_
    · exact ⟨_, rfl, v, t, rfl, ht, hd, by omega, fun s hs => (hal s hs).1, fun D H1 k1 hD => ⟨D, rfl, k1, hD⟩⟩
    rintro σ' H1 ⟨D, rfl, k1, hD⟩
    -- twice
    refine Evl.q_cut (M := fun σ' H' => ∃ y3 y4 : Option V, σ' = [some b, some v, some (.ref D), y3, y4] ∧ Ke Nof H1 H') ?_ ?_
    · refine ⟨2, rfl, by decide, by decide, for_range (Pv := fun i σ H' => ∃ y3 y4 : Option V, σ = [some b, some v, some (.ref D), y3, y4] ∧ Ke Nof H1 H') ?_ ?_ ?_⟩
      · exact ⟨none, none, rfl, .refl _ _⟩
      · rintro i σ H2 hi ⟨y3, y4, rfl, k2⟩
        have k02 := k1.trans k2
        refine Evl.q_cut (M := fun σ' H' => ∃ R : Addr, σ' = [some b, some v, some (.ref D), some (.int (0 + (i : Int))), some (.ref R)] ∧ H2 R = none ∧ Ke Nof H2 H' ∧ RwL H' R (rws (dd [] t.all))) ?_ ?_
        · exact ⟨_, rfl, v, t, rfl, ht.ke k02, hd, by omega, fun R H3 nR k3 hR => ⟨R, rfl, nR, k3, hR⟩⟩
        rintro σ' H3 ⟨R, rfl, nR, k3, hR⟩
        have k23 := k2.trans k3
        obtain ⟨rvs, hR3, aR⟩ := id hR
        obtain ⟨dvs, hD3, aD⟩ := hD.ke k23 fun z => z
        -- told is right
        refine Evl.q_cut (M := fun σ' H' => σ' = [some b, some v, some (.ref D), some (.int (0 + (i : Int))), some (.ref R)] ∧ H3 = H') ?_ ?_
        · refine ⟨_, rfl, .ref R, .ty "list", .type "list", .type "list", true, rfl, .ty _, .base (.lst hR3), kit_ty (by decide +kernel), _, rfl, ?_⟩
          refine ⟨_, rfl, .ref R, .list ((rws (dd [] t.all)).map dat), rfl, .lst (.of hR3) (dp_rows aR), smr.sh, smr.nd, Nat.le_trans smr.dp (by decide), Nat.le_trans smr.sz (by decide), ?_⟩
          refine ⟨_, rfl, .ref D, .list ((rws (dd [] t.all)).map dat), rfl, .lst (.of hD3) (dp_rows aD), smr.sh, smr.nd, Nat.le_trans smr.dp (by decide), Nat.le_trans smr.sz (by decide), ?_⟩
          exact ⟨rfl, _, rfl, ite2 (fun e => absurd e (by simp)) (fun e => ⟨rfl, rfl⟩)⟩
        rintro σ' H' ⟨rfl, rfl⟩
        -- the tree is right
        refine Evl.q_cut (M := fun σ' H' => σ' = [some b, some v, some (.ref D), some (.int (0 + (i : Int))), some (.ref R)] ∧ Ke Nof H3 H') ?_ ?_
        · refine ⟨_, rfl, _, rfl, b, R, css, cls, rws (dd [] t.all), t, rfl, ⟨(hb.ke k02).ke k3, hR, ld, ib, by rw [rws_len]; omega⟩, by rw [rws_len]; omega, (k02.trans k3).tabs _ tg, etr, fun z => by omega, fun _ _ v4 H4 k4 av => ?_⟩
          refine ⟨_, rfl, tdt t, tdt t, Bkg.dp_tree av, Bkg.dp_tree (ht.ke ((k02.trans k3).trans k4)), sht, sht, _, rfl, ite2 (fun e => ?_) (fun e => ⟨rfl, k4⟩)⟩
          rw [(eqv_tdt t t).mpr rfl] at e
          cases e
        rintro σ' H4 ⟨rfl, k4⟩
        have hR4 := k4.lst hR3 fun z => z
        refine ⟨_, rfl, .inl ⟨rfl, _, .of hR4⟩, R, _, _, rfl, rfl, hR4, small1000 (by rw [aR.1, rws_len]; omega), ?_⟩
        exact ⟨_, _, rfl, k2.trans ((k3.trans k4).upd nR)⟩
      · rintro σ H2 ⟨y3, y4, rfl, k2⟩
        exact ⟨y3, y4, rfl, k2⟩
    rintro σ' H2 ⟨y3, y4, rfl, k2⟩
    exact q H2 (k1.trans k2)
/-! ### trees that grow -/
def css3 : List (List Int) := [[1], [-1, 2], [-2, 1]]
def gro : Nat → T
  | 0 => .leaf 0
  | n + 1 => .cut (gro n) (.leaf (1 + n % 2)) ((1 + n % 2 : Nat) : Int)
theorem gro_sz : ∀ n, (gro n).depth = n + 1 ∧ (gro n).pieces = 2 * n + 1
  | 0 => ⟨rfl, rfl⟩
  | n + 1 => by
    obtain ⟨h1, h2⟩ := gro_sz n
    refine ⟨?_, ?_⟩
    · show 1 + max (gro n).depth 1 = n + 1 + 1
      omega
    · show 1 + (gro n).pieces + 1 = 2 * (n + 1) + 1
      omega
theorem cl_d {cs : List Int} (h : (cs == [1] || cs == [-1, 2] || cs == [2] || cs == [-2, 1]) = true) : IsCl cs := by
  simp only [Bool.or_eq_true, beq_iff_eq] at h
  rcases h with ((h | h) | h) | h <;> subst h <;> exact cl_mk (by decide) (by decide) (by decide)
theorem gro_cl : ∀ n, Tr.Cl css3 (gro n) (if n % 2 = 0 then [1] else [2])
  | 0 => rfl
  | n + 1 => by
    have ih := gro_cl n
    rcases Nat.mod_two_eq_zero_or_one n with z | z
    · rw [if_pos z] at ih
      rw [if_neg (by omega)]
      refine ⟨[1], [-1, 2], ih, ?_, ?_⟩
      · rw [z]
        rfl
      · rw [z]
        exact comes_of (cl_d rfl) (cl_d rfl) (by decide) (by decide) (by decide) fun j => Iff.rfl
    · rw [if_neg (by omega)] at ih
      rw [if_pos (by omega)]
      refine ⟨[2], [-2, 1], ih, ?_, ?_⟩
      · rw [z]
        rfl
      · rw [z]
        exact comes_of (cl_d rfl) (cl_d rfl) (by decide) (by decide) (by decide) fun j => Iff.rfl
theorem ib3 : ∀ c ∈ css3, IsCl c := fun c hc => by
  simp only [css3, List.mem_cons, List.not_mem_nil, or_false] at hc
  rcases hc with h | h | h <;> subst h <;> exact cl_d rfl
abbrev sSgr : Stmt := topS 42
theorem scSgr : FnScope ["many", "tree", "k"] ["many"] (defScope sSgr) := ⟨rfl, rfl, rfl, by decide +kernel, rfl, by decide +kernel, by decide +kernel⟩
def spSgr : Sp := fun vs H Q _ => ∃ m : Nat, vs = [.int (m : Nat)] ∧ m ≤ 200 ∧ ∀ v H', Same H H' → At H' (gro m) v → Q v H'
theorem ok_sgr {f : Addr} {fd : FuncData} {k : Nat} (F : Fun K "_law_s_growing" "_law_s_growing" sSgr f fd) (T : Zk mg) : FnOk P w K mg base CX0 (k + 1) f fd ["many"] spSgr := by
  refine F.ok scSgr (fun vs H Q E h => ?_) (fun cdv A outer s H vs Q E hr h => ?_)
  · obtain ⟨m, rfl, _⟩ := h
    rfl
  · obtain ⟨m, rfl, m200, q⟩ := h
    refine ⟨_, (Evl.pss_cut (ps_set (i := 1) scSgr.nd rfl (.inl rfl) (pe_tupN (pa_cons pe_str (pa_cons pe_int pa_nil))))
      (Evl.pss_cut (ps_for PassesOwn.never rfl (pi_range1 (by rfl) T.z_range (pa_cons (pv 0) pa_nil)) (pg_name (i := 2) scSgr.nd rfl (.inl rfl)) (pss_one (ps_set (i := 1) scSgr.nd rfl (.inl rfl) (pe_tupN (pa_cons pe_str (pa_cons (pv 1) (pa_cons (pe_tupN (pa_cons pe_str (pa_cons (pe_op op_add pe_int (pe_op op_mod (pv 2) pe_int)) pa_nil))) (pa_cons (pe_op op_add pe_int (pe_op op_mod (pv 2) pe_int)) pa_nil))))))))
      (pss_one (ps_ret (pv 1))))), ?_⟩
    refine Evl.q_cut (M := fun σ' H' => ∃ v : V, σ' = [some (.int (m : Nat)), some v, none] ∧ Same H H' ∧ At H' (gro 0) v) ?_ ?_
    · exact ⟨by show 2 ≤ sizeLine; decide, fun p H1 np s1 hp _ => ⟨_, rfl, s1, p, rfl, hp⟩⟩
    rintro σ' H1 ⟨v, rfl, s1, av⟩
    refine Evl.q_cut (M := fun σ' H' => ∃ (v : V) (y : Option V), σ' = [some (.int (m : Nat)), some v, y] ∧ Same H H' ∧ At H' (gro m) v) ?_ ?_
    · refine ⟨_, rfl, m, rfl, by omega, by omega, for_range (Pv := fun i σ H' => ∃ (v : V) (y : Option V), σ = [some (.int (m : Nat)), some v, y] ∧ Same H H' ∧ At H' (gro i) v) ?_ ?_ ?_⟩
      · exact ⟨v, none, rfl, s1, av⟩
      · clear av s1 v H1
        rintro i σ H1 hi ⟨v, y, rfl, s1, av⟩
        have ez : (1 : Int) + (0 + (i : Int)) % 2 = ((1 + i % 2 : Nat) : Int) := by omega
        refine ⟨_, rfl, _, rfl, _, _, rfl, rfl, by show (0 : Int) < 2; decide, _, _, rfl, rfl, by show 2 ≤ sizeLine; decide, fun p H2 np s2 hp _ => ?_⟩
        refine ⟨_, rfl, _, _, rfl, rfl, by show (0 : Int) < 2; decide, _, _, rfl, rfl, by show 4 ≤ sizeLine; decide, fun p2 H3 np2 s3 hp2 _ => ?_⟩
        replace hp : H2 p = some (.tup [.str "book", .int (1 + (0 + (i : Int)) % 2)]) := hp
        replace hp2 : H3 p2 = some (.tup [.str "cut", v, .ref p, .int (1 + (0 + (i : Int)) % 2)]) := hp2
        rw [ez] at hp hp2
        exact ⟨_, _, rfl, s1.trans (s2.trans s3), p2, v, .ref p, rfl, hp2, av.ke (Ke.same (F := Nof) (s2.trans s3)), p, rfl, s3 _ _ hp⟩
      · rintro σ H2 ⟨v, y, rfl, s2, av⟩
        have e : ((m : Nat) : Int).toNat = m := by omega
        rw [e] at av
        exact ⟨v, y, rfl, s2, av⟩
    clear av s1 v H1
    rintro σ' H1 ⟨v, y, rfl, s1, av⟩
    exact ⟨_, rfl, q v H1 s1 av⟩
theorem bk_of {H : Hp} {a : Addr} {vs : List V} {css : List (List Int)} (h : H a = some (.tup vs)) (x : All2 (TupI H) vs css) : Bk H (.ref a) css := ⟨a, vs, rfl, h, x.1, x.2⟩
theorem t3 {H : Hp} {p q r : Addr} {x y z : List Int} (h1 : H p = some (.tup (x.map V.int))) (h2 : H q = some (.tup (y.map V.int))) (h3 : H r = some (.tup (z.map V.int))) : All2 (TupI H) [.ref p, .ref q, .ref r] [x, y, z] :=
  All2.snoc (All2.snoc (All2.snoc (xs := []) (ys := []) .nil ⟨p, rfl, h1⟩) ⟨q, rfl, h2⟩) ⟨r, rfl, h3⟩
abbrev sLaw : Stmt := topS 43
theorem scL : FnScope ["script", "feed", "turn", "book", "tree", "many"] ["script"] (defScope sLaw) := ⟨rfl, rfl, rfl, by decide +kernel, rfl, by decide +kernel, by decide +kernel⟩
def spLaw (Po : Addr) (K : PySem.W.Frag) : Sp := fun vs H Q _ => ∃ (a : Addr) (ns : List Int), vs = [.ref a] ∧ SqL K H a (ns.map V.int) ∧ TabG H Po ∧ ∀ H', Q (.bl true) H'
theorem ok_law {f fO fD fS fW fI Po : Addr} {fd fdO fdD fdS fdW fdI : FuncData} (FL : Fun K "law" "law" sLaw f fd) (T : Zk mg)
    (FO : Fun K "_law_sopen" "_law_sopen" sOpn fO fdO) (bO : Binds K fdO ["script"] []) (gO : mg "_law_sopen" = some (.ref fO)) (GO : FnOk P w K mg base CX0 1 fO fdO ["script"] (spOpn K))
    (FD : Fun K "_law_sdraw" "_law_sdraw" sDrw fD fdD) (bD : Binds K fdD ["feed", "many"] []) (gD : mg "_law_sdraw" = some (.ref fD)) (GD : FnOk P w K mg base CX0 2 fD fdD ["feed", "many"] spDrw)
    (FS : Fun K "_law_stree_case" "_law_stree_case" sSts fS fdS) (bS : Binds K fdS ["feed"] []) (gS : mg "_law_stree_case" = some (.ref fS)) (GS : FnOk P w K mg base CX0 14 fS fdS ["feed"] (spTr 20000))
    (FW : Fun K "_law_s_growing" "_law_s_growing" sSgr fW fdW) (bW : Binds K fdW ["many"] []) (gW : mg "_law_s_growing" = some (.ref fW)) (GW : FnOk P w K mg base CX0 1 fW fdW ["many"] spSgr)
    (FI : Fun K "_law_s_right" "_law_s_right" sSri fI fdI) (bI : Binds K fdI ["book", "tree"] []) (gI : mg "_law_s_right" = some (.ref fI)) (GI : Gx2.FnX P w K mg base CX0 43 fI fdI ["book", "tree"] (spSri Po)) :
    Gd.FnG P w K mg base 44 f fd ["script"] (spLaw Po K) := by
  refine Gd.okG FL scL (fun vs H Q E h => ?_) (fun cdv A outer s H vs Q E gd0 hr h => ?_)
  · obtain ⟨a, ns, rfl, _⟩ := h
    rfl
  · obtain ⟨a, ns, rfl, hS, to, q⟩ := h
    have gd : (A.deeper (envOfC "law" (defScope sLaw) s.heap.objs.size f cdv)).guards = some [] := gd0
    have hr1 : Room 1 _ := hr.mono (by decide)
    have hr2 : Room 2 _ := hr.mono (by decide)
    have hr14 : Room 14 _ := hr.mono (by decide)
    have hr43 : Room 43 _ := hr.mono (by decide)
    refine ⟨_, (Evl.pss_cut (ps_set (i := 1) scL.nd rfl (.inl rfl) (pe_call GO hr1 (by rfl) gO FO.kp bO .nil pass0 (pa_cons (pv 0) pa_nil)))
      (Evl.pss_cut (ps_for PassesOwn.never rfl (pi_range1 (by rfl) T.z_range (pa_cons pe_int pa_nil)) (pg_name (i := 2) scL.nd rfl (.inl rfl)) (Evl.pss_cut (ps_asg (pe_call GS hr14 (by rfl) gS FS.kp bS .nil pass0 (pa_cons (pv 1) pa_nil)) (pg_tup rfl (pgs_cons (pg_name (i := 3) scL.nd rfl (.inl rfl)) (pgs_cons (pg_name (i := 4) scL.nd rfl (.inl rfl)) pgs_nil))))
      (pss_one (ps_if (pt_not (pt_val (Gx2.pe_callX GI gd hr43 (by rfl) gI FI.kp bI .nil pass0 (pa_cons (pv 3) (pa_cons (pv 4) pa_nil))))) (pss_one (ps_ret pe_bl)) pss_nil))))
      (Evl.pss_cut (ps_set (i := 5) scL.nd rfl (.inl rfl) (pe_call GD hr2 (by rfl) gD FD.kp bD .nil pass0 (pa_cons (pv 1) (pa_cons pe_int pa_nil))))
      (pss_one (ps_ret (Gx2.pe_callX GI gd hr43 (by rfl) gI FI.kp bI .nil pass0 (pa_cons (pe_tupN (pa_cons (pe_tupN (pa_cons pe_int pa_nil)) (pa_cons (pe_tupN (pa_cons (pe_un un_neg pe_int) (pa_cons pe_int pa_nil))) (pa_cons (pe_tupN (pa_cons (pe_un un_neg pe_int) (pa_cons pe_int pa_nil))) pa_nil)))) (pa_cons (pe_call GW hr1 (by rfl) gW FW.kp bW .nil pass0 (pa_cons (pv 5) pa_nil)) pa_nil)))))))), ?_⟩
    -- feed
    refine Evl.q_cut (M := fun σ' H' => ∃ fe c : Addr, σ' = [some (.ref a), some (.ref fe), none, none, none, none] ∧ TabG H' Po ∧ Feed H' fe c 0) ?_ ?_
    · exact ⟨.ref a, rfl, a, ns, rfl, hS, fun fe c H1 nf nc s1 F1 => ⟨fe, c, rfl, (Ke.same (F := Nof) s1).tabs _ to, F1⟩⟩
    rintro σ' H1 ⟨fe, c, rfl, t1, F1⟩
    refine Evl.q_cut (M := fun σ' H' => ∃ (y2 y3 y4 : Option V), σ' = [some (.ref a), some (.ref fe), y2, y3, y4, none] ∧ TabG H' Po ∧ Feed H' fe c 60000) ?_ ?_
    · refine ⟨3, rfl, by decide, by decide, for_range (Pv := fun i σ H' => ∃ (y2 y3 y4 : Option V), σ = [some (.ref a), some (.ref fe), y2, y3, y4, none] ∧ TabG H' Po ∧ Feed H' fe c (20000 * i)) ?_ ?_ ?_⟩
      · exact ⟨none, none, none, rfl, t1, F1⟩
      · clear t1 F1 H1
        rintro i σ H1 hi ⟨y2, y3, y4, rfl, t1, F1⟩
        have hi : i < 3 := hi
        refine Evl.q_cut (M := fun σ' H' => ∃ (b x : V) (css : List (List Int)) (t : Tr.T) (ct : List Int), σ' = [some (.ref a), some (.ref fe), some (.int (0 + (i : Int))), some b, some x, none] ∧ TabG H' Po ∧ Feed H' fe c (20000 * (i + 1)) ∧ Bk H' b css ∧ (∀ c ∈ css, IsCl c) ∧ css.length ≤ 16 ∧ At H' t x ∧ Tr.Cl css t ct ∧ t.depth ≤ 40 ∧ t.pieces ≤ 100) ?_ ?_
        · refine ⟨_, rfl, fe, c, _, rfl, F1, by omega, fun p b x css t ct H2 F2 k2 hp hb ib ht cl dp pc c16 => ?_⟩
          exact ⟨p, _, rfl, .of hp, rfl, _, _, rfl, _, _, rfl, rfl, b, x, css, t, ct, rfl, k2.tabs _ t1, F2.mono (by omega), hb, ib, c16, ht, cl, dp, pc⟩
        clear t1 F1 H1
        rintro σ' H1 ⟨b, x, css, t, ct, rfl, t1, F1, hb, ib, c16, ht, cl, dp, pc⟩
        refine ⟨_, rfl, _, rfl, b, x, css, t, ct, rfl, hb, ib, c16, ht, cl, dp, pc, t1, fun H2 k2 => ⟨_, rfl, ?_⟩⟩
        exact ⟨_, _, _, rfl, k2.tabs _ t1, k2.feed F1⟩
      · rintro σ H2 ⟨y2, y3, y4, rfl, t2, F2⟩
        exact ⟨y2, y3, y4, rfl, t2, F2⟩
    clear t1 F1 H1
    rintro σ' H1 ⟨y2, y3, y4, rfl, t1, F1⟩
    refine Evl.q_cut (M := fun σ' H' => ∃ m : Nat, σ' = [some (.ref a), some (.ref fe), y2, y3, y4, some (.int (m : Nat))] ∧ m < 40 ∧ TabG H' Po) ?_ ?_
    · refine ⟨_, rfl, fe, c, 40, _, rfl, by decide, by decide, F1, by omega, fun d H2 d0 d1 F2 b2 => ?_⟩
      have k2 : Ke (· = fe) H1 H2 := .but F1 b2
      obtain ⟨m, rfl⟩ : ∃ m : Nat, d = (m : Int) := ⟨d.toNat, by omega⟩
      exact ⟨m, rfl, by omega, k2.tabs _ t1⟩
    rintro σ' H2 ⟨m, rfl, hm, t2⟩
    refine ⟨by show 1 ≤ sizeLine; decide, fun p1 G1 n1 u1 h1 _ => ⟨_, rfl, by show 2 ≤ sizeLine; decide, fun p2 G2 n2 u2 h2 _ => ⟨_, rfl, by show 2 ≤ sizeLine; decide, fun p3 G3 n3 u3 h3 _ => ⟨by show 3 ≤ sizeLine; decide, fun b G4 n4 u4 h4 _ => ?_⟩⟩⟩⟩
    have x0 : Bk G4 (.ref b) css3 := bk_of h4 (t3 (x := [1]) (y := [-1, 2]) (z := [-2, 1]) (u4 _ _ (u3 _ _ (u2 _ _ h1))) (u4 _ _ (u3 _ _ h2)) (u4 _ _ h3))
    refine ⟨_, rfl, m, rfl, by omega, fun v G5 u5 av => ?_⟩
    have w : Ke Nof H2 G5 := .same (u1.trans (u2.trans (u3.trans (u4.trans u5))))
    obtain ⟨e1, e2⟩ := gro_sz m
    exact ⟨.ref b, v, css3, gro m, _, rfl, x0.ke (Ke.same (F := Nof) u5), ib3, by decide, av, gro_cl m, by omega, by omega, w.tabs _ t2, fun H' _ => q H'⟩
end
end K23
namespace Eg
open PySem PySem.Spec PyProof.Rows L2 GxR Nw Dr Kp
/-! ### the end of a law that shows lists: defs whose code objects have tables -/
/-- what stands where a def's code object has its table -/
abbrev Own (K : PySem.W.Frag) (h : Heap) (mg : Str → Option Value) (ys : List Str) : Prop := ∀ y ∈ ys, ∀ f, mg y = some (.ref f) → LamX.OwnTab K f h
/-- what is to be known of a law at the heap h -/
def LawG (l : PySem.W.OpenLaw) (w : World) (K : PySem.W.Frag) (k m : Nat) (x : Str) (mg : Str → Option Value) (g : Addr) (h : Heap) : Prop :=
  ∃ (fd : FuncData) (cs : List (Addr × Addr)) (sp : Sp), (∀ p ∈ cs, h.get? p.2 = some (PySem.W.tabObj #[])) ∧ (∀ p ∈ cs, K.lookup p.2 = none) ∧ (∀ p ∈ cs, PySem.W.CodeHd h p.1 p.2) ∧ (∀ (s : Shared) (u : Value), BindsTo s fd ⟨[u], []⟩ [(x, u)]) ∧
    (∀ (H : Hp) (a : Addr) (ns : List Int), ns.length ≤ m → (∀ p ∈ cs, H p.2 = some (.tbl #[])) → SqL K H a (ns.map V.int) → sp [.ref a] H (fun v _ => v = .bl true) fun _ _ _ => False) ∧
    ∀ base : Heap, K.In base → base.Ns mainGlobals mg → (∀ p ∈ cs, LamX.TabB base mg p.1 p.2) → Gd.FnG l.prog w K mg base k g fd [x] sp
theorem walk_own {l : PySem.W.OpenLaw} {m k : Nat} {pr : Program} {ls : List Str} {XP : (Str → Option Value) → Heap → Prop} {YP : World → Heap → Prop} {d : DefRec} {K : Params → PySem.W.Frag} {x : Str} (ys : List Str)
    (e1 : l.most = some m) (e2 : m ≤ sizeLine) (e3 : d.params.defaults = []) (room : Room k callerA) (named : ∀ y ∈ ys, ((recsOf pr).any fun e => e.name == y) = true) (inK : ∀ (w : World) (h : Heap), YP w h → (K w.params).In h)
    (go : ∀ (w : World) (mg : Str → Option Value) (g : Addr) (h : Heap), YP w h → (K w.params).In h → h.Ns mainGlobals mg → mg d.name = some (.ref g) → Own (K w.params) h mg ys → LawG l w (K w.params) k m x mg g h) :
    PySem.W.WalkO pr ls XP YP l.row.toRowW d [] (fun f vs => PySem.call f vs) := by
  refine Att.attach_callB e1 e3 fun w s0 s1 mg mb fa o pm cd doc a us ns G Y ho hd hcd hmg hobj hints hlen hbits hg => ?_
  have inH := inK w _ Y
  have tabs : Own (K w.params) s1.heap mg ys := fun y hy f hf c P ob fd e dd vs sl q1 q2 q3 q4 q5 => by
    obtain ⟨r, hr1, hr2⟩ := List.any_eq_true.mp (named y hy)
    obtain ⟨f', ob', fd', c', P', t1, t2, t3, t4, t5, ⟨⟨oc, vc, u1, _, u3, u4⟩, u5⟩⟩ := G.T.tab r hr1
    rw [show r.name = y from beq_iff_eq.mp hr2, hf] at t1
    cases t1
    rw [inH _ _ q1] at t2
    cases t2
    rw [q2] at t3
    cases t3
    rw [q3] at t4
    cases t4
    rw [inH _ _ q4] at u1
    cases u1
    cases u3
    rw [q5] at u4
    cases u4
    exact u5
  obtain ⟨fd, cs, sp, h1, h2, h3, h4, h5, h6⟩ := go w mg fa _ Y inH G.T.g hmg tabs
  exact Gd.law_at inH G.T.g G.T.b G.T.builtins G.T.nolimit hg h1 h2 h3 G.T.bmain hobj hints (Nat.le_trans hlen e2) room h6 h4 fun H z1 z2 => h5 H a ns hlen z1 z2
end Eg
namespace Cf
open PySem PySem.Spec PyProof.Rows L2
/-! ### classes of the program: isinstance, except -/
theorem cls_s {K : PySem.W.Frag} {C : Addr} (h : PySem.W.isClsIn K C = true) : (PySem.W.clsIn K C).isSome = true := h
theorem kit_cls {K : PySem.W.Frag} {t : Value} {D : Addr} {b : Bool} (h1 : (PySem.W.clsIn K D).isSome = true) (h2 : PySem.W.typeIn K (.ref D) = some (.type "type")) (h : PySem.W.subIn K t (.ref D) = some b) : PySem.W.kitCls K t (.ref D) = some b := by
  have e : ((PySem.W.clsIn K D).isSome && PySem.W.typeIn K (.ref D) == some (.type "type")) = true := by
    rw [h1, h2]
    rfl
  show (if ((PySem.W.clsIn K D).isSome && PySem.W.typeIn K (.ref D) == some (.type "type")) = true then PySem.W.subIn K t (.ref D) else none) = some b
  rw [if_pos e, h]
theorem kit_t {K : PySem.W.Frag} {t : Value} {D : Addr} (h1 : (PySem.W.clsIn K D).isSome = true) (h2 : PySem.W.typeIn K (.ref D) = some (.type "type")) (h : PySem.W.subIn K t (.ref D) = some true) : PySem.W.kitOne K t (.ref D) = some true := by
  unfold PySem.W.kitOne
  split
  · rfl
  · exact kit_cls h1 h2 h
theorem kit_f {K : PySem.W.Frag} {C D : Addr} (h1 : (PySem.W.clsIn K D).isSome = true) (h2 : PySem.W.typeIn K (.ref D) = some (.type "type")) (h : PySem.W.subIn K (.ref C) (.ref D) = some false) (hs : PySem.W.subIn K (.ref C) (.ref C) = some true) : PySem.W.kitOne K (.ref C) (.ref D) = some false := by
  unfold PySem.W.kitOne
  split
  · rename_i e
    have z : C = D := Value.ref.inj (beq_iff_eq.mp e)
    subst z
    rw [h] at hs
    cases hs
  · exact kit_cls h1 h2 h
theorem kit_v {K : PySem.W.Frag} {C : Addr} (h : PySem.W.subIn K (.ref C) (.type "ValueError") = some true) : PySem.W.kitOne K (.ref C) (.type "ValueError") = some true := by
  unfold PySem.W.kitOne
  split
  · rfl
  · show (if PySem.W.kitMeta "ValueError" = true then PySem.W.subIn K (.ref C) (.type "ValueError") else none) = some true
    rw [if_pos (by decide +kernel), h]
theorem exm_t {K : PySem.W.Frag} {t : Value} {D : Addr} (hb : PySem.W.subIn K (.ref D) (.type "BaseException") = some true) (h1 : (PySem.W.clsIn K D).isSome = true) (h2 : PySem.W.typeIn K (.ref D) = some (.type "type")) (h : PySem.W.subIn K t (.ref D) = some true) : PySem.W.exmOne K t (.ref D) = some true := by
  unfold PySem.W.exmOne
  rw [hb, if_pos (by decide)]
  exact kit_cls h1 h2 h
end Cf
namespace K23
open PySem PySem.Spec PyProof.Rows L2 GxR Nw Dr Kp Se Cl Ct Lr Lp Ll Od Wg Xb Tr Bkg Bkp Tl Ro Eg
theorem all_mk {l : PySem.W.OpenLaw} {w : World} {K : PySem.W.Frag} {h : Heap} {mg : Str → Option Value} {top : Addr} (X : K.In h) (G : h.Ns mainGlobals mg) (htop : mg "law" = some (.ref top)) (ow : Own K h mg ["has_opposites"]) {fM fD fO fT fC fB fx fL fw fm fn fb fR fA fI fK fF gO xr xP xt xT xh xH yp yr ys yc yi yd yg cO PO  c3 : Addr}
    {od_fM an_fM : Option Addr} {sl_fM : Array (Option Value)} {oc_fM kV_fM dc_fM pm_fM ct_fM : Value} {cd_fM : Value} {od_fD an_fD : Option Addr} {sl_fD : Array (Option Value)} {oc_fD kV_fD dc_fD pm_fD ct_fD : Value} {cd_fD : Value} {od_fO an_fO : Option Addr} {sl_fO : Array (Option Value)} {oc_fO kV_fO dc_fO pm_fO ct_fO : Value} {cd_fO : Value} {od_fT an_fT : Option Addr} {sl_fT : Array (Option Value)} {oc_fT kV_fT dc_fT pm_fT ct_fT : Value} {cd_fT : Value} {od_fC an_fC : Option Addr} {sl_fC : Array (Option Value)} {oc_fC kV_fC dc_fC pm_fC ct_fC : Value} {cd_fC : Value} {od_fB an_fB : Option Addr} {sl_fB : Array (Option Value)} {oc_fB kV_fB dc_fB pm_fB ct_fB : Value} {cd_fB : Value} {od_fx an_fx : Option Addr} {sl_fx : Array (Option Value)} {oc_fx kV_fx dc_fx pm_fx ct_fx : Value} {cd_fx : Value} {od_fL an_fL : Option Addr} {sl_fL : Array (Option Value)} {oc_fL kV_fL dc_fL pm_fL ct_fL : Value} {cd_fL : Value} {od_fw an_fw : Option Addr} {sl_fw : Array (Option Value)} {oc_fw kV_fw dc_fw pm_fw ct_fw : Value} {cd_fw : Value} {od_fm an_fm : Option Addr} {sl_fm : Array (Option Value)} {oc_fm kV_fm dc_fm pm_fm ct_fm : Value} {cd_fm : Value} {od_fn an_fn : Option Addr} {sl_fn : Array (Option Value)} {oc_fn kV_fn dc_fn pm_fn ct_fn : Value} {cd_fn : Value} {od_fb an_fb : Option Addr} {sl_fb : Array (Option Value)} {oc_fb kV_fb dc_fb pm_fb ct_fb : Value} {cd_fb : Value} {od_fR an_fR : Option Addr} {sl_fR : Array (Option Value)} {oc_fR kV_fR dc_fR pm_fR ct_fR : Value} {cd_fR : Value} {od_fA an_fA : Option Addr} {sl_fA : Array (Option Value)} {oc_fA kV_fA dc_fA pm_fA ct_fA : Value} {cd_fA : Value} {od_fI an_fI : Option Addr} {sl_fI : Array (Option Value)} {oc_fI kV_fI dc_fI pm_fI ct_fI : Value} {cd_fI : Value} {od_fK an_fK : Option Addr} {sl_fK : Array (Option Value)} {oc_fK kV_fK dc_fK pm_fK ct_fK : Value} {cd_fK : Value} {od_fF an_fF : Option Addr} {sl_fF : Array (Option Value)} {oc_fF kV_fF dc_fF pm_fF ct_fF : Value} {cd_fF : Value} {od_gO an_gO : Option Addr} {sl_gO : Array (Option Value)} {oc_gO kV_gO dc_gO pm_gO ct_gO : Value} {od_xr an_xr : Option Addr} {sl_xr : Array (Option Value)} {oc_xr kV_xr dc_xr pm_xr ct_xr : Value} {cd_xr : Value} {od_xP an_xP : Option Addr} {sl_xP : Array (Option Value)} {oc_xP kV_xP dc_xP pm_xP ct_xP : Value} {cd_xP : Value} {od_xt an_xt : Option Addr} {sl_xt : Array (Option Value)} {oc_xt kV_xt dc_xt pm_xt ct_xt : Value} {cd_xt : Value} {od_xT an_xT : Option Addr} {sl_xT : Array (Option Value)} {oc_xT kV_xT dc_xT pm_xT ct_xT : Value} {cd_xT : Value} {od_xh an_xh : Option Addr} {sl_xh : Array (Option Value)} {oc_xh kV_xh dc_xh pm_xh ct_xh : Value} {cd_xh : Value} {od_xH an_xH : Option Addr} {sl_xH : Array (Option Value)} {oc_xH kV_xH dc_xH pm_xH ct_xH : Value} {cd_xH : Value} {od_yp an_yp : Option Addr} {sl_yp : Array (Option Value)} {oc_yp kV_yp dc_yp pm_yp ct_yp : Value} {cd_yp : Value} {od_yr an_yr : Option Addr} {sl_yr : Array (Option Value)} {oc_yr kV_yr dc_yr pm_yr ct_yr : Value} {cd_yr : Value} {od_ys an_ys : Option Addr} {sl_ys : Array (Option Value)} {oc_ys kV_ys dc_ys pm_ys ct_ys : Value} {cd_ys : Value} {od_yc an_yc : Option Addr} {sl_yc : Array (Option Value)} {oc_yc kV_yc dc_yc pm_yc ct_yc : Value} {cd_yc : Value} {od_yi an_yi : Option Addr} {sl_yi : Array (Option Value)} {oc_yi kV_yi dc_yi pm_yi ct_yi : Value} {cd_yi : Value} {od_yd an_yd : Option Addr} {sl_yd : Array (Option Value)} {oc_yd kV_yd dc_yd pm_yd ct_yd : Value} {cd_yd : Value} {od_yg an_yg : Option Addr} {sl_yg : Array (Option Value)} {oc_yg kV_yg dc_yg pm_yg ct_yg : Value} {cd_yg : Value} {e_O : Value} {dd_O : Option Addr} {vs_O : Array Value} {sf_O : Array (Option Value)} {tk_MOST_THINGS : Tok} {tk_MOST_ROWS : Tok} {tk_MOST_PIECES : Tok} {tk_MOST_WITHIN : Tok}
    (b_fM : PySem.W.nsIn K mainGlobals "_law_smixed" = some (some (.ref fM)))
    (l_fM : K.lookup fM = some ⟨oc_fM, od_fM, .func (PySem.W.fnOf "_law_smixed" "_law_smixed" (defArgs sMix) (defBody sMix) (defScope sMix) .none kV_fM dc_fM pm_fM an_fM cd_fM ct_fM), sl_fM⟩)
    (c_fM : PySem.W.codeIn K cd_fM "_law_smixed" = true)
    (k_fM : PySem.W.keepIn K (.ref fM) = true)
    (b_fD : PySem.W.nsIn K mainGlobals "_law_sdraw" = some (some (.ref fD)))
    (l_fD : K.lookup fD = some ⟨oc_fD, od_fD, .func (PySem.W.fnOf "_law_sdraw" "_law_sdraw" (defArgs sDrw) (defBody sDrw) (defScope sDrw) .none kV_fD dc_fD pm_fD an_fD cd_fD ct_fD), sl_fD⟩)
    (c_fD : PySem.W.codeIn K cd_fD "_law_sdraw" = true)
    (k_fD : PySem.W.keepIn K (.ref fD) = true)
    (b_fO : PySem.W.nsIn K mainGlobals "_law_sopen" = some (some (.ref fO)))
    (l_fO : K.lookup fO = some ⟨oc_fO, od_fO, .func (PySem.W.fnOf "_law_sopen" "_law_sopen" (defArgs sOpn) (defBody sOpn) (defScope sOpn) .none kV_fO dc_fO pm_fO an_fO cd_fO ct_fO), sl_fO⟩)
    (c_fO : PySem.W.codeIn K cd_fO "_law_sopen" = true)
    (k_fO : PySem.W.keepIn K (.ref fO) = true)
    (b_fT : PySem.W.nsIn K mainGlobals "_law_sthings" = some (some (.ref fT)))
    (l_fT : K.lookup fT = some ⟨oc_fT, od_fT, .func (PySem.W.fnOf "_law_sthings" "_law_sthings" (defArgs sThg) (defBody sThg) (defScope sThg) .none kV_fT dc_fT pm_fT an_fT cd_fT ct_fT), sl_fT⟩)
    (c_fT : PySem.W.codeIn K cd_fT "_law_sthings" = true)
    (k_fT : PySem.W.keepIn K (.ref fT) = true)
    (b_fC : PySem.W.nsIn K mainGlobals "_law_sclaim" = some (some (.ref fC)))
    (l_fC : K.lookup fC = some ⟨oc_fC, od_fC, .func (PySem.W.fnOf "_law_sclaim" "_law_sclaim" (defArgs sClm) (defBody sClm) (defScope sClm) .none kV_fC dc_fC pm_fC an_fC cd_fC ct_fC), sl_fC⟩)
    (c_fC : PySem.W.codeIn K cd_fC "_law_sclaim" = true)
    (k_fC : PySem.W.keepIn K (.ref fC) = true)
    (b_fB : PySem.W.nsIn K mainGlobals "_law_sbook" = some (some (.ref fB)))
    (l_fB : K.lookup fB = some ⟨oc_fB, od_fB, .func (PySem.W.fnOf "_law_sbook" "_law_sbook" (defArgs sBok) (defBody sBok) (defScope sBok) .none kV_fB dc_fB pm_fB an_fB cd_fB ct_fB), sl_fB⟩)
    (c_fB : PySem.W.codeIn K cd_fB "_law_sbook" = true)
    (k_fB : PySem.W.keepIn K (.ref fB) = true)
    (b_fx : PySem.W.nsIn K mainGlobals "_law_scut" = some (some (.ref fx)))
    (l_fx : K.lookup fx = some ⟨oc_fx, od_fx, .func (PySem.W.fnOf "_law_scut" "_law_scut" (defArgs sSct) (defBody sSct) (defScope sSct) .none kV_fx dc_fx pm_fx an_fx cd_fx ct_fx), sl_fx⟩)
    (c_fx : PySem.W.codeIn K cd_fx "_law_scut" = true)
    (k_fx : PySem.W.keepIn K (.ref fx) = true)
    (b_fL : PySem.W.nsIn K mainGlobals "law" = some (some (.ref fL)))
    (l_fL : K.lookup fL = some ⟨oc_fL, od_fL, .func (PySem.W.fnOf "law" "law" (defArgs sLaw) (defBody sLaw) (defScope sLaw) .none kV_fL dc_fL pm_fL an_fL cd_fL ct_fL), sl_fL⟩)
    (c_fL : PySem.W.codeIn K cd_fL "law" = true)
    (k_fL : PySem.W.keepIn K (.ref fL) = true)
    (b_fw : PySem.W.nsIn K mainGlobals "is_whole" = some (some (.ref fw)))
    (l_fw : K.lookup fw = some ⟨oc_fw, od_fw, .func (PySem.W.fnOf "is_whole" "is_whole" (defArgs sWho) (defBody sWho) (defScope sWho) .none kV_fw dc_fw pm_fw an_fw cd_fw ct_fw), sl_fw⟩)
    (c_fw : PySem.W.codeIn K cd_fw "is_whole" = true)
    (k_fw : PySem.W.keepIn K (.ref fw) = true)
    (b_fm : PySem.W.nsIn K mainGlobals "can_meet" = some (some (.ref fm)))
    (l_fm : K.lookup fm = some ⟨oc_fm, od_fm, .func (PySem.W.fnOf "can_meet" "can_meet" (defArgs sCme) (defBody sCme) (defScope sCme) .none kV_fm dc_fm pm_fm an_fm cd_fm ct_fm), sl_fm⟩)
    (c_fm : PySem.W.codeIn K cd_fm "can_meet" = true)
    (k_fm : PySem.W.keepIn K (.ref fm) = true)
    (b_fn : PySem.W.nsIn K mainGlobals "cut_or_none" = some (some (.ref fn)))
    (l_fn : K.lookup fn = some ⟨oc_fn, od_fn, .func (PySem.W.fnOf "cut_or_none" "cut_or_none" (defArgs sCon) (defBody sCon) (defScope sCon) .none kV_fn dc_fn pm_fn an_fn cd_fn ct_fn), sl_fn⟩)
    (c_fn : PySem.W.codeIn K cd_fn "cut_or_none" = true)
    (k_fn : PySem.W.keepIn K (.ref fn) = true)
    (b_fb : PySem.W.nsIn K mainGlobals "is_number_of" = some (some (.ref fb)))
    (l_fb : K.lookup fb = some ⟨oc_fb, od_fb, .func (PySem.W.fnOf "is_number_of" "is_number_of" (defArgs sNum) (defBody sNum) (defScope sNum) .none kV_fb dc_fb pm_fb an_fb cd_fb ct_fb), sl_fb⟩)
    (c_fb : PySem.W.codeIn K cd_fb "is_number_of" = true)
    (k_fb : PySem.W.keepIn K (.ref fb) = true)
    (b_fR : PySem.W.nsIn K mainGlobals "claim_of_row" = some (some (.ref fR)))
    (l_fR : K.lookup fR = some ⟨oc_fR, od_fR, .func (PySem.W.fnOf "claim_of_row" "claim_of_row" (defArgs sRow) (defBody sRow) (defScope sRow) .none kV_fR dc_fR pm_fR an_fR cd_fR ct_fR), sl_fR⟩)
    (c_fR : PySem.W.codeIn K cd_fR "claim_of_row" = true)
    (k_fR : PySem.W.keepIn K (.ref fR) = true)
    (b_fA : PySem.W.nsIn K mainGlobals "claims_ahead_of_fault" = some (some (.ref fA)))
    (l_fA : K.lookup fA = some ⟨oc_fA, od_fA, .func (PySem.W.fnOf "claims_ahead_of_fault" "claims_ahead_of_fault" (defArgs sAhe) (defBody sAhe) (defScope sAhe) .none kV_fA dc_fA pm_fA an_fA cd_fA ct_fA), sl_fA⟩)
    (c_fA : PySem.W.codeIn K cd_fA "claims_ahead_of_fault" = true)
    (k_fA : PySem.W.keepIn K (.ref fA) = true)
    (b_fI : PySem.W.nsIn K mainGlobals "claims_of" = some (some (.ref fI)))
    (l_fI : K.lookup fI = some ⟨oc_fI, od_fI, .func (PySem.W.fnOf "claims_of" "claims_of" (defArgs sClo) (defBody sClo) (defScope sClo) .none kV_fI dc_fI pm_fI an_fI cd_fI ct_fI), sl_fI⟩)
    (c_fI : PySem.W.codeIn K cd_fI "claims_of" = true)
    (k_fI : PySem.W.keepIn K (.ref fI) = true)
    (b_fK : PySem.W.nsIn K mainGlobals "check_ladder" = some (some (.ref fK)))
    (l_fK : K.lookup fK = some ⟨oc_fK, od_fK, .func (PySem.W.fnOf "check_ladder" "check_ladder" (defArgs sChk) (defBody sChk) (defScope sChk) .none kV_fK dc_fK pm_fK an_fK cd_fK ct_fK), sl_fK⟩)
    (c_fK : PySem.W.codeIn K cd_fK "check_ladder" = true)
    (k_fK : PySem.W.keepIn K (.ref fK) = true)
    (b_fF : PySem.W.nsIn K mainGlobals "_law_s_right" = some (some (.ref fF)))
    (l_fF : K.lookup fF = some ⟨oc_fF, od_fF, .func (PySem.W.fnOf "_law_s_right" "_law_s_right" (defArgs sSri) (defBody sSri) (defScope sSri) .none kV_fF dc_fF pm_fF an_fF cd_fF ct_fF), sl_fF⟩)
    (c_fF : PySem.W.codeIn K cd_fF "_law_s_right" = true)
    (k_fF : PySem.W.keepIn K (.ref fF) = true)
    (b_gO : PySem.W.nsIn K mainGlobals "has_opposites" = some (some (.ref gO)))
    (l_gO : K.lookup gO = some ⟨oc_gO, od_gO, .func (PySem.W.fnOf "has_opposites" "has_opposites" (defArgs sHop) (defBody sHop) (defScope sHop) .none kV_gO dc_gO pm_gO an_gO (.ref cO) ct_gO), sl_gO⟩)
    (c_gO : PySem.W.codeIn K (.ref cO) "has_opposites" = true)
    (k_gO : PySem.W.keepIn K (.ref gO) = true)
    (b_xr : PySem.W.nsIn K mainGlobals "pieces_of_row" = some (some (.ref xr)))
    (l_xr : K.lookup xr = some ⟨oc_xr, od_xr, .func (PySem.W.fnOf "pieces_of_row" "pieces_of_row" (defArgs sPor) (defBody sPor) (defScope sPor) .none kV_xr dc_xr pm_xr an_xr cd_xr ct_xr), sl_xr⟩)
    (c_xr : PySem.W.codeIn K cd_xr "pieces_of_row" = true)
    (k_xr : PySem.W.keepIn K (.ref xr) = true)
    (b_xP : PySem.W.nsIn K mainGlobals "pieces_of" = some (some (.ref xP)))
    (l_xP : K.lookup xP = some ⟨oc_xP, od_xP, .func (PySem.W.fnOf "pieces_of" "pieces_of" (defArgs sPof) (defBody sPof) (defScope sPof) .none kV_xP dc_xP pm_xP an_xP cd_xP ct_xP), sl_xP⟩)
    (c_xP : PySem.W.codeIn K cd_xP "pieces_of" = true)
    (k_xP : PySem.W.keepIn K (.ref xP) = true)
    (b_xt : PySem.W.nsIn K mainGlobals "tree_of_row" = some (some (.ref xt)))
    (l_xt : K.lookup xt = some ⟨oc_xt, od_xt, .func (PySem.W.fnOf "tree_of_row" "tree_of_row" (defArgs sTor) (defBody sTor) (defScope sTor) .none kV_xt dc_xt pm_xt an_xt cd_xt ct_xt), sl_xt⟩)
    (c_xt : PySem.W.codeIn K cd_xt "tree_of_row" = true)
    (k_xt : PySem.W.keepIn K (.ref xt) = true)
    (b_xT : PySem.W.nsIn K mainGlobals "tree_of" = some (some (.ref xT)))
    (l_xT : K.lookup xT = some ⟨oc_xT, od_xT, .func (PySem.W.fnOf "tree_of" "tree_of" (defArgs sTof) (defBody sTof) (defScope sTof) .none kV_xT dc_xT pm_xT an_xT cd_xT ct_xT), sl_xT⟩)
    (c_xT : PySem.W.codeIn K cd_xT "tree_of" = true)
    (k_xT : PySem.W.keepIn K (.ref xT) = true)
    (b_xh : PySem.W.nsIn K mainGlobals "height_of_row" = some (some (.ref xh)))
    (l_xh : K.lookup xh = some ⟨oc_xh, od_xh, .func (PySem.W.fnOf "height_of_row" "height_of_row" (defArgs sHor) (defBody sHor) (defScope sHor) .none kV_xh dc_xh pm_xh an_xh cd_xh ct_xh), sl_xh⟩)
    (c_xh : PySem.W.codeIn K cd_xh "height_of_row" = true)
    (k_xh : PySem.W.keepIn K (.ref xh) = true)
    (b_xH : PySem.W.nsIn K mainGlobals "heights" = some (some (.ref xH)))
    (l_xH : K.lookup xH = some ⟨oc_xH, od_xH, .func (PySem.W.fnOf "heights" "heights" (defArgs sHei) (defBody sHei) (defScope sHei) .none kV_xH dc_xH pm_xH an_xH cd_xH ct_xH), sl_xH⟩)
    (c_xH : PySem.W.codeIn K cd_xH "heights" = true)
    (k_xH : PySem.W.keepIn K (.ref xH) = true)
    (b_yp : PySem.W.nsIn K mainGlobals "put_rows" = some (some (.ref yp)))
    (l_yp : K.lookup yp = some ⟨oc_yp, od_yp, .func (PySem.W.fnOf "put_rows" "put_rows" (defArgs sPut) (defBody sPut) (defScope sPut) .none kV_yp dc_yp pm_yp an_yp cd_yp ct_yp), sl_yp⟩)
    (c_yp : PySem.W.codeIn K cd_yp "put_rows" = true)
    (k_yp : PySem.W.keepIn K (.ref yp) = true)
    (b_yr : PySem.W.nsIn K mainGlobals "rows_of" = some (some (.ref yr)))
    (l_yr : K.lookup yr = some ⟨oc_yr, od_yr, .func (PySem.W.fnOf "rows_of" "rows_of" (defArgs sRof) (defBody sRof) (defScope sRof) .none kV_yr dc_yr pm_yr an_yr cd_yr ct_yr), sl_yr⟩)
    (c_yr : PySem.W.codeIn K cd_yr "rows_of" = true)
    (k_yr : PySem.W.keepIn K (.ref yr) = true)
    (b_ys : PySem.W.nsIn K mainGlobals "_law_stree" = some (some (.ref ys)))
    (l_ys : K.lookup ys = some ⟨oc_ys, od_ys, .func (PySem.W.fnOf "_law_stree" "_law_stree" (defArgs sStt) (defBody sStt) (defScope sStt) .none kV_ys dc_ys pm_ys an_ys cd_ys ct_ys), sl_ys⟩)
    (c_ys : PySem.W.codeIn K cd_ys "_law_stree" = true)
    (k_ys : PySem.W.keepIn K (.ref ys) = true)
    (b_yc : PySem.W.nsIn K mainGlobals "_law_stree_case" = some (some (.ref yc)))
    (l_yc : K.lookup yc = some ⟨oc_yc, od_yc, .func (PySem.W.fnOf "_law_stree_case" "_law_stree_case" (defArgs sSts) (defBody sSts) (defScope sSts) .none kV_yc dc_yc pm_yc an_yc cd_yc ct_yc), sl_yc⟩)
    (c_yc : PySem.W.codeIn K cd_yc "_law_stree_case" = true)
    (k_yc : PySem.W.keepIn K (.ref yc) = true)
    (b_yi : PySem.W.nsIn K mainGlobals "_law_spieces" = some (some (.ref yi)))
    (l_yi : K.lookup yi = some ⟨oc_yi, od_yi, .func (PySem.W.fnOf "_law_spieces" "_law_spieces" (defArgs sSpc) (defBody sSpc) (defScope sSpc) .none kV_yi dc_yi pm_yi an_yi cd_yi ct_yi), sl_yi⟩)
    (c_yi : PySem.W.codeIn K cd_yi "_law_spieces" = true)
    (k_yi : PySem.W.keepIn K (.ref yi) = true)
    (b_yd : PySem.W.nsIn K mainGlobals "_law_s_due" = some (some (.ref yd)))
    (l_yd : K.lookup yd = some ⟨oc_yd, od_yd, .func (PySem.W.fnOf "_law_s_due" "_law_s_due" (defArgs sSdu) (defBody sSdu) (defScope sSdu) .none kV_yd dc_yd pm_yd an_yd cd_yd ct_yd), sl_yd⟩)
    (c_yd : PySem.W.codeIn K cd_yd "_law_s_due" = true)
    (k_yd : PySem.W.keepIn K (.ref yd) = true)
    (b_yg : PySem.W.nsIn K mainGlobals "_law_s_growing" = some (some (.ref yg)))
    (l_yg : K.lookup yg = some ⟨oc_yg, od_yg, .func (PySem.W.fnOf "_law_s_growing" "_law_s_growing" (defArgs sSgr) (defBody sSgr) (defScope sSgr) .none kV_yg dc_yg pm_yg an_yg cd_yg ct_yg), sl_yg⟩)
    (c_yg : PySem.W.codeIn K cd_yg "_law_s_growing" = true)
    (k_yg : PySem.W.keepIn K (.ref yg) = true)
    (lc_O : K.lookup cO = some ⟨e_O, dd_O, .fields vs_O, sf_O⟩)
    (v_O : vs_O[11]? = some (Value.ref PO))
    (hd_O : PySem.W.codeHdIn K cO PO = true)
    (np_O : K.lookup PO = none)
    (b_MOST_THINGS : PySem.W.nsIn K mainGlobals "MOST_THINGS" = some (some (.int 8 tk_MOST_THINGS)))
    (b_MOST_ROWS : PySem.W.nsIn K mainGlobals "MOST_ROWS" = some (some (.int 200 tk_MOST_ROWS)))
    (b_MOST_PIECES : PySem.W.nsIn K mainGlobals "MOST_PIECES" = some (some (.int 360 tk_MOST_PIECES)))
    (b_MOST_WITHIN : PySem.W.nsIn K mainGlobals "MOST_WITHIN" = some (some (.int 40 tk_MOST_WITHIN)))
    (z_zip : PySem.W.nsIn K mainGlobals "zip" = some none)
    (z_range : PySem.W.nsIn K mainGlobals "range" = some none)
    (z_isinstance : PySem.W.nsIn K mainGlobals "isinstance" = some none)
    (z_len : PySem.W.nsIn K mainGlobals "len" = some none)
    (z_list : PySem.W.nsIn K mainGlobals "list" = some none)
    (z_min : PySem.W.nsIn K mainGlobals "min" = some none)
    (z_max : PySem.W.nsIn K mainGlobals "max" = some none)
    (z_tuple : PySem.W.nsIn K mainGlobals "tuple" = some none)
    (z_sorted : PySem.W.nsIn K mainGlobals "sorted" = some none)
    (z_all : PySem.W.nsIn K mainGlobals "all" = some none)
    (z_any : PySem.W.nsIn K mainGlobals "any" = some none)
    (z_bool : PySem.W.nsIn K mainGlobals "bool" = some none)
    (z_int : PySem.W.nsIn K mainGlobals "int" = some none)
    (z_repr : PySem.W.nsIn K mainGlobals "repr" = some none)
    (z_abs : PySem.W.nsIn K mainGlobals "abs" = some none)
    (z_set : PySem.W.nsIn K mainGlobals "set" = some none)
    (z_enumerate : PySem.W.nsIn K mainGlobals "enumerate" = some none)
    (z_str : PySem.W.nsIn K mainGlobals "str" = some none)
    (z_ValueError : PySem.W.nsIn K mainGlobals "ValueError" = some none)
    (z_reversed : PySem.W.nsIn K mainGlobals "reversed" = some none)
    (a3 : PySem.W.nsIn K mainGlobals "TooGreat" = some (some (.ref c3)))
    (hs3 : PySem.W.subIn K (.ref c3) (.type "BaseException") = some true)
    (ty3 : PySem.W.typeIn K (.ref c3) = some (.type "type"))
    (xc3 : PySem.W.excIn K c3 [.type "ValueError", .type "Exception", .type "BaseException", .type "object"] "ValueError.__new__" = true)
    (kp3 : PySem.W.keepIn K (.ref c3) = true) :
    LawG l w K 44 63 "script" mg top h := by
  have e := htop.symm.trans (PySem.W.mg_of X G b_fL)
  cases e
  have F_fM := fun_mk (st := sMix) l_fM c_fM k_fM
  have B_fM := F_fM.binds (ps := ["cell", "at"]) fun _ _ _ _ _ _ us hl => match us, hl with | [_, _], _ => rfl
  have g_fM := PySem.W.mg_of X G b_fM
  have F_fD := fun_mk (st := sDrw) l_fD c_fD k_fD
  have B_fD := F_fD.binds (ps := ["feed", "many"]) fun _ _ _ _ _ _ us hl => match us, hl with | [_, _], _ => rfl
  have g_fD := PySem.W.mg_of X G b_fD
  have F_fO := fun_mk (st := sOpn) l_fO c_fO k_fO
  have B_fO := F_fO.binds (ps := ["script"]) fun _ _ _ _ _ _ us hl => match us, hl with | [_], _ => rfl
  have g_fO := PySem.W.mg_of X G b_fO
  have F_fT := fun_mk (st := sThg) l_fT c_fT k_fT
  have B_fT := F_fT.binds (ps := ["feed", "least", "most"]) fun _ _ _ _ _ _ us hl => match us, hl with | [_, _, _], _ => rfl
  have g_fT := PySem.W.mg_of X G b_fT
  have F_fC := fun_mk (st := sClm) l_fC c_fC k_fC
  have B_fC := F_fC.binds (ps := ["feed", "things", "most"]) fun _ _ _ _ _ _ us hl => match us, hl with | [_, _, _], _ => rfl
  have g_fC := PySem.W.mg_of X G b_fC
  have F_fB := fun_mk (st := sBok) l_fB c_fB k_fB
  have B_fB := F_fB.binds (ps := ["feed", "things", "most"]) fun _ _ _ _ _ _ us hl => match us, hl with | [_, _, _], _ => rfl
  have g_fB := PySem.W.mg_of X G b_fB
  have F_fx := fun_mk (st := sSct) l_fx c_fx k_fx
  have B_fx := F_fx.binds (ps := ["one", "other", "k"]) fun _ _ _ _ _ _ us hl => match us, hl with | [_, _, _], _ => rfl
  have g_fx := PySem.W.mg_of X G b_fx
  have F_fL := fun_mk (st := sLaw) l_fL c_fL k_fL
  have B_fL := F_fL.binds (ps := ["script"]) fun _ _ _ _ _ _ us hl => match us, hl with | [_], _ => rfl
  have g_fL := PySem.W.mg_of X G b_fL
  have F_fw := fun_mk (st := sWho) l_fw c_fw k_fw
  have B_fw := F_fw.binds (ps := ["thing"]) fun _ _ _ _ _ _ us hl => match us, hl with | [_], _ => rfl
  have g_fw := PySem.W.mg_of X G b_fw
  have F_fm := fun_mk (st := sCme) l_fm c_fm k_fm
  have B_fm := F_fm.binds (ps := ["one", "other", "k"]) fun _ _ _ _ _ _ us hl => match us, hl with | [_, _, _], _ => rfl
  have g_fm := PySem.W.mg_of X G b_fm
  have F_fn := fun_mk (st := sCon) l_fn c_fn k_fn
  have B_fn := F_fn.binds (ps := ["one", "other", "k"]) fun _ _ _ _ _ _ us hl => match us, hl with | [_, _, _], _ => rfl
  have g_fn := PySem.W.mg_of X G b_fn
  have F_fb := fun_mk (st := sNum) l_fb c_fb k_fb
  have B_fb := F_fb.binds (ps := ["thing", "many"]) fun _ _ _ _ _ _ us hl => match us, hl with | [_, _], _ => rfl
  have g_fb := PySem.W.mg_of X G b_fb
  have F_fR := fun_mk (st := sRow) l_fR c_fR k_fR
  have B_fR := F_fR.binds (ps := ["book", "claims", "row"]) fun _ _ _ _ _ _ us hl => match us, hl with | [_, _, _], _ => rfl
  have g_fR := PySem.W.mg_of X G b_fR
  have F_fA := fun_mk (st := sAhe) l_fA c_fA k_fA
  have B_fA := F_fA.binds (ps := ["book", "thing"]) fun _ _ _ _ _ _ us hl => match us, hl with | [_, _], _ => rfl
  have g_fA := PySem.W.mg_of X G b_fA
  have F_fI := fun_mk (st := sClo) l_fI c_fI k_fI
  have B_fI := F_fI.binds (ps := ["book", "ladder"]) fun _ _ _ _ _ _ us hl => match us, hl with | [_, _], _ => rfl
  have g_fI := PySem.W.mg_of X G b_fI
  have F_fK := fun_mk (st := sChk) l_fK c_fK k_fK
  have B_fK := F_fK.binds (ps := ["book", "ladder"]) fun _ _ _ _ _ _ us hl => match us, hl with | [_, _], _ => rfl
  have g_fK := PySem.W.mg_of X G b_fK
  have F_fF := fun_mk (st := sSri) l_fF c_fF k_fF
  have B_fF := F_fF.binds (ps := ["book", "tree"]) fun _ _ _ _ _ _ us hl => match us, hl with | [_, _], _ => rfl
  have g_fF := PySem.W.mg_of X G b_fF
  have F_gO := fun_mk (st := sHop) l_gO c_gO k_gO
  have B_gO := F_gO.binds (ps := ["says"]) fun _ _ _ _ _ _ us hl => match us, hl with | [_], _ => rfl
  have g_gO := PySem.W.mg_of X G b_gO
  have F_xr := fun_mk (st := sPor) l_xr c_xr k_xr
  have B_xr := F_xr.binds (ps := ["row", "pieces_ahead"]) fun _ _ _ _ _ _ us hl => match us, hl with | [_, _], _ => rfl
  have g_xr := PySem.W.mg_of X G b_xr
  have F_xP := fun_mk (st := sPof) l_xP c_xP k_xP
  have B_xP := F_xP.binds (ps := ["book", "ladder"]) fun _ _ _ _ _ _ us hl => match us, hl with | [_, _], _ => rfl
  have g_xP := PySem.W.mg_of X G b_xP
  have F_xt := fun_mk (st := sTor) l_xt c_xt k_xt
  have B_xt := F_xt.binds (ps := ["row", "trees_ahead"]) fun _ _ _ _ _ _ us hl => match us, hl with | [_, _], _ => rfl
  have g_xt := PySem.W.mg_of X G b_xt
  have F_xT := fun_mk (st := sTof) l_xT c_xT k_xT
  have B_xT := F_xT.binds (ps := ["book", "ladder"]) fun _ _ _ _ _ _ us hl => match us, hl with | [_, _], _ => rfl
  have g_xT := PySem.W.mg_of X G b_xT
  have F_xh := fun_mk (st := sHor) l_xh c_xh k_xh
  have B_xh := F_xh.binds (ps := ["row", "heights_ahead"]) fun _ _ _ _ _ _ us hl => match us, hl with | [_, _], _ => rfl
  have g_xh := PySem.W.mg_of X G b_xh
  have F_xH := fun_mk (st := sHei) l_xH c_xH k_xH
  have B_xH := F_xH.binds (ps := ["book", "ladder"]) fun _ _ _ _ _ _ us hl => match us, hl with | [_, _], _ => rfl
  have g_xH := PySem.W.mg_of X G b_xH
  have F_yp := fun_mk (st := sPut) l_yp c_yp k_yp
  have B_yp := F_yp.binds (ps := ["tree", "rows", "numbers"]) fun _ _ _ _ _ _ us hl => match us, hl with | [_, _, _], _ => rfl
  have g_yp := PySem.W.mg_of X G b_yp
  have F_yr := fun_mk (st := sRof) l_yr c_yr k_yr
  have B_yr := F_yr.binds (ps := ["tree"]) fun _ _ _ _ _ _ us hl => match us, hl with | [_], _ => rfl
  have g_yr := PySem.W.mg_of X G b_yr
  have F_ys := fun_mk (st := sStt) l_ys c_ys k_ys
  have B_ys := F_ys.binds (ps := ["feed", "book", "deep"]) fun _ _ _ _ _ _ us hl => match us, hl with | [_, _, _], _ => rfl
  have g_ys := PySem.W.mg_of X G b_ys
  have F_yc := fun_mk (st := sSts) l_yc c_yc k_yc
  have B_yc := F_yc.binds (ps := ["feed"]) fun _ _ _ _ _ _ us hl => match us, hl with | [_], _ => rfl
  have g_yc := PySem.W.mg_of X G b_yc
  have F_yi := fun_mk (st := sSpc) l_yi c_yi k_yi
  have B_yi := F_yi.binds (ps := ["tree"]) fun _ _ _ _ _ _ us hl => match us, hl with | [_], _ => rfl
  have g_yi := PySem.W.mg_of X G b_yi
  have F_yd := fun_mk (st := sSdu) l_yd c_yd k_yd
  have B_yd := F_yd.binds (ps := ["tree"]) fun _ _ _ _ _ _ us hl => match us, hl with | [_], _ => rfl
  have g_yd := PySem.W.mg_of X G b_yd
  have F_yg := fun_mk (st := sSgr) l_yg c_yg k_yg
  have B_yg := F_yg.binds (ps := ["many"]) fun _ _ _ _ _ _ us hl => match us, hl with | [_], _ => rfl
  have g_yg := PySem.W.mg_of X G b_yg
  have C_gO : Se.FunC K "has_opposites" "has_opposites" sHop gO cO _ := ⟨⟨_, _, _, _, _, _, _, _, rfl, l_gO, c_gO⟩, k_gO⟩
  have M_MOST_THINGS := PySem.W.mg_of X G b_MOST_THINGS
  have M_MOST_ROWS := PySem.W.mg_of X G b_MOST_ROWS
  have M_MOST_PIECES := PySem.W.mg_of X G b_MOST_PIECES
  have M_MOST_WITHIN := PySem.W.mg_of X G b_MOST_WITHIN
  have Z_zip := PySem.W.mg_none_of X G z_zip
  have Z_range := PySem.W.mg_none_of X G z_range
  have Z_isinstance := PySem.W.mg_none_of X G z_isinstance
  have Z_len := PySem.W.mg_none_of X G z_len
  have Z_list := PySem.W.mg_none_of X G z_list
  have Z_min := PySem.W.mg_none_of X G z_min
  have Z_max := PySem.W.mg_none_of X G z_max
  have Z_tuple := PySem.W.mg_none_of X G z_tuple
  have Z_sorted := PySem.W.mg_none_of X G z_sorted
  have Z_all := PySem.W.mg_none_of X G z_all
  have Z_any := PySem.W.mg_none_of X G z_any
  have Z_bool := PySem.W.mg_none_of X G z_bool
  have Z_int := PySem.W.mg_none_of X G z_int
  have Z_repr := PySem.W.mg_none_of X G z_repr
  have Z_abs := PySem.W.mg_none_of X G z_abs
  have Z_set := PySem.W.mg_none_of X G z_set
  have Z_enumerate := PySem.W.mg_none_of X G z_enumerate
  have Z_str := PySem.W.mg_none_of X G z_str
  have Z_ValueError := PySem.W.mg_none_of X G z_ValueError
  have Z_reversed := PySem.W.mg_none_of X G z_reversed
  
  refine ⟨PySem.W.fnOf "law" "law" (defArgs sLaw) (defBody sLaw) (defScope sLaw) .none kV_fL dc_fL pm_fL an_fL cd_fL ct_fL, [(cO, PO)], spLaw PO K, ?_, ?_, ?_, fun s u => .of_eq rfl, fun H a ns _ hT hS => ?_, fun base hb hn hT => ?_⟩
  · intro p hp
    simp only [List.mem_cons, List.not_mem_nil, or_false] at hp
    rcases hp with rfl
    · exact ow "has_opposites" (by simp) _ g_gO cO PO _ _ _ _ _ _ l_gO rfl rfl lc_O v_O
  · intro p hp
    simp only [List.mem_cons, List.not_mem_nil, or_false] at hp
    rcases hp with rfl
    · exact np_O
  · intro p hp
    simp only [List.mem_cons, List.not_mem_nil, or_false] at hp
    rcases hp with rfl
    · exact PySem.W.codeHd_of_K X hd_O
  · exact ⟨a, ns, rfl, hS, ⟨#[], hT (cO, PO) (by simp), trivial⟩, fun _ => rfl⟩
  · have t_O := hT (cO, PO) (by simp)
    have T_O : TabB base mg cO PO := ⟨t_O.code, t_O.bm, t_O.gP⟩
    have Ts : Zs mg := by constructor <;> assumption
    have Tc : Zc mg := by constructor <;> assumption
    have Td : Zd mg := by constructor <;> assumption
    have Tp : Zp mg := by constructor <;> assumption
    have Ty : Zy mg := by constructor <;> assumption
    have Tk : Zk mg := by constructor <;> assumption
    have Ttv : Tl.Zv mg := by constructor <;> assumption
    have Tpr : Ro.Zl mg := by constructor <;> assumption
    have GD : FnOk l.prog w K mg base CX0 2 fD _ ["feed", "many"] spDrw := ok_drw F_fD F_fM B_fM g_fM Z_len
    have GO : FnOk l.prog w K mg base CX0 1 fO _ ["script"] (spOpn K) := ok_opn F_fO Z_list
    have GT : FnOk l.prog w K mg base CX0 3 fT _ ["feed", "least", "most"] spThg := ok_thg F_fT Ts F_fD B_fD g_fD GD
    have GC : FnOk l.prog w K mg base CX0 3 fC _ ["feed", "things", "most"] spClm := ok_clm F_fC Ts F_fD B_fD g_fD GD
    have GB : FnOk l.prog w K mg base CX0 4 fB _ ["feed", "things", "most"] spBok := ok_bok F_fB Ts F_fD B_fD g_fD GD F_fC B_fC g_fC GC
    have GX : FnOk l.prog w K mg base CX0 1 fx _ ["one", "other", "k"] spSct := ok_sct F_fx Td
    have Gw : FnOk l.prog w K mg base CX0 1 fw _ ["thing"] spWhG := ok_whp F_fw Tc
    have Gh : FnOk l.prog w K mg base CX0 3 gO _ ["says"] (spHop PO) := ok_hop C_gO Tc T_O
    have Gm : FnOk l.prog w K mg base CX0 2 fm _ ["one", "other", "k"] spCme := ok_cme F_fm Tc M_MOST_THINGS F_fw B_fw g_fw (wh_weak Gw)
    have Gm2 : FnOk l.prog w K mg base CX0 2 fm _ ["one", "other", "k"] spCmN := ok_cmN F_fm Tc M_MOST_THINGS F_fw B_fw g_fw Gw
    have Gn1 : FnOk l.prog w K mg base CX0 4 fn _ ["one", "other", "k"] (spCon PO) := ok_con F_fn Tc F_fm B_fm g_fm Gm k_gO B_gO g_gO Gh
    have Gn2 : FnOk l.prog w K mg base CX0 4 fn _ ["one", "other", "k"] spCoN := ok_coN F_fn Tc F_fm B_fm g_fm Gm2 k_gO B_gO g_gO Gh
    have Gb : FnOk l.prog w K mg base CX0 2 fb _ ["thing", "many"] spNmG := ok_numG F_fb F_fw B_fw g_fw Gw
    have Gb2 : FnOk l.prog w K mg base CX0 2 fb _ ["thing", "many"] spNum := ok_num F_fb F_fw B_fw g_fw (wh_weak Gw)
    have GR : FnOk l.prog w K mg base CX0 5 fR _ ["book", "claims", "row"] (spRoG PO) := ok_roG F_fR Tp F_fb B_fb g_fb Gb F_fn B_fn g_fn (ok_or Gn1 Gn2)
    have GR2 : FnOk l.prog w K mg base CX0 5 fR _ ["book", "claims", "row"] (spRow PO) := ok_row F_fR Tp F_fb B_fb g_fb Gb2 F_fn B_fn g_fn Gn1
    have GA : FnOk l.prog w K mg base CX0 6 fA _ ["book", "thing"] (spAhG PO) := ok_ahG F_fA Tp M_MOST_ROWS F_fR B_fR g_fR GR
    have GA2 : FnOk l.prog w K mg base CX0 6 fA _ ["book", "thing"] (spAhe PO) := ok_ahe F_fA Tp M_MOST_ROWS F_fR B_fR g_fR GR2
    have GI : FnOk l.prog w K mg base CX0 7 fI _ ["book", "ladder"] (spClo PO) := ok_clo F_fI Tp F_fA B_fA g_fA GA2
    have GK : FnOk l.prog w K mg base CX0 8 fK _ ["book", "ladder"] (spChk PO) := ok_chk F_fK F_fI B_fI g_fI GI
    have Xr : FnOk l.prog w K mg base CX0 1 xr _ ["row", "pieces_ahead"] spPor := ok_por F_xr
    have XP : FnOk l.prog w K mg base CX0 9 xP _ ["book", "ladder"] (spPof PO) := ok_pof F_xP F_fK B_fK g_fK GK F_xr B_xr g_xr Xr
    have Xh : FnOk l.prog w K mg base CX0 1 xh _ ["row", "heights_ahead"] spHor := ok_hor F_xh Tp
    have XH : FnOk l.prog w K mg base CX0 9 xH _ ["book", "ladder"] (spHei PO) := ok_hei F_xH F_fK B_fK g_fK GK F_xh B_xh g_xh Xh
    have Xt : FnOk l.prog w K mg base CX0 1 xt _ ["row", "trees_ahead"] spTor := ok_tor F_xt
    have C3 : CG K mg c3 := ⟨xc3, PySem.W.mg_of X G a3, kp3, hs3, ty3⟩
    have XT : Gx2.FnX l.prog w K mg base (L2.CX l.prog w) 10 xT _ ["book", "ladder"] (spTof c3 PO) := ok_tof F_xT C3 M_MOST_PIECES M_MOST_WITHIN F_xP B_xP g_xP XP F_xH B_xH g_xH XH F_xt B_xt g_xt Xt
    have Ys : FnOk l.prog w K mg base CX0 13 ys _ ["feed", "book", "deep"] (spStt 10) := ok_stt F_ys Ttv B_ys g_ys F_fD B_fD g_fD GD F_fx B_fx g_fx GX 10
    have Yc : FnOk l.prog w K mg base CX0 14 yc _ ["feed"] (spTr 20000) := ok_sts F_yc F_fD B_fD g_fD GD F_fT B_fT g_fT GT F_fB B_fB g_fB GB F_ys B_ys g_ys Ys
    have Yi : FnOk l.prog w K mg base CX0 41 yi _ ["tree"] (spSpc 40) := ok_spc F_yi B_yi g_yi 40
    have Yp : FnOk l.prog w K mg base CX0 41 yp _ ["tree", "rows", "numbers"] (spPut 40) := ok_put F_yp Tpr B_yp g_yp 40
    have Yr : FnOk l.prog w K mg base CX0 42 yr _ ["tree"] (spRof 40) := ok_rof F_yr F_yp B_yp g_yp 40 Yp
    have Yd : FnOk l.prog w K mg base CX0 42 yd _ ["tree"] spSdu := ok_sdu F_yd F_yi B_yi g_yi Yi
    have Yg : FnOk l.prog w K mg base CX0 1 yg _ ["many"] spSgr := ok_sgr F_yg Tk
    have YR : Gx2.FnX l.prog w K mg base CX0 43 fF _ ["book", "tree"] (spSri PO) := ok_sri F_fF Tk F_yd B_yd g_yd Yd F_yr B_yr g_yr Yr F_xT B_xT g_xT (cx_down XT)
    exact ok_law F_fL Tk F_fO B_fO g_fO GO F_fD B_fD g_fD GD F_yc B_yc g_yc Yc F_yg B_yg g_yg Yg F_fF B_fF g_fF YR
end K23

open PySem PySem.W PyProof.Rows
set_option maxHeartbeats 0 in
theorem PySem.Challenge.cw_sparecut_k23_rows_of_trees_holds : PySem.Challenge.rw_sparecut_k23_rows_of_trees.Holds := by
  w_on; o_law; k_head; (case hw => w_witness2)
  k_fill
  refine Eg.walk_own (l := PySem.Challenge.rw_sparecut_k23_rows_of_trees) (m := 63) (k := 44) (x := "script") ["has_opposites"] rfl (by decide) rfl ⟨rfl, by decide, by decide⟩ (by decide +kernel) (fun w h Y => PySem.W.kIn_of Y) ?F
  case F =>
    intro w mg fa h Y KX G hmg ow
    refine' K23.all_mk KX G hmg ow ?b_fM ?l_fM ?c_fM ?k_fM ?b_fD ?l_fD ?c_fD ?k_fD ?b_fO ?l_fO ?c_fO ?k_fO ?b_fT ?l_fT ?c_fT ?k_fT ?b_fC ?l_fC ?c_fC ?k_fC ?b_fB ?l_fB ?c_fB ?k_fB ?b_fx ?l_fx ?c_fx ?k_fx ?b_fL ?l_fL ?c_fL ?k_fL ?b_fw ?l_fw ?c_fw ?k_fw ?b_fm ?l_fm ?c_fm ?k_fm ?b_fn ?l_fn ?c_fn ?k_fn ?b_fb ?l_fb ?c_fb ?k_fb ?b_fR ?l_fR ?c_fR ?k_fR ?b_fA ?l_fA ?c_fA ?k_fA ?b_fI ?l_fI ?c_fI ?k_fI ?b_fK ?l_fK ?c_fK ?k_fK ?b_fF ?l_fF ?c_fF ?k_fF ?b_gO ?l_gO ?c_gO ?k_gO ?b_xr ?l_xr ?c_xr ?k_xr ?b_xP ?l_xP ?c_xP ?k_xP ?b_xt ?l_xt ?c_xt ?k_xt ?b_xT ?l_xT ?c_xT ?k_xT ?b_xh ?l_xh ?c_xh ?k_xh ?b_xH ?l_xH ?c_xH ?k_xH ?b_yp ?l_yp ?c_yp ?k_yp ?b_yr ?l_yr ?c_yr ?k_yr ?b_ys ?l_ys ?c_ys ?k_ys ?b_yc ?l_yc ?c_yc ?k_yc ?b_yi ?l_yi ?c_yi ?k_yi ?b_yd ?l_yd ?c_yd ?k_yd ?b_yg ?l_yg ?c_yg ?k_yg ?lc_O ?v_O ?hd_O ?np_O ?b_MOST_THINGS ?b_MOST_ROWS ?b_MOST_PIECES ?b_MOST_WITHIN ?z_zip ?z_range ?z_isinstance ?z_len ?z_list ?z_min ?z_max ?z_tuple ?z_sorted ?z_all ?z_any ?z_bool ?z_int ?z_repr ?z_abs ?z_set ?z_enumerate ?z_str ?z_ValueError ?z_reversed ?a3 ?hs3 ?ty3 ?xc3 ?kp3
    (case b_fM => k_is)
    (case l_fM => k_is)
    (case c_fM => k_is)
    (case k_fM => k_is)
    (case b_fD => k_is)
    (case l_fD => k_is)
    (case c_fD => k_is)
    (case k_fD => k_is)
    (case b_fO => k_is)
    (case l_fO => k_is)
    (case c_fO => k_is)
    (case k_fO => k_is)
    (case b_fT => k_is)
    (case l_fT => k_is)
    (case c_fT => k_is)
    (case k_fT => k_is)
    (case b_fC => k_is)
    (case l_fC => k_is)
    (case c_fC => k_is)
    (case k_fC => k_is)
    (case b_fB => k_is)
    (case l_fB => k_is)
    (case c_fB => k_is)
    (case k_fB => k_is)
    (case b_fx => k_is)
    (case l_fx => k_is)
    (case c_fx => k_is)
    (case k_fx => k_is)
    (case b_fL => k_is)
    (case l_fL => k_is)
    (case c_fL => k_is)
    (case k_fL => k_is)
    (case b_fw => k_is)
    (case l_fw => k_is)
    (case c_fw => k_is)
    (case k_fw => k_is)
    (case b_fm => k_is)
    (case l_fm => k_is)
    (case c_fm => k_is)
    (case k_fm => k_is)
    (case b_fn => k_is)
    (case l_fn => k_is)
    (case c_fn => k_is)
    (case k_fn => k_is)
    (case b_fb => k_is)
    (case l_fb => k_is)
    (case c_fb => k_is)
    (case k_fb => k_is)
    (case b_fR => k_is)
    (case l_fR => k_is)
    (case c_fR => k_is)
    (case k_fR => k_is)
    (case b_fA => k_is)
    (case l_fA => k_is)
    (case c_fA => k_is)
    (case k_fA => k_is)
    (case b_fI => k_is)
    (case l_fI => k_is)
    (case c_fI => k_is)
    (case k_fI => k_is)
    (case b_fK => k_is)
    (case l_fK => k_is)
    (case c_fK => k_is)
    (case k_fK => k_is)
    (case b_fF => k_is)
    (case l_fF => k_is)
    (case c_fF => k_is)
    (case k_fF => k_is)
    (case b_gO => k_is)
    (case l_gO => k_is)
    (case c_gO => k_is)
    (case k_gO => k_is)
    (case b_xr => k_is)
    (case l_xr => k_is)
    (case c_xr => k_is)
    (case k_xr => k_is)
    (case b_xP => k_is)
    (case l_xP => k_is)
    (case c_xP => k_is)
    (case k_xP => k_is)
    (case b_xt => k_is)
    (case l_xt => k_is)
    (case c_xt => k_is)
    (case k_xt => k_is)
    (case b_xT => k_is)
    (case l_xT => k_is)
    (case c_xT => k_is)
    (case k_xT => k_is)
    (case b_xh => k_is)
    (case l_xh => k_is)
    (case c_xh => k_is)
    (case k_xh => k_is)
    (case b_xH => k_is)
    (case l_xH => k_is)
    (case c_xH => k_is)
    (case k_xH => k_is)
    (case b_yp => k_is)
    (case l_yp => k_is)
    (case c_yp => k_is)
    (case k_yp => k_is)
    (case b_yr => k_is)
    (case l_yr => k_is)
    (case c_yr => k_is)
    (case k_yr => k_is)
    (case b_ys => k_is)
    (case l_ys => k_is)
    (case c_ys => k_is)
    (case k_ys => k_is)
    (case b_yc => k_is)
    (case l_yc => k_is)
    (case c_yc => k_is)
    (case k_yc => k_is)
    (case b_yi => k_is)
    (case l_yi => k_is)
    (case c_yi => k_is)
    (case k_yi => k_is)
    (case b_yd => k_is)
    (case l_yd => k_is)
    (case c_yd => k_is)
    (case k_yd => k_is)
    (case b_yg => k_is)
    (case l_yg => k_is)
    (case c_yg => k_is)
    (case k_yg => k_is)
    (case lc_O => k_is)
    (case v_O => exact rfl)
    (case hd_O => kernel_rfl)
    (case np_O => kernel_rfl)
    (case b_MOST_THINGS => k_is)
    (case b_MOST_ROWS => k_is)
    (case b_MOST_PIECES => k_is)
    (case b_MOST_WITHIN => k_is)
    (case z_zip => k_is)
    (case z_range => k_is)
    (case z_isinstance => k_is)
    (case z_len => k_is)
    (case z_list => k_is)
    (case z_min => k_is)
    (case z_max => k_is)
    (case z_tuple => k_is)
    (case z_sorted => k_is)
    (case z_all => k_is)
    (case z_any => k_is)
    (case z_bool => k_is)
    (case z_int => k_is)
    (case z_repr => k_is)
    (case z_abs => k_is)
    (case z_set => k_is)
    (case z_enumerate => k_is)
    (case z_str => k_is)
    (case z_ValueError => k_is)
    (case z_reversed => k_is)
    (case a3 => k_is)
    (case hs3 => k_is)
    (case ty3 => k_is)
    (case xc3 => k_exc)
    (case kp3 => k_is)
