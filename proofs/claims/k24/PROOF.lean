import PyProof.Rows.All
import Wide.All
import OpenK.AllK
import Wide.FinOn
import PyProof.EqAt
import PyProof.EqKinds
import PyProof.TupleCall
import PySem.Challenge.RW_sparecut_k24_regular_trees
import HandS.ForMost
import HandS.Evl
import HandS.Conv
import HandS.Exc
import HandS.ExcOwn
import HandS.ExcInit
import HandS.ExcValue
import HandS.ExcIs
import KE.KExcIs
import KE.KxText
import HandS.AnyAll
import HandS.GenOver
import HandS.SortInts
import HandS.TupAny
import HandS.TupMul
import HandS.Strs
import HandS.IsInst
import HandS.EndTab
import HandS.EndOwn
import HandS.SetFor
import KE.KNestM
import KE.GoesEnum
import HandS.FStr
import HandS.RaiseMore
import KE.DatumOrd
import HandS.Zip
set_option Elab.async false
set_option linter.all false
set_option maxRecDepth 100000
set_option maxHeartbeats 2000000
namespace Nw
open PySem PySem.Spec PyProof.Rows L2
/-! ### readings that hide the heap: what is new is told by its facts alone -/
theorem same_new {H : Hp} {p : Addr} {o : HO} (h : H p = none) : Same H (upd H p o) := fun b x e => by
  rw [upd_ne (ne_of_none e h)]
  exact e
theorem sqt {K : PySem.W.Frag} {H H' : Hp} {a : Addr} {xs : List V} (e : Same H H') (h : SqT K H a xs) : SqT K H' a xs := by
  rcases h with (h | ⟨o, h⟩) | h
  · exact .inl (.inl (e _ _ h))
  · exact .inl (.inr ⟨o, e _ _ h⟩)
  · exact .inr h
/-- a new object o at a place of its own -/
def New (H : Hp) (o : HO) (Q : VK) : Prop := ∀ p H2, H p = none → Same H H2 → H2 p = some o → (∀ b, b ≠ p → H2 b = H b) → Q (.ref p) H2
theorem New.to {H : Hp} {o : HO} {Q : VK} (h : New H o Q) : ∀ p, H p = none → Q (.ref p) (upd H p o) := fun p n => h p _ n (same_new n) upd_same fun b nb => upd_ne nb
section
variable {X : Cx} {e : Expr} {es : List Expr} {t t' : TE} {ta : TA} {pos : Pos}
theorem pe_weak (h : PE X e t) (i : ∀ σ H Q, t' σ H Q → t σ H Q) : PE X e t' := ⟨fun pins s σ H Q I q => h.run pins s σ H Q I (i σ H Q q)⟩
theorem op_weak {f : Value → Value → Sem Value} {r r' : R2} (h : OpR X f r) (i : ∀ x y H Q, r' x y H Q → r x y H Q) : OpR X f r' := fun pins s σ H x y v u Q I rx ry q => h pins s σ H x y v u Q I rx ry (i x y H Q q)
theorem call_weak {f : Value} {r r' : List V → Hp → VK → Prop} (h : CallR X f r) (i : ∀ xs H Q, r' xs H Q → r xs H Q) : CallR X f r' := fun pins s σ H xs us Q I rx q => h pins s σ H xs us Q I rx (i xs H Q q)
theorem mt_weak {id : String} {r r' : V → List V → Hp → VK → Prop} (h : MtR X id r) (i : ∀ x xs H Q, r' x xs H Q → r x xs H Q) : MtR X id r' := fun pins s σ H x xs v us Q I rx rs q => h pins s σ H x xs v us Q I rx rs (i x xs H Q q)
theorem sl_weak {r r' : V → Option Int → Option Int → Hp → VK → Prop} (h : SlR X r) (i : ∀ x lo hi H Q, r' x lo hi H Q → r x lo hi H Q) : SlR X r' := fun pins s σ H x v vl vu lo hi sl Q I rx a b c q => h pins s σ H x v vl vu lo hi sl Q I rx a b c (i x lo hi H Q q)
/-- what follows may be asked for less -/
def clA (t : TA) : TA := fun σ H R => ∃ R' : List V → Hp → Prop, (∀ xs H1, R' xs H1 → R xs H1) ∧ t σ H R'
theorem pa_cl (h : PA X es ta) : PA X es (clA ta) := ⟨fun ps pins s σ H Q I ⟨R', i, q⟩ => thn (h.run ps pins s σ H R' I q) fun us s1 ⟨vs, H1, I1, r1, q1⟩ => ⟨vs, H1, I1, r1, i vs H1 q1⟩⟩
def clE (t : TE) : TE := fun σ H R => ∃ R' : VK, (∀ v H1, R' v H1 → R v H1) ∧ t σ H R'
theorem pe_cl (h : PE X e t) : PE X e (clE t) := ⟨fun pins s σ H Q I ⟨R', i, q⟩ => thn (h.run pins s σ H R' I q) fun u s1 ⟨v, H1, I1, r1, q1⟩ => ⟨v, H1, I1, r1, i v H1 q1⟩⟩
def nLst (t : TA) : TE := fun σ H Q => t σ H fun xs H1 => xs.length ≤ sizeLine ∧ New H1 (.lst xs) Q
def nTup (t : TA) : TE := fun σ H Q => t σ H fun xs H1 => xs.length ≤ sizeLine ∧ New H1 (.tup xs) Q
theorem pe_lstN (h : PA X es ta) : PE X (.List es pos) (nLst ta) := pe_weak (pe_lst (pa_cl h)) fun _ _ _ q => ⟨_, fun _ _ z => ⟨z.1, z.2.to⟩, q⟩
theorem pe_tupN {x1} (h : PA X es ta) : PE X (.Tuple es x1 pos) (nTup ta) := pe_weak (pe_tup (pa_cl h)) fun _ _ _ q => ⟨_, fun _ _ z => ⟨z.1, z.2.to⟩, q⟩
/-- xs + ys (lists) -/
def rCatN : R2 := fun x y H Q => ∃ p q xs ys, x = .ref p ∧ y = .ref q ∧ H p = some (.lst xs) ∧ H q = some (.lst ys) ∧ xs.length + ys.length ≤ sizeLine ∧ New H (.lst (xs ++ ys)) Q
theorem op_catN : OpR X (binaryOp .Add) rCatN := op_weak op_cat fun x y H Q ⟨p, q, xs, ys, h1, h2, h3, h4, h5, h6⟩ => ⟨p, q, xs, ys, h1, h2, h3, h4, h5, h6.to⟩
/-- a tuple of xs, new or not -/
def ResT (H : Hp) (xs : List V) (Q : VK) : Prop := ∀ p H2, Same H H2 → H2 p = some (.tup xs) → Q (.ref p) H2
theorem call_list_ofN : CallR X (.type "list") (fun xs H Q => ∃ p ys, xs = [.ref p] ∧ (SqL X.K H p ys ∨ SqT X.K H p ys) ∧ New H (.lst ys) Q) := call_weak call_list_of fun _ _ _ ⟨p, ys, h1, h2, h3⟩ => ⟨p, ys, h1, h2, h3.to⟩
theorem call_tuple_ofN : CallR X (.type "tuple") (fun xs H Q => ∃ p ys, xs = [.ref p] ∧ SqL X.K H p ys ∧ New H (.tup ys) Q) := call_weak call_tuple_of fun _ _ _ ⟨p, ys, h1, h2, h3⟩ => ⟨p, ys, h1, .inl ⟨h2, h3.to⟩⟩
theorem sl_listN : SlR X (fun x lo hi H Q => ∃ a xs, x = .ref a ∧ SqL X.K H a xs ∧ New H (.lst (cutV xs lo hi)) Q) := sl_weak sl_list fun _ _ _ _ _ ⟨a, xs, h1, h2, h3⟩ => ⟨a, xs, h1, h2, h3.to⟩
end
/-! ### data by its values -/
theorem dp_bls {K : PySem.W.Frag} {H : Hp} : ∀ bs : List Bool, DpAll K H (bs.map V.bl) (bs.map PyData.bool)
  | [] => .nil
  | b :: r => .cons (.bl b) (dp_bls r)
theorem dp_ints {K : PySem.W.Frag} {H : Hp} : ∀ ns : List Int, DpAll K H (ns.map V.int) (ns.map PyData.int)
  | [] => .nil
  | b :: r => .cons (.int b) (dp_ints r)
/-- flat data: numbers, truths, None -/
def flatD : PyData → Bool
  | .none | .bool _ | .int _ => true
  | _ => false
theorem flat_lay : ∀ ds : List PyData, ds.all flatD = true → PyData.canLayAll0 ds = true
  | [], _ => rfl
  | d :: r, h => by
    rw [List.all_cons, Bool.and_eq_true] at h
    show (PyData.canLay0 d && PyData.canLayAll0 r) = true
    rw [flat_lay r h.2, Bool.and_true]
    cases d <;> first | rfl | exact Bool.noConfusion h.1
theorem flat_depth : ∀ ds : List PyData, ds.all flatD = true → PyData.depthAll ds ≤ 1
  | [], _ => by decide
  | d :: r, h => by
    rw [List.all_cons, Bool.and_eq_true] at h
    have ih := flat_depth r h.2
    have hd : PyData.depth d ≤ 1 := by
      cases d <;> first | decide | exact Bool.noConfusion h.1 | exact Nat.zero_le _ | exact Nat.le_refl _
    show Nat.max (PyData.depth d) (PyData.depthAll r) ≤ 1
    exact Nat.max_le.mpr ⟨hd, ih⟩
theorem shaped_list {ds : List PyData} (h : ds.all flatD = true) : SeqAt.shaped (.list ds) = true := by
  have e := flat_depth ds h
  have e2 : PyData.depth (.list ds) ≤ 64 := by
    show PyData.depthAll ds + 1 ≤ 64
    omega
  show (PyData.canLayAll0 ds && decide (PyData.depth (.list ds) ≤ 64)) = true
  rw [flat_lay ds h, decide_eq_true e2]
  rfl
theorem shaped_tuple {ds : List PyData} (h : ds.all flatD = true) : SeqAt.shaped (.tuple ds) = true := by
  have e := flat_depth ds h
  have e2 : PyData.depth (.tuple ds) ≤ 64 := by
    show PyData.depthAll ds + 1 ≤ 64
    omega
  show (PyData.canLayAll0 ds && decide (PyData.depth (.tuple ds) ≤ 64)) = true
  rw [flat_lay ds h, decide_eq_true e2]
  rfl
theorem flat_bls (bs : List Bool) : (bs.map PyData.bool).all flatD = true := by
  rw [List.all_map, List.all_eq_true]
  exact fun _ _ => rfl
theorem flat_ints (ns : List Int) : (ns.map PyData.int).all flatD = true := by
  rw [List.all_map, List.all_eq_true]
  exact fun _ _ => rfl
theorem eqv_self {d : PyData} (h : SeqAt.shaped d = true) : PyData.eqv d d = true := SeqAt.eqv_refl d (SeqAt.canLay_of_shaped h)
end Nw
namespace Nw
open PySem PySem.Spec PyProof.Rows L2
section
variable {X : Cx}
theorem cr_sortedN : CallR X (.builtin "sorted") (fun vs H Q => ∃ (a : Addr) (ns : List Int), vs = [V.ref a] ∧ SqL X.K H a (ns.map V.int) ∧ ∀ ns' : List Int, ns'.Perm ns → ns'.Pairwise (· ≤ ·) → New H (.lst (ns'.map V.int)) Q) :=
  call_weak cr_sortedI fun _ _ _ ⟨a, ns, h1, h2, h3⟩ => ⟨a, ns, h1, h2, fun ns' p hp hs np => (h3 ns' hp hs).to p np⟩
theorem cutV_all {xs : List V} {lo hi : Option Int} (h : HT.sIx xs.length 0 lo = 0 ∧ HT.sIx xs.length xs.length hi = xs.length) : cutV xs lo hi = xs := by
  unfold cutV
  rw [h.1, h.2]
  exact List.take_length
theorem sl_tupN : SlR X (fun x lo hi H Q => ∃ a xs, x = .ref a ∧ H a = some (.tup xs) ∧ ResT H (cutV xs lo hi) Q) := sl_weak sl_tupA fun _ lo hi H Q ⟨a, xs, h1, h2, h3⟩ =>
  ⟨a, xs, h1, .of h2, fun z => h3 a H (Same.refl H) (by rw [cutV_all z]; exact h2), fun _ p np => h3 p _ (same_new np) upd_same⟩
theorem op_catTN : OpR X (binaryOp .Add) (fun x y H Q => ∃ a b xs ys, x = .ref a ∧ y = .ref b ∧ H a = some (.tup xs) ∧ H b = some (.tup ys) ∧ xs.length + ys.length ≤ sizeLine ∧ ResT H (xs ++ ys) Q) :=
  op_weak op_catA fun _ _ H Q ⟨a, b, xs, ys, h1, h2, h3, h4, h5, h6⟩ => ⟨a, b, xs, ys, h1, h2, .of h3, .of h4, h5, fun z => h6 b H (Same.refl H) (by rw [z]; exact h4), fun _ z => h6 a H (Same.refl H) (by rw [z, List.append_nil]; exact h3), fun _ _ p np => h6 p _ (same_new np) upd_same⟩
theorem op_repTN : OpR X (binaryOp .Mult) (fun x y H Q => ∃ l k xs, x = .ref l ∧ y = .int k ∧ H l = some (.tup xs) ∧ xs ≠ [] ∧ 2 ≤ k ∧ k ≤ 1000 ∧ xs.length ≤ 1000 ∧ ResT H (List.replicate k.toNat xs).flatten Q) :=
  op_weak op_repT fun _ _ H Q ⟨l, k, xs, h1, h2, h3, h4, h5, h6, h7, h8⟩ => ⟨l, k, xs, h1, h2, .of h3, h4, h5, h6, h7, fun p np => h8 p _ (same_new np) upd_same⟩
/-! the same rules with the written part by its name (for comprehensions' blocks) -/
variable {K : PySem.W.Frag}
theorem ix_tupB (h : X.K = K) : IxR X (rIxT K) := by subst h; exact ix_tup
theorem ix_listB (h : X.K = K) : IxR X (rIxL K) := by subst h; exact ix_list
theorem op_in_seqB (h : X.K = K) : OpR X (compareOp .In) (rIn K false) := by subst h; exact op_in_seq
theorem op_notIn_seqB (h : X.K = K) : OpR X (compareOp .NotIn) (rIn K true) := by subst h; exact op_notIn_seq
theorem call_len_seqB (h : X.K = K) : CallR X (.builtin "len") (fun xs H Q => ∃ p ys, xs = [.ref p] ∧ (SqL K H p ys ∨ SqT K H p ys) ∧ Q (.int ys.length) H) := by subst h; exact call_len_seq
theorem call_isiB (h : X.K = K) : CallR X (.builtin "isinstance") (rIsi K) := by subst h; exact call_isi
theorem op_eqDB (h : X.K = K) (hu : X.A.units + 64 < cLine) : OpR X (compareOp .Eq) (rEqD K) := by subst h; exact op_eqD hu
theorem op_neDB (h : X.K = K) (hu : X.A.units + 64 < cLine) : OpR X (compareOp .NotEq) (rNeD K) := by subst h; exact op_neD hu
end
end Nw
namespace Ev1
open PySem PySem.Spec PyProof.Rows L2 Nw
/-! ### exceptions as values -/
/-- at a an exception of the class cls, its dict d -/
def ExV (cls : Value) (d : Option Addr) (a : Addr) : HO := .ext fun h => ∃ (oe : Obj) (vs : Array Value), h.get? a = some oe ∧ Zc cls d oe ∧ oe.data = .fields vs
/-- an exception that was made of the class cls, its dict d: it stands at a place of its own -/
def Made (H1 : Hp) (cls : Value) (d : Option Addr) (Q : VK) : Prop := ∀ a H3, H1 a = none → Same H1 H3 → H3 a = some (ExV cls d a) → Q (.ref a) H3
theorem pe_made {X : Cx} {e : Expr} {t : L2.St → Hp → XK → Prop} (m : PMk X e t) : PE X e (fun σ H Q => t σ H fun cls d H1 => Made H1 cls d Q) := by
  refine ⟨fun pins s σ H Q I h => thn (m pins s σ H _ I h) fun u s1 z => ?_⟩
  obtain ⟨a, oe, vs, sI, H1, cls, d, rfl, J, k, na, ha, hz, hd, _, ha1, os, ag, _, q⟩ := z
  have new : ObjOk X.prog X.w (upd H1 a (ExV cls d a)) s1.heap a (ExV cls d a) := ⟨⟨oe, vs, ha, hz, hd⟩, ⟨oe, ha⟩, fun h1 h2 ⟨o, v, y, r⟩ i => ⟨o, v, i o y, r⟩⟩
  exact ⟨.ref a, upd H1 a (ExV cls d a), J.call' (ch := []) os (Un.laidN k na ha1) (J.hok.laidN k ha1 new) ag (fun b y => absurd y (by simp)), rfl, q a _ ha1 (same_new ha1) upd_same⟩
/-- at a an exception of the class D, with the field at = y -/
def ExF (H : Hp) (a D : Addr) (y : V) : Prop := ∃ dx, H a = some (ExV (.ref D) (some dx) a) ∧ H dx = some (.xd [(("at" : Str), y)])
/-- at a an exception of the class D -/
def ExAt (H : Hp) (a D : Addr) : Prop := H a = some (ExO (.ref D) a) ∨ ∃ y, ExF H a D y
theorem ExF.same {H H' : Hp} {a D : Addr} {y : V} (h : ExF H a D y) (s : Same H H') : ExF H' a D y := by
  obtain ⟨dx, h1, h2⟩ := h
  exact ⟨dx, s _ _ h1, s _ _ h2⟩
theorem ExAt.same {H H' : Hp} {a D : Addr} (h : ExAt H a D) (s : Same H H') : ExAt H' a D := by
  rcases h with h | ⟨y, h⟩
  · exact .inl (s _ _ h)
  · exact .inr ⟨y, h.same s⟩
theorem notCls_of {o : Obj} {vs : Array Value} (hd : o.data = .fields vs) : PySem.W.notCls o = true := by
  unfold PySem.W.notCls
  rw [hd]
section
variable {X : Cx} {pins : List (Addr × Obj)} {σ : L2.St} {H : Hp} {s : Shared} {a D : Addr} {y : V}
theorem ExF.inst (I : Inv X pins σ H s) (h : ExF H a D y) : ∃ ox od u, PySem.W.InstAt s.heap a ox D (some od) ∧ PySem.W.lookIn "at" od = some (some u) ∧ RelV y u := by
  obtain ⟨dx, h1, h2⟩ := h
  have z1 : ObjOk X.prog X.w H s.heap a (.ext fun h => ∃ (oe : Obj) (vs : Array Value), h.get? a = some oe ∧ Zc (.ref D) (some dx) oe ∧ oe.data = .fields vs) := I.hok a _ h1
  obtain ⟨⟨oe, vs, ha, ⟨hc, hd⟩, hv⟩, _⟩ := z1
  have z2 : ObjOk X.prog X.w H s.heap dx (.xd [(("at" : Str), y)]) := I.hok dx _ h2
  obtain ⟨mA, hn, hr⟩ := z2
  obtain ⟨od, ho, hl⟩ := lookIn_ns hn
  have l : List.lookup ("at" : Str) [(("at" : Str), y)] = some y := by simp [List.lookup]
  obtain ⟨u, hu, ru⟩ := RelO.some_of (v := y) (o := mA "at") (by rw [← l]; exact hr "at")
  exact ⟨oe, od, u, ⟨ha, hc, notCls_of hv, by rw [hd]; exact ho⟩, by rw [hl, hu], ru⟩
theorem ExAt.inst (I : Inv X pins σ H s) (h : ExAt H a D) : ∃ ox od, PySem.W.InstAt s.heap a ox D od := by
  rcases h with h | ⟨y, h⟩
  · obtain ⟨⟨oe, vs, ha, ⟨hc, hd⟩, hv, _⟩, _⟩ := I.hok a _ h
    exact ⟨oe, none, ⟨ha, hc, notCls_of hv, by rw [hd]; exact trivial⟩⟩
  · obtain ⟨ox, od, _, J, _⟩ := h.inst I
    exact ⟨ox, some od, J⟩
end
/-- X(e), X an own class without own __init__ -/
def tExN (C : Addr) (te : TE) : TE := fun σ H Q => te σ H fun _ H1 => ∀ a H2, H1 a = none → Same H1 H2 → H2 a = some (ExO (.ref C) a) → Q (.ref a) H2
theorem pe_excN {X : Cx} {C : Addr} {bmB : List Value} {B newId initId : String} {x : Str} {e : Expr} {te : TE} {p pos : Pos} (F : ExcBaseFacts B newId initId bmB) (q : PySem.W.excIn X.K C bmB newId = true) (gC : X.mg x = some (.ref C)) (kC : PySem.W.keepIn X.K (.ref C) = true) (hg : Gl X x)
    (he : PE X e te) (hs : starEach [e] X.env = (false, eval e X.env) :: starEach [] X.env := by rfl) (hdb : (x == ("__debug__" : Str)) = false := by decide) : PE X (.Call (.Name x p) [e] [] pos) (tExN C te) :=
  pe_weak (pe_exc1 F q gC kC hg (pe_cl he) hs hdb) fun _ _ _ h => ⟨_, fun _ _ z a na => z a _ na (same_new na) upd_same, h⟩
/-- isinstance(e, c) of an exception -/
def rIsX (K : PySem.W.Frag) : List V → Hp → VK → Prop := fun xs H Q => ∃ (a D : Addr) (c : V) (cv : Value) (b : Bool), xs = [.ref a, c] ∧ ExAt H a D ∧ ExcC K D ∧ (∀ u, RelV c u → u = cv) ∧ PySem.W.kitOne K (.ref D) cv = some b ∧ Q (.bl b) H
theorem call_isX {X : Cx} : CallR X (.builtin "isinstance") (rIsX X.K) := by
  intro pins s σ H xs us Q I r h
  obtain ⟨a, D, c, cv, b, rfl, hE, C, hcv, e, q⟩ := h
  cases r with
  | cons rx rr =>
    cases rr with
    | cons rt rr =>
      cases rr
      cases rx
      have ec := hcv _ rt
      subst ec
      obtain ⟨ox, od, J⟩ := hE.inst I
      have cl : (PySem.W.clsIn X.K D).isSome = true := by
        obtain ⟨cd, hc, _⟩ := PySem.W.any_some C.hd
        rw [hc]
        rfl
      exact PySem.W.kia_one (PySem.W.kitx_exc cl C.hg C.hk C.hs C.ha C.hn C.ht C.hm) I.kIn J e (fun z => nomatch z) fun tk => ⟨.bl b, H, I.kept (t' := tk) fun _ _ z => z, rfl, q⟩
/-- e.at of an exception -/
def tAtX (K : PySem.W.Frag) (te : TE) : TE := fun σ H Q => te σ H fun x H1 => ∃ (a D : Addr) (y : V), x = .ref a ∧ ExF H1 a D y ∧ ExcC K D ∧ PySem.W.findIn K (.ref D) "at" = some none ∧ Q y H1
theorem pe_atX {X : Cx} {e : Expr} {te : TE} {pos : Pos} (he : PE X e te) (hb : attributeBase e "at" X.env (eval e X.env) = eval e X.env := by rfl) : PE X (.Attribute e "at" pos) (tAtX X.K te) := by
  refine ⟨fun pins s σ H Q I h => attr_of hb (thn (he.run pins s σ H _ I h) fun u s1 hh => ?_)⟩
  obtain ⟨x, H1, I1, rx, a, D, y, rfl, hE, C, nf, q⟩ := hh
  cases rx
  obtain ⟨ox, od, u, J, l, ru⟩ := hE.inst I1
  exact HandSPX.exc_get I1.kIn J C.hg C.hk C.hs (PySem.W.findObj_own C.hd nf rfl l) (handed_of ru) ⟨y, H1, I1.tok _, ru, q⟩
/-- the promise of «def __init__(self, at): self.at = at» -/
def spInit (K : PySem.W.Frag) : Sp := fun vs H Q _ => ∃ (a C : Addr) (y : V), vs = [.ref a, y] ∧ OexC K C ∧ PySem.W.findIn K (.ref C) "at" = some none ∧ H a = some (exo a C none) ∧
  ∀ dx, H dx = none → dx ≠ a → Q .non (upd (upd H dx (exd dx [(("at" : Str), y)])) a (exo a C (some dx)))
theorem del_new {H1 : Hp} {a dx : Addr} {o1 o2 o3 : HO} (na : H1 a = none) (ne : dx ≠ a) : del (upd (upd (upd H1 a o1) dx o2) a o3) a = upd H1 dx o2 := by
  funext b
  by_cases hb : b = a
  · subst hb
    rw [del_same, upd_ne (Ne.symm ne), na]
  · rw [del_ne hb, upd_ne hb]
    by_cases hd : b = dx
    · subst hd
      rw [upd_same, upd_same]
    · rw [upd_ne hd, upd_ne hd, upd_ne hb]
/-- what C(y) asks, C with that __init__: the exception and its field -/
theorem made_F {K : PySem.W.Frag} {C : Addr} {y : V} {H1 : Hp} {Q : VK} (T : OexC K C) (nf : PySem.W.findIn K (.ref C) "at" = some none) (h : ∀ a H2, H1 a = none → Same H1 H2 → ExF H2 a C y → Q (.ref a) H2) :
    [y].length ≤ 1000 ∧ ∀ a, H1 a = none → spInit K (.ref a :: ([y] ++ [])) (upd H1 a (exo a C none)) (fun v H2 => v = .non ∧ ∃ (d : Addr) (fs : List (Str × V)), H2 a = some (exo a C (some d)) ∧ H2 d = some (exd d fs) ∧ H1 d = none ∧
      Made (upd (del H2 a) d (.xd fs)) (Value.ref C) (some d) Q) (fun _ _ _ => False) := by
  refine ⟨by simp, fun a na => ⟨a, C, y, rfl, T, nf, upd_same, fun dx nd ne => ?_⟩⟩
  have nd1 : H1 dx = none := by
    rw [upd_ne ne] at nd
    exact nd
  refine ⟨rfl, dx, [(("at" : Str), y)], upd_same, by rw [upd_ne ne, upd_same], nd1, ?_⟩
  rw [del_new na ne, upd_upd]
  intro b H3 nb s3 e3
  have sd : Same H1 (upd H1 dx (.xd [(("at" : Str), y)])) := same_new nd1
  exact h b H3 (sd.free nb) (sd.trans s3) ⟨dx, e3, s3 _ _ upd_same⟩
end Ev1
namespace Gx
open PySem PySem.Spec PyProof.Rows L2 GxR
/-! ### any, all of a generator expression whose element is run by the layer's own rules -/
/-- the generator's frame running, awake under any | all -/
abbrev gCx (X : Cx) (ge : Expr) (s : Shared) (H : Hp) (cenv : Env) (it : Addr) (fp : List Addr) (pn : List (Addr × Obj)) : Cx :=
  { X with
    s_0 := s
    H_0 := H
    env := cenv
    outer := X.stack
    stack := cenv :: X.stack
    ex := fp
    fn := fun _ => false
    pn := pn
    xe := fun _ _ => False
    A := X.A.in1.in1.over (.compLoop ge 0 (.ref it) .none cenv) [] }
theorem room_gen {k : Nat} {X : Cx} {elt : Expr} {gs : List Comprehension} {scope : Scope} {pos : Pos} {s : Shared} {H : Hp} {cenv : Env} {it : Addr} {fp : List Addr} {pn : List (Addr × Obj)} (r : Room (k + 1) X.A) :
    Room k (gCx X (.GeneratorExp elt gs scope pos) s H cenv it fp pn).A := by
  refine ⟨r.hd, ?_, ?_⟩
  · have := r.dp
    show X.A.depth + 0 + 1 + 3 * k + 5 < recursionLimit
    omega
  · have := r.un
    show X.A.units + 1 + 1 + 0 + 3 + 16 * k + 200 < cLine
    omega
/-- gens, drawn and toks say nothing but that all are bare -/
theorem inv_gens {X : Cx} {pins : List (Addr × Obj)} {σ : L2.St} {H : Hp} {s s' : Shared} (I : Inv X pins σ H s) (hh : s'.heap = s.heap) (ho : s'.os = s.os) (hb : AllBare s'.gens) : Inv X pins σ H s' := by
  obtain ⟨h, g, d, t, o⟩ := s
  obtain ⟨h', g', d', t', o'⟩ := s'
  dsimp only at hh ho hb
  subst hh ho
  exact { ok := I.ok, os := I.os, bare := hb, base := I.base, loc := I.loc, cell := I.cell, free := I.free, freeC := I.freeC, pin := I.pin, hok := I.hok, len := I.len }
theorem bare_set {s : Shared} {g : Nat} {x : GenState} (h : AllBare s.gens) (hx : x.bare = true) : AllBare (s.setGen g x).gens := by
  intro y hy
  have hy' : y ∈ s.gens.setIfInBounds g x := hy
  obtain ⟨i, hi, e⟩ := Array.mem_iff_getElem.mp hy'
  by_cases hg : g = i
  · subst hg
    rw [Array.getElem_setIfInBounds_self] at e
    rw [← e]
    exact hx
  · rw [Array.getElem_setIfInBounds_ne (by simpa using hi) hg] at e
    rw [← e]
    exact h _ (Array.getElem_mem _)
section
variable {X : Cx} {pins : List (Addr × Obj)} {σ : L2.St} {H : Hp} {s : Shared}
/-- what the frame of the generator knows as it begins -/
theorem gen_start {ge : Expr} {scope : Scope} {own : List (Str × Nat)} {fp : List Addr} {it a : Addr} {code : Value} {go : Obj} {gs : Array GenState} {tk : Nat} {h5 : Heap} {m : Str → Option Value} (I : Inv X pins σ H s) (hc : X.calm = true) (ok : BlkOk X.N X.env.scope scope own) (hN : X.N.Nodup)
    (nc : ∀ y ∈ scope.names, y.2 ≠ .cell) (hfp : ∀ b ∈ fp, FpOk X pins H b ∧ b < s.heap.objs.size) (fr : (X.A.in1.in1.over (.compLoop ge 0 (.ref it) .none (genEnv scope (cloFrom X.env.cells scope.names []) s.heap.objs.size code builtinsNs X.env)) []).frames = some (genEnv scope (cloFrom X.env.cells scope.names []) s.heap.objs.size code builtinsNs X.env :: X.stack))
    (hg : AllBare gs) (kp : ∀ b o, s.heap.get? b = some o → h5.get? b = some o) (hns : h5.Ns s.heap.objs.size m) (ha : h5.get? a = some go) (ha1 : s.heap.objs.size < a) (hd : ∀ v, go.data ≠ .cell v) :
    Inv (gCx X ge s H (genEnv scope (cloFrom X.env.cells scope.names []) s.heap.objs.size code builtinsNs X.env) it fp [(a, go)]) [] (wipe σ (own.map (·.2))) H { s with gens := gs, toks := tk, heap := h5 } := by
  have cm : ∀ {y : Str} {c : Addr}, (cloFrom X.env.cells scope.names []).lookup y = some c → X.env.cells.lookup y = some c := fun {y c} e => by
    rcases cloFrom_mem (PySem.mem_of_lookup e) with z | ⟨h1, z⟩
    · cases z
    · have q : ∃ c', X.env.cells.lookup y = some c' := by
        rcases ok.free (y, .free) h1 rfl with k | k
        · exact I.ok.has y (.inl k)
        · exact I.ok.has y (.inr k)
      obtain ⟨c', q⟩ := q
      rw [q] at z
      rw [q, z]
      rfl
  have ch : ∀ {y : Str}, scope.names.lookup y = some .free → ∃ c, (cloFrom X.env.cells scope.names []).lookup y = some c := fun {y} e => mem_lookup (cloFrom_has (PySem.mem_of_lookup e))
  have noc : ∀ {y : Str}, scope.names.lookup y ≠ some .cell := fun {y} e => nc _ (PySem.mem_of_lookup e) rfl
  have stL : ∀ b ∈ frs X.stack, b < s.heap.objs.size := fun b hb => by
    obtain ⟨_, o, e, _⟩ := I.stack.mem hb
    exact Heap.lt_size e
  have okG : (gCx X ge s H (genEnv scope (cloFrom X.env.cells scope.names []) s.heap.objs.size code builtinsNs X.env) it fp [(a, go)]).Ok := {
    mod := I.ok.mod
    kind := ok.kind
    glob := I.ok.glob
    blt := rfl
    above := Nat.le_refl _
    inj := fun x y c h1 h2 => I.ok.inj x y c (cm h1) (cm h2)
    has := fun x h => h.elim (fun k => absurd k noc) fun k => ch k
    cab := fun x c h => Bool.noConfusion h
    hd := fun h => I.ok.hd h
    frames := fr
    stk := .inr ⟨rfl, rfl⟩
    exf := fun b hb => ⟨Nat.ne_of_lt (hfp b hb).2, fun x c e => (hfp b hb).1.2.2.2.2.1 x c (cm e)⟩
    bs := I.bs
    bsz := Nat.le_trans I.ok.bsz I.sz
    noex := fun b o e hb => by
      rcases (hfp b hb).1.2.2.2.1 with z | z
      · exact I.ok.noex b o e z
      · exact Nat.lt_irrefl _ (Nat.lt_of_lt_of_le (Heap.lt_size e) (Nat.le_trans I.ok.bsz z))
    exfs := fun b hb z => by
      rcases List.mem_cons.mp (I.stkSub b z) with y | y
      · exact (hfp b hb).1.2.1 y
      · exact (hfp b hb).1.2.2.1 y
    funs := I.stack
    frf := I.stkFree }
  refine { ok := okG, os := rfl, bare := hg, base := Un.kept kp, loc := ⟨m, hns, fun i x v e1 e2 e3 => ?_⟩, cell := fun x c e => ?_, free := I.hok.fresh (Nat.le_refl _), freeC := fun x c e => I.freeC x c (cm e), pin := fun p hp => ?_, hok := I.hok.kept kp, len := (wipe_length _ _).trans I.len }
  · obtain ⟨e2, hi⟩ := wipe_some e2
    have hf : scope.names.lookup x = some .free := by
      have no : ∀ k, scope.names.lookup x = some k → ¬ (k = .local ∨ k = .cell) := fun k hk hh => by
        rcases ok.own _ (PySem.mem_of_lookup hk) hh with z | z
        · obtain ⟨p, hp, hx⟩ := List.mem_map.mp z
          have q := ok.ix p hp
          have hx' : p.1 = x := hx
          rw [hx'] at q
          exact hi (List.mem_map.mpr ⟨p, hp, nodup_ix hN q e1⟩)
        · exact z (List.mem_of_getElem? e1)
      have e3 : Vis scope x := e3
      rcases e3 with k | k | k
      · exact absurd (.inl rfl) (no _ k)
      · exact absurd (.inr rfl) (no _ k)
      · exact k
    have hv := ok.free _ (PySem.mem_of_lookup hf) rfl
    obtain ⟨m0, _, hl⟩ := I.loc
    obtain ⟨u, ru, q⟩ := hl i x v e1 e2 (.inr hv)
    refine ⟨u, ru, .inr ⟨.inr hf, ?_⟩⟩
    rcases q with ⟨k, _⟩ | ⟨_, c, ec, z⟩
    · have k' : X.env.scope.names.lookup x = some .local := k
      rcases hv with y | y
      · have y' : X.env.scope.names.lookup x = some .cell := y
        rw [k'] at y'
        cases y'
      · have y' : X.env.scope.names.lookup x = some .free := y
        rw [k'] at y'
        cases y'
    · obtain ⟨c', e'⟩ := ch hf
      have e2 := cm e'
      rw [ec] at e2
      cases e2
      exact ⟨c, e', z.keeps kp⟩
  · obtain ⟨v, z⟩ := I.cell x c (cm e)
    exact ⟨v, z.keeps kp⟩
  · have hp' : p ∈ [(a, go)] ++ ([] : List (Addr × Obj)) := hp
    have e : p = (a, go) := by simpa using hp'
    subst e
    refine ⟨ha, I.hok.fresh (Nat.le_of_lt ha1), Nat.ne_of_gt ha1, fun z => ?_, hd⟩
    exact Nat.lt_irrefl _ (Nat.lt_trans (stL _ z) ha1)
end
/-- what a turn's way through the generator must reach. stopb: the truth at which any (true), all (false) stops -/
def GEndP (Y : Cx) (σw : L2.St) (stopb : Bool) (Q : VK) : Nat → Shared → Shared → Prop := fun _ _ s => ∃ H', Inv Y [] σw H' s ∧ Q (.bl (!stopb)) H'
def GProto (Y : Cx) (σw : L2.St) (fp : List Addr) (tn : Nat → Heap → Prop) (W : Nat → Nat → Hp → Prop) (stopb : Bool) (Q : VK) : Protocol := fun n _ v s kap => ∃ (k : Bool) (H' : Hp), v = .bool k ∧ Inv Y [] σw H' s ∧
  ((k = stopb ∧ Q (.bl stopb) H') ∨ (k = !stopb ∧ ∃ i m, m < n ∧ W i m H' ∧ ∀ s'' : Shared, s''.heap = s.heap → s''.os = s.os → AllBare s''.gens → kap (.send .none) s''))
section
variable {X : Cx} {elt tg iter : Expr} {ifs : List Expr} {scope : Scope} {gpos : Pos} {s4 : Shared} {H4 : Hp} {cenv : Env} {it : Addr} {fp : List Addr} {pn : List (Addr × Obj)} {J : It} {tn : Nat → Heap → Prop} {g : TG} {tt : TT} {te : TE} {own : List Nat} {σ : L2.St} {stopb : Bool} {Q : VK} {W : Nat → Nat → Hp → Prop}
/-- the turns of the generator's own loop -/
theorem gen_loop (hc : X.calm = true) (hco : cenv.scope.isCoroutine = false) (T : Turn X.prog X.w X.K tg J fp it tn) (hpn : ∀ p ∈ pn, ∀ b ∈ fp, p.1 ≠ b)
    (pg : PG (gCx X (.GeneratorExp elt [⟨tg, iter, ifs, 0⟩] scope gpos) s4 H4 cenv it fp pn) tg g) (pt : PTs (gCx X (.GeneratorExp elt [⟨tg, iter, ifs, 0⟩] scope gpos) s4 H4 cenv it fp pn) ifs tt) (pe : PE (gCx X (.GeneratorExp elt [⟨tg, iter, ifs, 0⟩] scope gpos) s4 H4 cenv it fp pn) elt te)
    (turn : ∀ i m H, W i m H → (J.stop i H ∧ Q (.bl (!stopb)) H) ∨ (J.go i H ∧ ∃ Nx : Hp → Prop, (∀ H', Nx H' → ∃ m', m' < m ∧ W (i + 1) m' H') ∧ ∀ x H', J.yld i H x H' → g x (wipe σ own) H' fun σ2 H2 => wipe σ2 own = wipe σ own ∧ tt σ2 H2 fun b H3 =>
      if b = true then te σ2 H3 fun y H4 => (y = .bl stopb ∧ Q (.bl stopb) H4) ∨ (y = .bl (!stopb) ∧ Nx H4) else Nx H3)) :
    ∀ (m n i : Nat) (s0 s : Shared) (H' : Hp), m < n → W i m H' → Inv (gCx X (.GeneratorExp elt [⟨tg, iter, ifs, 0⟩] scope gpos) s4 H4 cenv it fp pn) [] (wipe σ own) H' s → tn i s.heap → (∀ b ∈ fp, H' b = none) →
      Seg (model X.prog X.w) X.A.in1.in1 (fun n s0 r s1 => r = .ok .next ∧ GEndP (gCx X (.GeneratorExp elt [⟨tg, iter, ifs, 0⟩] scope gpos) s4 H4 cenv it fp pn) (wipe σ own) stopb Q n s0 s1)
        (GProto (gCx X (.GeneratorExp elt [⟨tg, iter, ifs, 0⟩] scope gpos) s4 H4 cenv it fp pn) (wipe σ own) fp tn W stopb Q) n s0
        (.compLoop (.GeneratorExp elt [⟨tg, iter, ifs, 0⟩] scope gpos) 0 (.ref it) .none cenv) ((model X.prog X.w).den (.compLoop (.GeneratorExp elt [⟨tg, iter, ifs, 0⟩] scope gpos) 0 (.ref it) .none cenv)) [] s := by
  intro m
  induction m using Nat.strongRecOn with
  | ind m ih =>
    intro n i s0 s H' hmn w I st nf
    have fpk : ∀ {σ' : L2.St} {H' : Hp} {s' : Shared}, Inv (gCx X (.GeneratorExp elt [⟨tg, iter, ifs, 0⟩] scope gpos) s4 H4 cenv it fp pn) [] σ' H' s' → (∀ b ∈ fp, H' b = none) → ∀ b ∈ fp, FpOk (gCx X (.GeneratorExp elt [⟨tg, iter, ifs, 0⟩] scope gpos) s4 H4 cenv it fp pn) [] H' b := fun {σ' H' s'} I' hn b hb =>
      ⟨hn b hb, (I'.ok.exf b hb).1, I'.ok.exfs b hb, .inl hb, (I'.ok.exf b hb).2, fun p hp => hpn p (by simpa using hp) b hb⟩
    show Seg _ _ _ _ n s0 _ ((compTurn (.GeneratorExp elt [⟨tg, iter, ifs, 0⟩] scope gpos) 0 (.ref it) .none cenv).onRaise (leaving cenv)) [] s
    rw [compTurn_gen, Sem.onRaise_eq_wrap]
    refine seg_bind_wrap (wpAny_standAt ?_)
    rcases turn i m H' w with ⟨stop, q⟩ | ⟨go, Nx, hNx, step⟩
    · refine seg_bind_wrap (thnF (T.done (gCx X (.GeneratorExp elt [⟨tg, iter, ifs, 0⟩] scope gpos) s4 H4 cenv it fp pn) rfl rfl rfl hc i [] s _ H' (fun _ _ => False) I (fpk I nf) st stop) fun r s1 z => ?_)
      obtain ⟨rfl, I1⟩ := z
      exact seg_end (.ok .next) ⟨rfl, H', I1, q⟩
    · refine seg_bind_wrap (thnF (T.item (gCx X (.GeneratorExp elt [⟨tg, iter, ifs, 0⟩] scope gpos) s4 H4 cenv it fp pn) rfl rfl rfl hc i [] s _ H' (fun _ _ => False) I (fpk I nf) st go) fun r s1 z => ?_)
      obtain ⟨u, rfl, z⟩ := z
      refine seg_bind_wrap (thnF z fun _ s2 z2 => ?_)
      obtain ⟨x, H2, I2, r2, y2, st2, n2⟩ := z2
      have P2 := I2.pinned (fpk I2 n2) (T.obj _ _ st2)
      refine seg_bind_wrap (thnF (pg.run _ s2 _ H2 x u _ P2 r2 (step x H2 y2)) fun _ s3 z3 => ?_)
      obtain ⟨σ3, H3, I3, hw, q3⟩ := z3
      refine seg_bind_wrap (thnF (pt.run _ s3 σ3 H3 _ I3 q3) fun b sb zb => ?_)
      obtain ⟨Hb, Ib, qb⟩ := zb
      have back : ∀ {s' : Shared} {H' : Hp}, Inv (gCx X (.GeneratorExp elt [⟨tg, iter, ifs, 0⟩] scope gpos) s4 H4 cenv it fp pn) ([] ++ pinsAt fp s2.heap) σ3 H' s' →
          Inv (gCx X (.GeneratorExp elt [⟨tg, iter, ifs, 0⟩] scope gpos) s4 H4 cenv it fp pn) [] (wipe σ own) H' s' ∧ tn (i + 1) s'.heap ∧ ∀ b ∈ fp, H' b = none := fun {s' H'} I' => by
        have pin' : ∀ b ∈ fp, ∀ o, s2.heap.get? b = some o → s'.heap.get? b = some o ∧ H' b = none := fun b hb o e =>
          have y := I'.pin (b, o) (List.mem_append_right _ (List.mem_append_right _ (mem_pinsAt hb e)))
          ⟨y.1, y.2.1⟩
        have hl : (wipe σ own).length = σ3.length := by
          rw [← hw, wipe_length]
        refine ⟨(I'.unpinned (pins := [])).weak hl (fun j v e => ?_), T.keep _ _ _ st2 (fun b hb o e => (pin' b hb o e).1), fun b hb => ?_⟩
        · rw [← hw] at e
          exact (wipe_some e).1
        · obtain ⟨o, e, _⟩ := T.obj _ _ st2 b hb
          exact (pin' b hb o e).2
      cases b with
      | false =>
        simp only [Bool.false_eq_true, if_false] at qb ⊢
        obtain ⟨m', hm, w'⟩ := hNx _ qb
        obtain ⟨I', st', n'⟩ := back Ib
        exact seg_again rfl (ih m' hm n (i + 1) s0 sb Hb (Nat.lt_trans hm hmn) w' I' st' n')
      | true =>
        simp only [if_true] at qb ⊢
        have hy : ∀ v, yieldOut cenv v = yieldValue v := fun v => by simp only [yieldOut, hco, Bool.false_eq_true, if_false]
        simp only [hy]
        rw [Sem.bind_eq_wrap', Sem.bind_eq_wrap', Sem.wrap_wrap, Sem.wrap_wrap]
        refine seg_wrap (thnF (pe.run _ sb σ3 Hb _ Ib qb) fun z sy zy => ?_)
        obtain ⟨v, Hy, Iy, ry, qy⟩ := zy
        obtain ⟨I', st', n'⟩ := back Iy
        obtain ⟨n1, rfl⟩ : ∃ n1, n = n1 + 1 := ⟨n - 1, by omega⟩
        refine seg_at (seg_yield rfl rfl rfl ?_)
        rcases qy with ⟨rfl, q⟩ | ⟨rfl, q⟩
        · cases ry
          exact ⟨stopb, Hy, rfl, I', .inl ⟨rfl, q⟩⟩
        · cases ry
          obtain ⟨m', hm, w'⟩ := hNx _ q
          refine ⟨!stopb, Hy, rfl, I', .inr ⟨rfl, i + 1, m', by omega, w', fun s'' hh ho hb => ?_⟩⟩
          exact seg_again rfl (ih m' hm n1 (i + 1) s'' s'' Hy (by omega) w' (inv_gens I' hh ho hb) (by rw [hh]; exact st') n')
/-- the start of the generator's code -/
theorem gen_begin {n : Nat} {s0 s : Shared} {R : GenEnd} {Y : Protocol} (T : Turn X.prog X.w X.K tg J fp it tn) (st : tn 0 s.heap)
    (loop : Seg (model X.prog X.w) X.A.in1.in1 R Y n s0 (.compLoop (.GeneratorExp elt [⟨tg, iter, ifs, 0⟩] scope gpos) 0 (.ref it) .none cenv) ((model X.prog X.w).den (.compLoop (.GeneratorExp elt [⟨tg, iter, ifs, 0⟩] scope gpos) 0 (.ref it) .none cenv)) [] s) :
    Seg (model X.prog X.w) X.A.in1.in1 R Y n s0 (.compStart (.GeneratorExp elt [⟨tg, iter, ifs, 0⟩] scope gpos) 0 (.ref it) .none cenv) ((model X.prog X.w).den (.compStart (.GeneratorExp elt [⟨tg, iter, ifs, 0⟩] scope gpos) 0 (.ref it) .none cenv)) [] s := by
  show Seg _ _ _ _ n s0 _ ((compStart (.GeneratorExp elt [⟨tg, iter, ifs, 0⟩] scope gpos) 0 (.ref it) .none cenv).onRaise (leaving cenv)) [] s
  unfold compStart
  rw [Sem.onRaise_eq_wrap]
  refine seg_bind_wrap (wpAny_askSetting ?_)
  split
  · exact seg_again rfl loop
  · refine seg_bind_wrap (wpAny_rule ?_)
    show Seg _ _ _ _ n s0 _ ((standAt iter.pos >>= _).wrap _ _ _ _) [] s
    refine seg_bind_wrap (wpAny_standAt (seg_bind_wrap ?_))
    exact T.self _ 0 s _ _ st (seg_again rfl loop)
end
/-- the generator at a, number gn, is asleep (or fresh), with n turns at most -/
def Asleep (X Y : Cx) (σw : L2.St) (fp : List Addr) (tn : Nat → Heap → Prop) (W : Nat → Nat → Hp → Prop) (stopb : Bool) (Q : VK) (gn n : Nat) (s : Shared) : Prop :=
  ∃ (gs : GenState) (H' : Hp), s.gens[gn]? = some gs ∧ Inv Y [] σw H' s ∧ ∀ s'' : Shared, s''.heap = s.heap → s''.os = s.os → AllBare s''.gens →
    gs.Goes (model X.prog X.w) X.A.in1.in1 (fun n s0 r s1 => r = .ok .next ∧ GEndP Y σw stopb Q n s0 s1) (GProto Y σw fp tn W stopb Q) n (.send .none) s''
section
variable {X Y : Cx} {σw : L2.St} {fp : List Addr} {tn : Nat → Heap → Prop} {W : Nat → Nat → Hp → Prop} {Q : VK} {gn : Nat} {a : Addr} {go : Obj} {R : Result → Shared → Prop}
theorem set_at {s : Shared} {x : GenState} (h : gn < s.gens.size) : (s.setGen gn x).gens[gn]? = some x := by
  show (s.gens.setIfInBounds gn x)[gn]? = some x
  rw [Array.getElem?_setIfInBounds_self_of_lt h]
/-- one waking of the generator -/
theorem wake {stopb : Bool} {n : Nat} {s : Shared} {Q' : Option Value → Shared → Prop} {E : Value → Shared → Prop} (hh : X.A.handled = none) (hroom : X.A.depth < recursionLimit) (hp : (a, go) ∈ Y.pn) (hgo : ∀ h : Heap, h.get? a = some go → h.IsGen a gn) (S : Asleep X Y σw fp tn W stopb Q gn n s)
    (stop : ∀ s' H', Inv Y [] σw H' s' → Q (.bl stopb) H' → Q' (some (.bool stopb)) s') (next : ∀ s' m, m < n → Asleep X Y σw fp tn W stopb Q gn m s' → Q' (some (.bool (!stopb))) s') (done : ∀ s' H', Inv Y [] σw H' s' → Q (.bl (!stopb)) H' → Q' none s') :
    wpAny (model X.prog X.w) X.A.in1 (pyNext (.ref a)) Q' E s := by
  obtain ⟨gs, H', hg, I, hG⟩ := S
  have hlt : gn < s.gens.size := by
    rcases Nat.lt_or_ge gn s.gens.size with z | z
    · exact z
    · rw [Array.getElem?_eq_none z] at hg
      cases hg
  have ig : s.heap.IsGen a gn := hgo _ (I.pin (a, go) (List.mem_append_left _ hp)).1
  refine GenW.wpAny_gsz (n := s.gens.size) (Nat.le_refl _) ?_
  refine wpAny_pyNext_genexpQ (A := X.A.in1) hh I.nolimit hroom ig hg (hG _ rfl rfl (bare_set I.bare rfl)) (fun v s1 gs' hb hv sz => ?_) (fun s1 hp1 h' hk sz => ?_)
  · obtain ⟨k, H1, rfl, I1, z⟩ := hv
    have sz1 : gn < s1.gens.size := by
      have e : (s1.setGen gn gs').gens.size = s1.gens.size := GenW.setGen_size _ _ _
      rw [e] at sz
      omega
    have I2 : Inv Y [] σw H1 (s1.setGen gn gs') := inv_gens I1 rfl rfl (bare_set I1.bare hb)
    rcases z with ⟨rfl, q⟩ | ⟨rfl, i, m, hm, w, kap⟩
    · exact stop _ H1 I2 q
    · cases n with
      | zero => omega
      | succ n1 =>
        refine next _ n1 (Nat.lt_succ_self _) ⟨gs', H1, set_at sz1, I2, fun s'' h1 h2 h3 => ?_⟩
        exact kap s'' h1 h2 h3
  · obtain ⟨H1, I1, q⟩ := hp1
    refine done _ H1 ?_ q
    have I2 : Inv Y [] σw H1 (s1.setGen gn .finished) := inv_gens I1 rfl rfl (bare_set I1.bare rfl)
    exact I2.kept (h' := h') (t' := s1.toks) fun b o e => hk b o e
theorem any_loop (hh : X.A.handled = none) (hroom : X.A.depth < recursionLimit) (hp : (a, go) ∈ Y.pn) (hgo : ∀ h : Heap, h.get? a = some go → h.IsGen a gn)
    (fin : ∀ s' H' b, Inv Y [] σw H' s' → Q (.bl b) H' → R (.ok (.ret (.bool b))) s') : ∀ (n : Nat) (s : Shared), Asleep X Y σw fp tn W true Q gn n s → codeAny (model X.prog X.w) X.A (.builtin "any.loop" ⟨[.ref a], []⟩) R s := by
  intro n
  induction n using Nat.strongRecOn with
  | ind n ih =>
    intro s S
    refine codeAny_builtin F.entry_any_loop ?_
    rw [Around.under_plainId F.plain_any_loop _]
    show wpAny _ X.A.in1 (pyNext (.ref a) >>= _) _ _ s
    refine wpAny_bind (wake hh hroom hp hgo S (fun s' H' I q => ?_) (fun s' m hm S' => ?_) (fun s' H' I q => ?_))
    · refine wpAny_bind (wpAny_holding (wpAny_truthy_bool (wpAny_bind (wpAny_letGo ?_))))
      simp only [if_true]
      exact wpAny_bind (wpAny_rule (wpAny_pure (fin s' H' true I q)))
    · refine wpAny_bind (wpAny_holding (wpAny_truthy_bool (wpAny_bind (wpAny_letGo ?_))))
      simp only [Bool.not_true, Bool.false_eq_true, if_false]
      exact wpAny_pure ⟨plainId_quiet F.plain_any_loop _, ih m hm s' S'⟩
    · exact wpAny_bind (wpAny_rule (wpAny_pure (fin s' H' false I q)))
theorem all_loop (hh : X.A.handled = none) (hroom : X.A.depth < recursionLimit) (hp : (a, go) ∈ Y.pn) (hgo : ∀ h : Heap, h.get? a = some go → h.IsGen a gn)
    (fin : ∀ s' H' b, Inv Y [] σw H' s' → Q (.bl b) H' → R (.ok (.ret (.bool b))) s') : ∀ (n : Nat) (s : Shared), Asleep X Y σw fp tn W false Q gn n s → codeAny (model X.prog X.w) X.A (.builtin "all.loop" ⟨[.ref a], []⟩) R s := by
  intro n
  induction n using Nat.strongRecOn with
  | ind n ih =>
    intro s S
    refine codeAny_builtin F.entry_all_loop ?_
    rw [Around.under_plainId F.plain_all_loop _]
    show wpAny _ X.A.in1 (pyNext (.ref a) >>= _) _ _ s
    refine wpAny_bind (wake hh hroom hp hgo S (fun s' H' I q => ?_) (fun s' m hm S' => ?_) (fun s' H' I q => ?_))
    · refine wpAny_bind (wpAny_holding (wpAny_truthy_bool (wpAny_bind (wpAny_letGo ?_))))
      simp only [Bool.false_eq_true, if_false]
      exact wpAny_bind (wpAny_rule (wpAny_pure (fin s' H' false I q)))
    · refine wpAny_bind (wpAny_holding (wpAny_truthy_bool (wpAny_bind (wpAny_letGo ?_))))
      simp only [Bool.not_false, if_true]
      exact wpAny_pure ⟨plainId_quiet F.plain_all_loop _, ih m hm s' S'⟩
    · exact wpAny_bind (wpAny_rule (wpAny_pure (fin s' H' true I q)))
end
/-- any(elt for target in iter if ..) (stopb true), all(..) (stopb false): W by the turn and a measure, Nx what a turn is to reach; P: the def's table of code objects -/
def tAA (P : Addr) (stopb : Bool) (wi : TI) (g : TG) (tt : TT) (te : TE) (vs : List Nat) : TE := fun σ H Q => wi σ H fun J H1 => TabG H1 P ∧ ∀ H2, Tabbed P H1 H2 → ∃ W : Nat → Nat → Hp → Prop, (∃ m, W 0 m H2) ∧
  ∀ i m H, W i m H → (J.stop i H ∧ Q (.bl (!stopb)) H) ∨ (J.go i H ∧ ∃ Nx : Hp → Prop, (∀ H', Nx H' → ∃ m', m' < m ∧ W (i + 1) m' H') ∧ ∀ x H', J.yld i H x H' → g x (wipe σ vs) H' fun σ2 H2 => wipe σ2 vs = wipe σ vs ∧ tt σ2 H2 fun b H3 =>
    if b = true then te σ2 H3 fun y H4 => (y = .bl stopb ∧ Q (.bl stopb) H4) ∨ (y = .bl (!stopb) ∧ Nx H4) else Nx H3)
/-- over a tuple that stays -/
theorem aa_tup {K : PySem.W.Frag} {a : Addr} {xs : List V} {g : TG} {tt : TT} {te : TE} {vs : List Nat} {σ : L2.St} {H1 : Hp} {stopb : Bool} {Q : VK} (Pv : Nat → Hp → Prop) (h0 : Pv 0 H1) (hl : ∀ i H, i ≤ xs.length → Pv i H → SqT K H a xs)
    (hs : ∀ i x H, xs[i]? = some x → Pv i H → g x (wipe σ vs) H fun σ2 H2 => wipe σ2 vs = wipe σ vs ∧ tt σ2 H2 fun b H3 => if b = true then te σ2 H3 fun y H4 => (y = .bl stopb ∧ Q (.bl stopb) H4) ∨ (y = .bl (!stopb) ∧ Pv (i + 1) H4) else Pv (i + 1) H3) (hd : ∀ H, Pv xs.length H → Q (.bl (!stopb)) H) :
    ∃ W : Nat → Nat → Hp → Prop, (∃ m, W 0 m H1) ∧ ∀ i m H, W i m H → ((Itt K a).stop i H ∧ Q (.bl (!stopb)) H) ∨ ((Itt K a).go i H ∧ ∃ Nx : Hp → Prop, (∀ H', Nx H' → ∃ m', m' < m ∧ W (i + 1) m' H') ∧ ∀ x H', (Itt K a).yld i H x H' → g x (wipe σ vs) H' fun σ2 H2 => wipe σ2 vs = wipe σ vs ∧ tt σ2 H2 fun b H3 =>
      if b = true then te σ2 H3 fun y H4 => (y = .bl stopb ∧ Q (.bl stopb) H4) ∨ (y = .bl (!stopb) ∧ Nx H4) else Nx H3) := by
  refine ⟨fun i m H => i + m = xs.length ∧ Pv i H, ⟨xs.length, Nat.zero_add _, h0⟩, fun i m H ⟨e, p⟩ => ?_⟩
  have sq := hl i H (by omega) p
  cases m with
  | zero =>
    have ei : i = xs.length := by omega
    subst ei
    exact .inl ⟨⟨xs, sq, Nat.le_refl _⟩, hd H p⟩
  | succ m =>
    have lt : i < xs.length := by omega
    refine .inr ⟨⟨xs, xs[i], sq, List.getElem?_eq_getElem lt⟩, Pv (i + 1), fun H' q => ⟨m, Nat.lt_succ_self m, by omega, q⟩, fun x H' y => ?_⟩
    obtain ⟨rfl, y⟩ := y
    exact hs i x _ (y xs sq) p
section
variable {X : Cx} {pins : List (Addr × Obj)} {σ : L2.St} {H : Hp} {s : Shared} {c P : Addr} {elt tg iter : Expr} {ifs : List Expr} {scope : Scope} {own : List (Str × Nat)} {gpos : Pos} {wi : TI} {g : TG} {tt : TT} {te : TE} {stopb : Bool} {k : Nat}
/-- the scope of a generator expression: no cells of its own -/
structure GSc (scope : Scope) : Prop where
  co : scope.isCoroutine = false
  nc : ∀ y ∈ scope.names, y.2 ≠ .cell
  dot : scope.names.lookup (".0" : Str) = some NameKind.local
theorem gen_make {Q : VK} {Q' : Value → Shared → Prop} (hr : Room k X.A) (hc : X.calm = true) (hN : X.N.Nodup) (TB : TabB X.base X.mg c P) (hcode : X.env.code = .ref c) (hi : PI X tg iter wi) (ok : BlkOk X.N X.env.scope scope own) (S : GSc scope)
    (hg : ∀ (s : Shared) (H : Hp) (C : Addr) (code : Value) (it : Addr) (fp : List Addr) (pn : List (Addr × Obj)), PG (gCx X (.GeneratorExp elt [⟨tg, iter, ifs, 0⟩] scope gpos) s H (genEnv scope (cloFrom X.env.cells scope.names []) C code builtinsNs X.env) it fp pn) tg g)
    (ht : ∀ (s : Shared) (H : Hp) (C : Addr) (code : Value) (it : Addr) (fp : List Addr) (pn : List (Addr × Obj)), PTs (gCx X (.GeneratorExp elt [⟨tg, iter, ifs, 0⟩] scope gpos) s H (genEnv scope (cloFrom X.env.cells scope.names []) C code builtinsNs X.env) it fp pn) ifs tt)
    (he : ∀ (s : Shared) (H : Hp) (C : Addr) (code : Value) (it : Addr) (fp : List Addr) (pn : List (Addr × Obj)), PE (gCx X (.GeneratorExp elt [⟨tg, iter, ifs, 0⟩] scope gpos) s H (genEnv scope (cloFrom X.env.cells scope.names []) C code builtinsNs X.env) it fp pn) elt te)
    (hs : ∀ x, genFold iter X.env x = pure x) (I : Inv X pins σ H s) (h : tAA P stopb wi g tt te (own.map (·.2)) σ H Q)
    (hQ : ∀ (a : Addr) (go : Obj) (gn n : Nat) (Y : Cx) (fp : List Addr) (tn : Nat → Heap → Prop) (W : Nat → Nat → Hp → Prop) (s5 : Shared), (a, go) ∈ Y.pn → (∀ h : Heap, h.get? a = some go → h.IsGen a gn) → (∀ s' H', Inv Y [] (wipe σ (own.map (·.2))) H' s' → Inv X pins σ H' s') → s5.heap.get? a = some go →
      Asleep X Y (wipe σ (own.map (·.2))) fp tn W stopb Q gn n s5 → Q' (.ref a) s5) :
    wpAny (model X.prog X.w) X.A (eval (.GeneratorExp elt [⟨tg, iter, ifs, 0⟩] scope gpos) X.env) Q' X.xe s := by
  have hfree : ∀ y ∈ scope.names, y.2 = .free → ∃ c, X.env.cells.lookup y.1 = some c := fun y hy e => by
    rcases ok.free y hy e with z | z
    · exact I.ok.has _ (.inl z)
    · exact I.ok.has _ (.inr z)
  refine wpAny_GeneratorExp_make S.co (closure_ok hfree) S.nc S.dot ok.kind (by have := hr.dp; omega) (thn (hi.run pins s σ H _ I h) fun xv s1 hx => thn hx fun itv s2 h2 => ?_) hs
  obtain ⟨it, fp, tn, J, H2, rfl, I2, T, st2, f2, ⟨ps, hP, hT⟩, q⟩ := h2
  have hPs : s2.heap.get? P = some { cls := .none, data := .fields ps } := I2.hok P _ hP
  have cd : PySem.W.CodeHd s2.heap c P := TB.code.keeps I2.bk
  have szf : ∀ b ∈ fp, b < s2.heap.objs.size := fun b hb => by
    obtain ⟨o, e, _⟩ := T.obj _ _ st2 b hb
    exact Heap.lt_size e
  have nP : ∀ b ∈ fp, b ≠ P := fun b hb z => by
    have e := (f2 b hb).1
    rw [z, hP] at e
    cases e
  refine ⟨I2.nolimit, ?_⟩
  have cont : ∀ (code : Value) (h3 : Heap) (tk : Nat) (more : Array Value), Heap.ExtBut P s2.heap h3 → s2.heap.objs.size ≤ h3.objs.size → h3.get? P = some { cls := .none, data := .fields (ps ++ more) } → TriplesOk (ps ++ more).toList →
      wpAny (model X.prog X.w) X.A (builtinsFor X.env.globals X.env.builtins) (fun bi s4 => ∀ h', h'.Ns s4.heap.objs.size (fun y => if y = ".0" then some (.ref it) else none) → Heap.SameBut s4.heap.objs.size (s4.heap.push { cls := .type "frame", data := .dict #[] }) h' →
        Q' (.ref h'.objs.size) { s4 with
          gens := s4.gens.push (.fresh (.compStart (.GeneratorExp elt [⟨tg, iter, ifs, 0⟩] scope gpos) 0 (.ref it) .none (genEnv scope (cloFrom X.env.cells scope.names []) s4.heap.objs.size code bi X.env))),
          toks := s4.toks + 1 + 1 + 1,
          heap := h'.push { cls := .type "generator", data := .fields #[.int s4.gens.size 0, .str "<genexpr>" (s4.toks + 1), .str (X.env.qual ++ "<genexpr>") (s4.toks + 1 + 1)] } }) X.xe { s2 with heap := h3, toks := tk } := by
    intro code h3 tk more hx hsz hP3 hT3
    obtain ⟨bm, ob, e1, e2, e3, e4, e5, e6, e7, e8⟩ := TB.bm
    have I3 : Inv X pins σ (upd H2 P (.tbl (ps ++ more))) { s2 with heap := h3, toks := tk } := inv_tab (g' := s2.gens) (d' := s2.drawn) (t' := tk) I2 hP (fun b o hb e => hx b o hb e) hP3 I2.bare
    have f3 : ∀ b ∈ fp, FpOk X pins (upd H2 P (.tbl (ps ++ more))) b ∧ b < h3.objs.size := fun b hb => ⟨⟨by rw [upd_ne (nP b hb)]; exact (f2 b hb).1, (f2 b hb).2⟩, Nat.lt_of_lt_of_le (szf b hb) hsz⟩
    have st3 : tn 0 h3 := T.keep _ _ _ st2 fun b hb o e => hx b o (nP b hb) e
    obtain ⟨W, ⟨m0, w0⟩, turn⟩ := q (upd H2 P (.tbl (ps ++ more))) ⟨⟨_, upd_same, hT3⟩, fun b hb => upd_ne hb⟩
    refine wpAny_builtinsFor (m := X.mg) (by rw [I3.ok.glob]; exact I3.mod.glob.keeps I3.bk) e1 e2 (hx _ _ e4 (I2.bk _ _ e5)) e6 e7 e8 ?_
    intro h' hn' hs'
    have hsz' : h'.objs.size = h3.objs.size + 1 := by
      rw [hs'.1]
      exact Heap.size_push ..
    have kp : ∀ b o, h3.get? b = some o → (h'.push { cls := .type "generator", data := .fields #[.int s2.gens.size 0, .str "<genexpr>" (tk + 1), .str (X.env.qual ++ "<genexpr>") (tk + 1 + 1)] }).get? b = some o := fun b o e =>
      Heap.get?_push_of_some _ (hs'.extBut b o (Nat.ne_of_lt (Heap.lt_size e)) (Heap.get?_push_of_some _ e))
    have st5 := T.keep _ _ _ st3 fun b hb o e => kp b o e
    have nf : ∀ b ∈ fp, (upd H2 P (.tbl (ps ++ more))) b = none := fun b hb => (f3 b hb).1.1
    have IG := gen_start (ge := .GeneratorExp elt [⟨tg, iter, ifs, 0⟩] scope gpos) (it := it) (code := code) (tk := tk + 1 + 1 + 1)
      (gs := s2.gens.push (.fresh (.compStart (.GeneratorExp elt [⟨tg, iter, ifs, 0⟩] scope gpos) 0 (.ref it) .none (genEnv scope (cloFrom X.env.cells scope.names []) h3.objs.size code builtinsNs X.env)))) I3 hc ok hN S.nc f3
      (by show pushEnvs [_] (pushEnvs [] X.A.frames) = _; rw [I.ok.frames]; rfl) (I2.bare.push rfl) kp (hn'.keeps fun b o e => Heap.get?_push_of_some _ e) (Heap.get?_push_size h' rfl) (show h3.objs.size < h'.objs.size by omega) (fun v z => by cases z)
    refine hQ h'.objs.size _ s2.gens.size (m0 + 1) _ fp tn W _ List.mem_cons_self (fun h0 e => ?_) (fun s' H' J' => ?_) (Heap.get?_push_size h' rfl) ⟨_, _, Array.getElem?_push_size .., IG, fun s'' h1 h2 h3' => ?_⟩
    · exact ⟨_, _, _, e, rfl, rfl, rfl⟩
    · exact I3.call' (ch := fp) J'.os J'.base J'.hok J'.bare fun b hb => ⟨(f3 b hb).1.2.2.2.1, (f3 b hb).1.2.1, (f3 b hb).1.2.2.2.2.1, (f3 b hb).1.2.2.2.2.2⟩
    · refine ⟨rfl, gen_begin T (by rw [h1]; exact st5) ?_⟩
      refine gen_loop hc S.co T (fun p hp b hb z => ?_) (hg _ _ _ _ _ _ _) (ht _ _ _ _ _ _ _) (he _ _ _ _ _ _ _) turn m0 (m0 + 1) 0 s'' s'' _ (Nat.lt_succ_self _) w0 (inv_gens IG h1 h2 h3') (by rw [h1]; exact st5) nf
      rw [List.mem_singleton.mp hp] at z
      have z1 := (f3 b hb).2
      rw [← z] at z1
      have z2 : h'.objs.size < h3.objs.size := z1
      omega
  cases hf : codeAmong gpos ps.toList with
  | none =>
    refine wpAny_genexprCodeX hcode (cd.code hPs hT) (cd.tab hPs) hf fun c' h' tk hx hge hlt hco' _ htab' _ => ?_
    have tr : TriplesOk (ps ++ #[rawInt gpos.line, rawInt gpos.col, Value.ref c']).toList := by
      obtain ⟨_, _, _, _, _, _, _, _, _, _, _, _, _, _, _, _, _, _, _, z, _⟩ := hco'
      exact z
    exact cont _ h' tk _ hx (Nat.le_trans hge (Nat.le_of_lt hlt)) htab'.2 tr
  | some cv =>
    refine wpAny_genexprCode_hit hcode (cd.code hPs hT) hf ?_
    exact cont cv s2.heap s2.toks #[] (Heap.ExtBut.refl _ _) (Nat.le_refl _) (by rw [Array.append_empty]; exact hPs) (by rw [Array.append_empty]; exact hT)
theorem pe_any {p pos : Pos} (hr : Room k X.A) (hb : Gl X "any") (hm : X.mg "any" = none) (hc : X.calm = true) (hN : X.N.Nodup) (TB : TabB X.base X.mg c P) (hcode : X.env.code = .ref c) (hi : PI X tg iter wi) (ok : BlkOk X.N X.env.scope scope own) (S : GSc scope)
    (hg : ∀ (s : Shared) (H : Hp) (C : Addr) (code : Value) (it : Addr) (fp : List Addr) (pn : List (Addr × Obj)), PG (gCx X (.GeneratorExp elt [⟨tg, iter, ifs, 0⟩] scope gpos) s H (genEnv scope (cloFrom X.env.cells scope.names []) C code builtinsNs X.env) it fp pn) tg g)
    (ht : ∀ (s : Shared) (H : Hp) (C : Addr) (code : Value) (it : Addr) (fp : List Addr) (pn : List (Addr × Obj)), PTs (gCx X (.GeneratorExp elt [⟨tg, iter, ifs, 0⟩] scope gpos) s H (genEnv scope (cloFrom X.env.cells scope.names []) C code builtinsNs X.env) it fp pn) ifs tt)
    (he : ∀ (s : Shared) (H : Hp) (C : Addr) (code : Value) (it : Addr) (fp : List Addr) (pn : List (Addr × Obj)), PE (gCx X (.GeneratorExp elt [⟨tg, iter, ifs, 0⟩] scope gpos) s H (genEnv scope (cloFrom X.env.cells scope.names []) C code builtinsNs X.env) it fp pn) elt te)
    (hs : ∀ x, genFold iter X.env x = pure x := by intro _; rfl)
    (hst : starEach [.GeneratorExp elt [⟨tg, iter, ifs, 0⟩] scope gpos] X.env = (false, eval (.GeneratorExp elt [⟨tg, iter, ifs, 0⟩] scope gpos) X.env) :: starEach [] X.env := by rfl) :
    PE X (.Call (.Name "any" p) [.GeneratorExp elt [⟨tg, iter, ifs, 0⟩] scope gpos] [] pos) (tAA P true wi g tt te (own.map (·.2))) := by
  refine ⟨fun pins s σ H Q I h => wpAny_Call_Name_kw (ld_blt I hb hm boot_any (PyProof.Rows.callWith_builtin1 ?_ hst (by rfl)))⟩
  rw [hst]
  refine Calls.spliced_cons (gen_make hr hc hN TB hcode hi ok S hg ht he hs I h fun a go gn n Y fp tn W s5 h1 h2 h3 h4 SL => Calls.spliced_nil ?_)
  refine call_function_tree F.kind_any F.plain_any F.entry_any (F.args_any1 _) ?_
  unfold Builtin.«any»
  refine wpAny_bind (m := oneArg "any" _) (wpAny_pure (wpAny_bind (wpAny_pyIter_gen (h2 _ h4) (wpAny_pure ⟨plainId_quiet F.plain_any_loop _, ?_⟩))))
  exact any_loop (I.ok.hd hc) hr.depth h1 h2 (fun s' H' b J q => ⟨.bl b, H', h3 s' H' J, rfl, q⟩) n s5 SL
theorem pe_all {p pos : Pos} (hr : Room k X.A) (hb : Gl X "all") (hm : X.mg "all" = none) (hc : X.calm = true) (hN : X.N.Nodup) (TB : TabB X.base X.mg c P) (hcode : X.env.code = .ref c) (hi : PI X tg iter wi) (ok : BlkOk X.N X.env.scope scope own) (S : GSc scope)
    (hg : ∀ (s : Shared) (H : Hp) (C : Addr) (code : Value) (it : Addr) (fp : List Addr) (pn : List (Addr × Obj)), PG (gCx X (.GeneratorExp elt [⟨tg, iter, ifs, 0⟩] scope gpos) s H (genEnv scope (cloFrom X.env.cells scope.names []) C code builtinsNs X.env) it fp pn) tg g)
    (ht : ∀ (s : Shared) (H : Hp) (C : Addr) (code : Value) (it : Addr) (fp : List Addr) (pn : List (Addr × Obj)), PTs (gCx X (.GeneratorExp elt [⟨tg, iter, ifs, 0⟩] scope gpos) s H (genEnv scope (cloFrom X.env.cells scope.names []) C code builtinsNs X.env) it fp pn) ifs tt)
    (he : ∀ (s : Shared) (H : Hp) (C : Addr) (code : Value) (it : Addr) (fp : List Addr) (pn : List (Addr × Obj)), PE (gCx X (.GeneratorExp elt [⟨tg, iter, ifs, 0⟩] scope gpos) s H (genEnv scope (cloFrom X.env.cells scope.names []) C code builtinsNs X.env) it fp pn) elt te)
    (hs : ∀ x, genFold iter X.env x = pure x := by intro _; rfl)
    (hst : starEach [.GeneratorExp elt [⟨tg, iter, ifs, 0⟩] scope gpos] X.env = (false, eval (.GeneratorExp elt [⟨tg, iter, ifs, 0⟩] scope gpos) X.env) :: starEach [] X.env := by rfl) :
    PE X (.Call (.Name "all" p) [.GeneratorExp elt [⟨tg, iter, ifs, 0⟩] scope gpos] [] pos) (tAA P false wi g tt te (own.map (·.2))) := by
  refine ⟨fun pins s σ H Q I h => wpAny_Call_Name_kw (ld_blt I hb hm (show bootBuiltins "all" = some (.builtin "all") by decide +kernel) (PyProof.Rows.callWith_builtin1 ?_ hst (by rfl)))⟩
  rw [hst]
  refine Calls.spliced_cons (gen_make hr hc hN TB hcode hi ok S hg ht he hs I h fun a go gn n Y fp tn W s5 h1 h2 h3 h4 SL => Calls.spliced_nil ?_)
  refine call_function_tree F.kind_all F.plain_all F.entry_all (F.args_all1 _) ?_
  unfold Builtin.«all»
  refine wpAny_bind (m := oneArg "all" _) (wpAny_pure (wpAny_bind (wpAny_pyIter_gen (h2 _ h4) (wpAny_pure ⟨plainId_quiet F.plain_all_loop _, ?_⟩))))
  exact all_loop (I.ok.hd hc) hr.depth h1 h2 (fun s' H' b J q => ⟨.bl b, H', h3 s' H' J, rfl, q⟩) n s5 SL
end
end Gx
namespace Dr
open PySem PySem.Spec PyProof.Rows L2
/-! ### the drawing of numbers: smixed, sdraw, sopen -/
def topS (i : Nat) : Stmt := PySem.Challenge.pw_sparecut_k24_regular_trees.main.body.getD i (.Pass ⟨0, 0, 0, 0⟩)
abbrev sMix : Stmt := topS 14
abbrev sDrw : Stmt := topS 15
abbrev sOpn : Stmt := topS 16
theorem scMix : FnScope ["cell", "at", "one", "two", "three"] ["cell", "at"] (defScope sMix) := ⟨rfl, rfl, rfl, by decide +kernel, rfl, by decide +kernel, by decide +kernel⟩
theorem scDrw : FnScope ["feed", "many", "at", "cell", "digit"] ["feed", "many"] (defScope sDrw) := ⟨rfl, rfl, rfl, by decide +kernel, rfl, by decide +kernel, by decide +kernel⟩
theorem scOpn : FnScope ["script"] ["script"] (defScope sOpn) := ⟨rfl, rfl, rfl, by decide +kernel, rfl, by decide +kernel, by decide +kernel⟩
/-- what lies at f: cells (at c), a place, a rest; at most B cells were taken -/
def Feed (H : Hp) (f c : Addr) (B : Nat) : Prop := ∃ (ns : List Int) (n : Nat) (r : Int),
  H f = some (.lst [.ref c, .int n, .int r]) ∧ H c = some (.lst (ns.map V.int)) ∧ ns.length ≤ 60 ∧ n ≤ B
/-- all but f is as it was -/
def But (f : Addr) (H H' : Hp) : Prop := ∀ b, b ≠ f → H' b = H b
theorem But.refl (f : Addr) (H : Hp) : But f H H := fun _ _ => rfl
theorem But.trans {f : Addr} {H H1 H2 : Hp} (a : But f H H1) (b : But f H1 H2) : But f H H2 := fun x n => (b x n).trans (a x n)
theorem Feed.mono {H : Hp} {f c : Addr} {B B' : Nat} (h : Feed H f c B) (l : B ≤ B') : Feed H f c B' := by
  obtain ⟨ns, n, r, h1, h2, h3, h4⟩ := h
  exact ⟨ns, n, r, h1, h2, h3, Nat.le_trans h4 l⟩
theorem Feed.same {H H' : Hp} {f c : Addr} {B : Nat} (h : Feed H f c B) (s : Same H H') : Feed H' f c B := by
  obtain ⟨ns, n, r, h1, h2, h3, h4⟩ := h
  exact ⟨ns, n, r, s _ _ h1, s _ _ h2, h3, h4⟩
theorem Feed.upd {H : Hp} {f c D : Addr} {B : Nat} {o : HO} (h : Feed H f c B) (nf : D ≠ f) (nc : D ≠ c) : Feed (upd H D o) f c B := by
  obtain ⟨ns, n, r, h1, h2, h3, h4⟩ := h
  exact ⟨ns, n, r, by rw [upd_ne (Ne.symm nf)]; exact h1, by rw [upd_ne (Ne.symm nc)]; exact h2, h3, h4⟩
theorem Feed.nf {H : Hp} {f c D : Addr} {B : Nat} (h : Feed H f c B) (n : H D = none) : D ≠ f := by
  obtain ⟨_, _, _, h1, _⟩ := h
  exact Ne.symm (ne_of_none h1 n)
theorem Feed.nc {H : Hp} {f c D : Addr} {B : Nat} (h : Feed H f c B) (n : H D = none) : D ≠ c := by
  obtain ⟨_, _, _, _, h2, _⟩ := h
  exact Ne.symm (ne_of_none h2 n)
theorem feed_ne {H : Hp} {f c : Addr} {ns : List Int} {a : V} {as : List V} (h1 : H f = some (.lst (.ref c :: as))) (h2 : H c = some (.lst (ns.map V.int))) : c ≠ f := by
  intro e
  rw [e, h1] at h2
  have z := HO.lst.inj (Option.some.inj h2)
  cases ns with
  | nil => cases z
  | cons x r => cases z
section
variable {P : Program} {w : World} {K : PySem.W.Frag} {mg : Str → Option Value} {base : Heap}
def spMix : Sp := fun vs H Q _ => ∃ (c : Int) (n : Nat), vs = [.int c, .int n] ∧ n ≤ 2 ^ 60 ∧ ∀ r : Int, Q (.int r) H
theorem ok_mix {f : Addr} {fd : FuncData} {k : Nat} (F : Fun K "_law_smixed" "_law_smixed" sMix f fd) : FnOk P w K mg base CX0 (k + 1) f fd ["cell", "at"] spMix := by
  refine F.ok scMix (fun vs H Q E h => ?_) (fun cdv A outer s H vs Q E hr h => ?_)
  · obtain ⟨c, n, rfl, _⟩ := h
    rfl
  · obtain ⟨c, n, rfl, hn, q⟩ := h
    refine ⟨_, pss_cons (ps_set (i := 2) scMix.nd rfl (.inl rfl) (pe_op op_mod (pe_op op_add (pe_op op_add (pe_op op_mul (pe_op op_mod (pv 0) pe_int) pe_int) (pe_op op_mul (pv 1) pe_int)) pe_int) pe_int))
      (pss_cons (ps_set (i := 3) scMix.nd rfl (.inl rfl) (pe_op op_mod (pe_op op_add (pe_op op_add (pe_op op_mul (pv 2) (pv 2)) (pe_op op_mul (pe_op op_mul (pv 1) (pv 1)) pe_int)) pe_int) pe_int))
      (pss_cons (ps_set (i := 4) scMix.nd rfl (.inl rfl) (pe_op op_mod (pe_op op_add (pe_op op_add (pe_op op_mul (pv 3) (pv 3)) (pv 2)) (pv 1)) pe_int))
      (pss_one (ps_ret (pe_op op_add (pe_op op_mul (pe_op op_add (pe_op op_mul (pv 4) pe_int) (pv 3)) pe_int) (pv 2)))))), ?_⟩
    refine ⟨_, rfl, _, _, rfl, rfl, by show (0 : Int) < 2147483647; decide, _, _, rfl, rfl, .inr ⟨by decide, by decide⟩, _, rfl, _, _, rfl, rfl, .inr ⟨by decide, by decide⟩, _, _, rfl, rfl, _, _, rfl, rfl, _, _, rfl, rfl, by show (0 : Int) < 2147483629; decide, ?_⟩
    generalize e1 : (c % 2147483647 * 48271 + (n : Int) * 7919 + 11) % 2147483629 = one
    have o1 : 0 ≤ one := by rw [← e1]; exact Int.emod_nonneg _ (by decide)
    have o2 : one < 2147483629 := by rw [← e1]; exact Int.emod_lt_of_pos _ (by decide)
    refine ⟨_, rfl, _, rfl, _, _, rfl, rfl, .inl ⟨by omega, by omega⟩, _, rfl, _, rfl, _, _, rfl, rfl, .inl ⟨by omega, by omega⟩, _, _, rfl, rfl, .inr ⟨by decide, by decide⟩, _, _, rfl, rfl, _, _, rfl, rfl, _, _, rfl, rfl, by show (0 : Int) < 2147483587; decide, ?_⟩
    generalize e2 : (one * one + (n : Int) * (n : Int) * 31 + 5) % 2147483587 = two
    have t1 : 0 ≤ two := by rw [← e2]; exact Int.emod_nonneg _ (by decide)
    have t2 : two < 2147483587 := by rw [← e2]; exact Int.emod_lt_of_pos _ (by decide)
    refine ⟨_, rfl, _, rfl, _, _, rfl, rfl, .inl ⟨by omega, by omega⟩, _, rfl, _, _, rfl, rfl, _, rfl, _, _, rfl, rfl, _, _, rfl, rfl, by show (0 : Int) < 2147483563; decide, ?_⟩
    exact ⟨_, rfl, _, _, rfl, rfl, .inr ⟨by decide, by decide⟩, _, rfl, _, _, rfl, rfl, _, _, rfl, rfl, .inr ⟨by decide, by decide⟩, _, rfl, _, _, rfl, rfl, q _⟩
/-- sdraw(feed, many): any number from 0 to many - 1 -/
def spDrw : Sp := fun vs H Q _ => ∃ (f c : Addr) (m : Int) (B : Nat), vs = [.ref f, .int m] ∧ 0 < m ∧ m < 2 ^ 29 ∧ Feed H f c B ∧ B ≤ 2 ^ 59 ∧
  ∀ (d : Int) (H' : Hp), 0 ≤ d → d < m → Feed H' f c (B + 1) → But f H H' → Q (.int d) H'
theorem ok_drw {f fM : Addr} {fd fdM : FuncData} {k : Nat} (F : Fun K "_law_sdraw" "_law_sdraw" sDrw f fd) (FM : Fun K "_law_smixed" "_law_smixed" sMix fM fdM) (bM : Binds K fdM ["cell", "at"] []) (gM : mg "_law_smixed" = some (.ref fM)) (ml : mg "len" = none) :
    FnOk P w K mg base CX0 (k + 2) f fd ["feed", "many"] spDrw := by
  have GM : FnOk P w K mg base CX0 1 fM fdM ["cell", "at"] spMix := ok_mix FM
  refine F.ok scDrw (fun vs H Q E h => ?_) (fun cdv A outer s H vs Q E hr h => ?_)
  · obtain ⟨f, c, m, B, rfl, _⟩ := h
    rfl
  · obtain ⟨f, c, m, B, rfl, m0, m1, hF, hB, q⟩ := h
    have hr1 : Room 1 _ := hr.mono (by omega)
    refine ⟨_, Evl.pss_cut (ps_if (pt_cmpR op_lt (pe_ix ix_list (pv 0) pe_int (fun _ _ => rfl)) (pv 1) (nomark _))
        (pss_cons (ps_set (i := 2) scDrw.nd rfl (.inl rfl) (pe_ix ix_list (pv 0) pe_int (fun _ _ => rfl)))
        (pss_cons (ps_set (i := 3) scDrw.nd rfl (.inl rfl) (pe_op op_mul (pv 2) pe_int))
        (Evl.pss_cut (ps_if (pt_cmpR op_gt (pe_callB call_len_seq (by rfl) ml PySem.boot_len (pa_cons (pe_ix ix_list (pv 0) pe_int (fun _ _ => rfl)) pa_nil)) pe_int (nomark _))
            (pss_one (ps_set (i := 3) scDrw.nd rfl (.inl rfl) (pe_ix ix_list (pe_ix ix_list (pv 0) pe_int (fun _ _ => rfl)) (pe_op op_mod (pv 2) (pe_callB call_len_seq (by rfl) ml PySem.boot_len (pa_cons (pe_ix ix_list (pv 0) pe_int (fun _ _ => rfl)) pa_nil))) (fun _ _ => rfl)))) pss_nil)
        (pss_cons (ps_asg (pe_op op_add (pv 2) pe_int) (pg_sub (pv 0) pe_int set_list))
        (Evl.pss_cut (ps_asg (pv 3) (pg_sub (pv 0) pe_int set_list))
        (pss_one (ps_if (PW.pt (pw_or (pt_cmpR op_lt (pv 3) (pe_op op_pow pe_int pe_int) (nomark _)) (pw_or1 (pt_cmpR op_ge (pv 2) (pe_callB call_len_seq (by rfl) ml PySem.boot_len (pa_cons (pe_ix ix_list (pv 0) pe_int (fun _ _ => rfl)) pa_nil)) (nomark _)))))
          (pss_one (ps_asg (pe_call GM hr1 (by rfl) gM FM.kp bM .nil pass0 (pa_cons (pv 3) (pa_cons (pv 2) pa_nil))) (pg_sub (pv 0) pe_int set_list))) pss_nil)))))))
        pss_nil)
      (pss_cons (ps_set (i := 4) scDrw.nd rfl (.inl rfl) (pe_op op_mod (pe_ix ix_list (pv 0) pe_int (fun _ _ => rfl)) (pv 1)))
      (pss_cons (ps_asg (pe_op op_fdiv (pe_ix ix_list (pv 0) pe_int (fun _ _ => rfl)) (pv 1)) (pg_sub (pv 0) pe_int set_list))
      (pss_one (ps_ret (pv 4))))), ?_⟩
    obtain ⟨ns, n, r, h1, h2, h3, h4⟩ := hF
    have hcf : c ≠ f := feed_ne (a := .non) h1 h2
    have hS : SqL K H f [.ref c, .int n, .int r] := .of h1
    have hC : SqL K H c (ns.map V.int) := .of h2
    refine Evl.q_cut (M := fun σ' H' => ∃ (y2 y3 : Option V) (n' : Nat) (r' : Int), σ' = [some (.ref f), some (.int m), y2, y3, none] ∧ H' f = some (.lst [.ref c, .int n', .int r']) ∧ n' ≤ B + 1 ∧ But f H H') ?_ ?_
    · refine ⟨.ref f, rfl, f, _, 2, _, rfl, rfl, hS, rfl, .int m, rfl, _, _, rfl, rfl, _, rfl, ite2 (fun e => ?_) (fun e => ?_)⟩
      · refine ⟨.ref f, rfl, f, _, 1, _, rfl, rfl, hS, rfl, ?_⟩
        refine ⟨_, rfl, _, _, rfl, rfl, .inr ⟨by decide, by decide⟩, ?_⟩
        refine Evl.q_cut (M := fun σ' H' => ∃ (z : Int), σ' = [some (.ref f), some (.int m), some (.int n), some (.int z), none] ∧ H' = H) ?_ ?_
        · refine ⟨.ref f, rfl, f, _, 0, _, rfl, rfl, hS, rfl, c, _, rfl, .inl hC, _, _, rfl, rfl, _, rfl, ite2 (fun e => ?_) (fun e => ?_)⟩
          · have l0 : 0 < ns.length := by
              have z : (0 : Int) < ((ns.map V.int).length : Int) := of_decide_eq_true e
              rw [List.length_map] at z
              omega
            have l1 : n % ns.length < ns.length := Nat.mod_lt _ l0
            refine ⟨.ref f, rfl, f, _, 0, _, rfl, rfl, hS, rfl, _, rfl, .ref f, rfl, f, _, 0, _, rfl, rfl, hS, rfl, c, _, rfl, .inl hC, _, _, rfl, rfl, ?_, c, _, _, .int (ns[n % ns.length]), rfl, rfl, hC, ?_, ?_⟩
            · show (0 : Int) < ((ns.map V.int).length : Int)
              rw [List.length_map]
              omega
            · refine at_of (j := n % ns.length) ?_ ?_
              · rw [List.length_map]
                exact (Int.natCast_emod n ns.length).symm
              · rw [List.getElem?_map, List.getElem?_eq_getElem l1]
                rfl
            · exact ⟨_, rfl, rfl⟩
          · exact ⟨_, rfl, rfl⟩
        · rintro σ' H' ⟨z, rfl, rfl⟩
          refine ⟨_, rfl, _, _, rfl, rfl, _, rfl, f, _, 1, 1, rfl, rfl, h1, rfl, ?_⟩
          refine Evl.q_cut (M := fun σ' H2 => σ' = [some (.ref f), some (.int m), some (.int n), some (.int z), none] ∧ But f H' H2 ∧ H2 f = some (.lst [.ref c, .int ((n + 1 : Nat) : Int), .int z])) ?_ ?_
          · refine ⟨_, rfl, _, rfl, f, _, 2, 2, rfl, rfl, upd_same, rfl, rfl, fun b nb => ?_, upd_same⟩
            rw [upd_ne nb, upd_ne nb]
          rintro σ' H2 ⟨rfl, b2, f2⟩
          have hS2 : SqL K H2 f [.ref c, .int ((n + 1 : Nat) : Int), .int z] := .of f2
          have hC2 : SqL K H2 c (ns.map V.int) := .of ((b2 c hcf).trans h2)
          have mix : ∀ D : Ends, D.nx = (fun σ' H'' => ∃ (y2 y3 : Option V) (n' : Nat) (r' : Int), σ' = [some (.ref f), some (.int m), y2, y3, none] ∧ H'' f = some (.lst [.ref c, .int n', .int r']) ∧ n' ≤ B + 1 ∧ But f H' H'') →
              tAsg (tCall spMix [] E0 (tCons (tVar 3) (tCons (tVar 2) tNil))) (gSub (tVar 0) (tC (.int 2)) rSetL) D [some (.ref f), some (.int m), some (.int n), some (.int z), none] H2 := by
            intro D hD
            refine ⟨_, rfl, _, rfl, z, n, rfl, by omega, fun r2 => ?_⟩
            refine ⟨_, rfl, f, _, 2, 2, rfl, rfl, f2, rfl, ?_⟩
            rw [hD]
            exact ⟨_, _, n + 1, r2, rfl, upd_same, by omega, fun b nb => by rw [upd_ne nb]; exact b2 b nb⟩
          refine ⟨_, rfl, _, _, rfl, rfl, ⟨by decide, by decide, by decide⟩, _, _, rfl, rfl, _, rfl, ite2 (fun e => ?_) (fun e => ?_)⟩
          · exact iteT (mix _ rfl)
          · refine ⟨_, rfl, .ref f, rfl, f, _, 0, _, rfl, rfl, hS2, rfl, c, _, rfl, .inl hC2, _, _, rfl, rfl, _, rfl, ite2 (fun e => ?_) (fun e => ?_)⟩
            · exact mix _ rfl
            · exact ⟨_, _, n + 1, z, rfl, f2, by omega, b2⟩
      · exact ⟨none, none, n, r, rfl, h1, by omega, But.refl f H⟩
    · rintro σ' H' ⟨y2, y3, n', r', rfl, f1, ln, b1⟩
      have hS1 : SqL K H' f [.ref c, .int n', .int r'] := .of f1
      refine ⟨.ref f, rfl, f, _, 2, _, rfl, rfl, hS1, rfl, .int m, rfl, _, _, rfl, rfl, m0, ?_⟩
      refine ⟨.ref f, rfl, f, _, 2, _, rfl, rfl, hS1, rfl, .int m, rfl, _, _, rfl, rfl, ⟨m0, by omega⟩, .ref f, rfl, f, _, 2, 2, rfl, rfl, f1, rfl, ?_⟩
      refine ⟨_, rfl, q (r' % m) _ (Int.emod_nonneg _ (by omega)) (Int.emod_lt_of_pos _ m0) ⟨ns, n', r' / m, upd_same, ?_, h3, ln⟩ fun b nb => ?_⟩
      · rw [upd_ne hcf, b1 c hcf]
        exact h2
      · rw [upd_ne nb]
        exact b1 b nb
/-- sopen(script) -/
def spOpn (K : PySem.W.Frag) : Sp := fun vs H Q _ => ∃ (a : Addr) (ns : List Int), vs = [.ref a] ∧ SqL K H a (ns.map V.int) ∧ ∀ (f c : Addr) (H' : Hp), H f = none → H c = none → Same H H' → Feed H' f c 0 → Q (.ref f) H'
theorem cut60 (ns : List Int) : cutV (ns.map V.int) none (some 60) = (ns.take 60).map V.int := by
  unfold cutV
  rw [HT.sIx_none, show HT.sIx (ns.map V.int).length (ns.map V.int).length (some 60) = min 60 (ns.map V.int).length from HT.sIx_nat _ _ 60]
  rw [List.drop_zero, Nat.sub_zero, List.map_take, List.length_map]
  by_cases h : ns.length ≤ 60
  · rw [Nat.min_eq_right h, List.take_of_length_le (by rw [List.length_map]; exact Nat.le_refl _), List.take_of_length_le (by rw [List.length_map]; exact h)]
  · rw [Nat.min_eq_left (by omega)]
theorem same_upd {H : Hp} {p : Addr} {o : HO} (h : H p = none) : Same H (upd H p o) := fun b x e => by
  rw [upd_ne (ne_of_none e h)]
  exact e
theorem ok_opn {f : Addr} {fd : FuncData} {k : Nat} (F : Fun K "_law_sopen" "_law_sopen" sOpn f fd) (ml : mg "list" = none) : FnOk P w K mg base CX0 (k + 1) f fd ["script"] (spOpn K) := by
  refine F.ok scOpn (fun vs H Q E h => ?_) (fun cdv A outer s H vs Q E hr h => ?_)
  · obtain ⟨a, ns, rfl, _⟩ := h
    rfl
  · obtain ⟨a, ns, rfl, hS, q⟩ := h
    refine ⟨_, pss_one (ps_ret (pe_lst (pa_cons (pe_callTy call_list_of (by rfl) ml (by decide +kernel) (pa_cons (pe_slice sl_list (pv 0) po_none (po_some pe_int)) pa_nil)) (pa_cons pe_int (pa_cons pe_int pa_nil))))), ?_⟩
    refine ⟨.ref a, rfl, 60, rfl, a, _, rfl, hS, fun c nc => ?_⟩
    refine ⟨c, _, rfl, .inl (.of upd_same), fun d nd => ?_⟩
    refine ⟨by show 3 ≤ sizeLine; decide, fun p np => ?_⟩
    have s1 : Same H (upd H c (.lst (cutV (ns.map V.int) none (some 60)))) := same_upd nc
    have s2 := s1.trans (same_upd (o := .lst (cutV (ns.map V.int) none (some 60))) nd)
    have s3 := s2.trans (same_upd (o := .lst [.ref d, .int 0, .int 0]) np)
    refine q p d _ (s2.free np) (s1.free nd) s3 ⟨ns.take 60, 0, 0, upd_same, ?_, ?_, Nat.le_refl _⟩
    · have ndp : d ≠ p := ne_of_none (upd_same (H := upd H c (.lst (cutV (ns.map V.int) none (some 60)))) (a := d) (o := .lst (cutV (ns.map V.int) none (some 60)))) np
      rw [upd_ne ndp, upd_same, cut60]
    · rw [List.length_take]
      omega
end
end Dr
namespace Kp
open PySem PySem.Spec PyProof.Rows L2 GxR Nw Dr
/-! ### what a call leaves as it was: all but the feed (F) and the tables of code objects -/
structure Ke (F : Addr → Prop) (H H' : Hp) : Prop where
  keep : ∀ b o, H b = some o → (∀ ps, o ≠ .tbl ps) → ¬ F b → H' b = some o
  tabs : ∀ P, TabG H P → TabG H' P
  tups : ∀ b xs, H b = some (.tup xs) → H' b = some (.tup xs)
abbrev Nof : Addr → Prop := fun _ => False
variable {F G : Addr → Prop} {H H1 H2 H' : Hp} {f c P : Addr} {B : Nat}
theorem Ke.refl (F : Addr → Prop) (H : Hp) : Ke F H H := ⟨fun _ _ h _ _ => h, fun _ h => h, fun _ _ h => h⟩
theorem Ke.trans (a : Ke F H H1) (b : Ke F H1 H2) : Ke F H H2 := ⟨fun x o h n m => b.keep x o (a.keep x o h n m) n m, fun Q h => b.tabs Q (a.tabs Q h), fun x xs h => b.tups x xs (a.tups x xs h)⟩
theorem Ke.mono (a : Ke F H H1) (h : ∀ b, F b → G b) : Ke G H H1 := ⟨fun x o e n m => a.keep x o e n fun z => m (h x z), a.tabs, a.tups⟩
theorem Ke.all (a : Ke Nof H H1) : Ke F H H1 := a.mono fun _ z => z.elim
theorem Ke.same (s : Same H H1) : Ke F H H1 := ⟨fun b o e _ _ => s b o e, fun Q ⟨ps, h, t⟩ => ⟨ps, s _ _ h, t⟩, fun b xs e => s _ _ e⟩
theorem Ke.lst {a : Addr} {xs : List V} (k : Ke F H H1) (h : H a = some (.lst xs)) (n : ¬ F a) : H1 a = some (.lst xs) := k.keep a _ h (fun ps z => by cases z) n
theorem Ke.tabbed (t : TabG H P) (x : Tabbed P H H1) : Ke F H H1 := by
  obtain ⟨ps, hP, _⟩ := t
  have nP : ∀ b o, H b = some o → (∀ qs, o ≠ .tbl qs) → b ≠ P := fun b o e n z => by
    rw [z, hP] at e
    exact n ps (Option.some.inj e).symm
  refine ⟨fun b o e n _ => (x.2 b (nP b o e n)).trans e, fun Q hQ => ?_, fun b xs e => (x.2 b (nP b _ e fun qs z => by cases z)).trans e⟩
  by_cases hq : Q = P
  · rw [hq]
    exact x.1
  · obtain ⟨qs, h1, h2⟩ := hQ
    exact ⟨qs, (x.2 Q hq).trans h1, h2⟩
theorem Ke.but (h : Feed H f c B) (b : But f H H1) : Ke (· = f) H H1 := by
  obtain ⟨ns, n, r, h1, _⟩ := h
  refine ⟨fun x o e _ m => (b x m).trans e, fun Q ⟨qs, e, t⟩ => ⟨qs, (b Q fun z => ?_).trans e, t⟩, fun x xs e => (b x fun z => ?_).trans e⟩
  · rw [z, h1] at e
    cases e
  · rw [z, h1] at e
    cases e
/-- a write to an object of ours that was new behind H -/
theorem Ke.upd {p : Addr} {o : HO} (k : Ke F H H1) (n : H p = none) : Ke F H (upd H1 p o) := by
  refine ⟨fun b x e t m => ?_, fun Q hQ => ?_, fun b xs e => ?_⟩
  · rw [upd_ne (ne_of_none e n)]
    exact k.keep b x e t m
  · obtain ⟨ps, e, t⟩ := hQ
    obtain ⟨qs, e2, t2⟩ := k.tabs Q ⟨ps, e, t⟩
    exact ⟨qs, by rw [upd_ne (ne_of_none e n)]; exact e2, t2⟩
  · rw [upd_ne (ne_of_none e n)]
    exact k.tups b xs e
theorem Ke.feed (k : Ke Nof H H1) (h : Feed H f c B) : Feed H1 f c B := by
  obtain ⟨ns, n, r, h1, h2, h3, h4⟩ := h
  exact ⟨ns, n, r, k.lst h1 (fun z => z), k.lst h2 (fun z => z), h3, h4⟩
/-- p holds nothing that H knows (but a table, perhaps) -/
def Frs (H : Hp) (p : Addr) : Prop := ∀ b o, H b = some o → (∀ ps, o ≠ .tbl ps) → b ≠ p
theorem Frs.of {p : Addr} (h : H p = none) : Frs H p := fun b o e _ => ne_of_none e h
theorem Frs.ke {p : Addr} (k : Ke (· = f) H H1) (hF : Feed H1 f c B) (h : Frs H1 p) : Frs H p := fun b o e n => by
  by_cases hb : b = f
  · obtain ⟨_, _, _, h1, _⟩ := hF
    rw [hb]
    exact h f _ h1 fun ps z => by cases z
  · exact h b o (k.keep b o e n hb) n
theorem Frs.ke0 {p : Addr} (k : Ke Nof H H1) (h : Frs H1 p) : Frs H p := fun b o e n => h b o (k.keep b o e n fun z => z) n
theorem Ke.write {p : Addr} {xs : List V} {o : HO} (k : Ke F H H1) (fr : Frs H p) (h1 : H1 p = some (.lst xs)) : Ke F H (L2.upd H1 p o) := by
  refine ⟨fun b x e t m => ?_, fun Q hQ => ?_, fun b ys e => ?_⟩
  · rw [upd_ne (fr b x e t)]
    exact k.keep b x e t m
  · obtain ⟨qs, e2, t2⟩ := k.tabs Q hQ
    have n : Q ≠ p := fun z => by
      rw [z, h1] at e2
      cases e2
    exact ⟨qs, by rw [upd_ne n]; exact e2, t2⟩
  · rw [upd_ne (fr b _ e fun ps z => by cases z)]
    exact k.tups b ys e
/-- whole numbers in a tuple, truths in a tuple -/
def TupI (H : Hp) (v : V) (ns : List Int) : Prop := ∃ a, v = .ref a ∧ H a = some (.tup (ns.map V.int))
def TupB (H : Hp) (v : V) (bs : List Bool) : Prop := ∃ a, v = .ref a ∧ H a = some (.tup (bs.map V.bl))
def LstI (H : Hp) (v : V) (ns : List Int) : Prop := ∃ a, v = .ref a ∧ H a = some (.lst (ns.map V.int))
/-- a tuple of claims -/
def Bk (H : Hp) (v : V) (css : List (List Int)) : Prop := ∃ a vs, v = .ref a ∧ H a = some (.tup vs) ∧ vs.length = css.length ∧ ∀ (i : Nat) (x : V) (cs : List Int), vs[i]? = some x → css[i]? = some cs → TupI H x cs
theorem TupI.ke {v : V} {ns : List Int} (h : TupI H v ns) (k : Ke F H H1) : TupI H1 v ns := by
  obtain ⟨a, e, h⟩ := h
  exact ⟨a, e, k.tups _ _ h⟩
theorem TupB.ke {v : V} {ns : List Bool} (h : TupB H v ns) (k : Ke F H H1) : TupB H1 v ns := by
  obtain ⟨a, e, h⟩ := h
  exact ⟨a, e, k.tups _ _ h⟩
theorem Bk.ke {v : V} {css : List (List Int)} (h : Bk H v css) (k : Ke F H H1) : Bk H1 v css := by
  obtain ⟨a, vs, e, h, l, t⟩ := h
  exact ⟨a, vs, e, k.tups _ _ h, l, fun i x cs h1 h2 => (t i x cs h1 h2).ke k⟩
/-! ### claims -/
def rising : List Int → Bool
  | a :: b :: r => decide (a < b) && rising (b :: r)
  | _ => true
structure IsCl (cs : List Int) : Prop where
  up : cs.Pairwise (· < ·)
  says : ∀ k ∈ cs, k ≠ 0 ∧ -8 ≤ k ∧ k ≤ 8
  opp : ∀ k ∈ cs, -k ∉ cs
  len : cs.length ≤ 8
theorem IsCl.nil : IsCl [] := { up := .nil, says := fun _ h => (nomatch h), opp := fun _ h => (nomatch h), len := by decide }
end Kp
namespace Se
open PySem PySem.Spec PyProof.Rows L2 GxR Nw Dr Kp
/-- a def of the text whose code object stands at c -/
structure FunC (K : PySem.W.Frag) (x qual : Str) (st : Stmt) (f c : Addr) (fd : FuncData) : Prop where
  ex : ∃ (oc : Value) (od : Option Addr) (kV doc pm : Value) (an : Option Addr) (ct : Value) (osl : Array (Option Value)), fd = PySem.W.fnOf x qual (defArgs st) (defBody st) (defScope st) .none kV doc pm an (.ref c) ct ∧ K.lookup f = some ⟨oc, od, .func fd, osl⟩ ∧ PySem.W.codeIn K (.ref c) qual = true
  kp : PySem.W.keepIn K (.ref f) = true
section
variable {P : Program} {w : World} {K : PySem.W.Frag} {mg : Str → Option Value} {base : Heap}
theorem FunC.fn {x qual : Str} {st : Stmt} {f c : Addr} {fd : FuncData} (F : FunC K x qual st f c fd) : Fun K x qual st f fd := by
  obtain ⟨oc, od, kV, doc, pm, an, ct, osl, e, l, cd⟩ := F.ex
  exact ⟨⟨oc, od, kV, doc, pm, an, .ref c, ct, osl, e, l, cd⟩, F.kp⟩
theorem FunC.ok {x qual : Str} {st : Stmt} {f c : Addr} {fd : FuncData} {N ps : List Str} {k : Nat} {sp : Sp} (F : FunC K x qual st f c fd) (S : FnScope N ps (defScope st)) (len : ∀ vs H Q E, sp vs H Q E → vs.length = ps.length)
    (body : ∀ (A : Around) (outer : List Env) (s : Shared) (H : Hp) (vs : List V) (Q : VK) (E : XK), Room k (A.deeper (envOfC qual (defScope st) s.heap.objs.size f (.ref c))) → sp vs H Q E →
      ∃ t, PSs (cxOf CX0 P w K mg base N qual (defScope st) f (.ref c) A outer s H E).nox (defBody st) t ∧ t { nx := fun _ H' => Q .non H', rt := Q } (start N vs) H) : FnOk P w K mg base CX0 (k + 1) f fd ps sp := by
  obtain ⟨oc, od, kV, doc, pm, an, ct, osl, rfl, lk, hcd⟩ := F.ex
  refine fn_of lk hcd S len fun A outer s H vs Q E hr hsp => ?_
  obtain ⟨t, h, q⟩ := body A outer s H vs Q E hr hsp
  exact ⟨t, h.nox, q⟩
end
end Se
namespace St
open PySem PySem.Spec PyProof.Rows L2 Nw
/-! ### set(xs) of a list of whole numbers, and sorted of it -/
/-- a set as it begins -/
abbrev bare (w : World) : Obj := { cls := .type "set", dict := none, data := .set #[] 0 (.fresh 0 0 (!w.params.followText "set-order")) }
section
variable {P : Program} {w : World} {A : Around} {E : Value → Shared → Prop} {s : Shared}
set_option maxRecDepth 100000 in
set_option maxHeartbeats 3200000 in
theorem set_of_list {l : Addr} {xs : Array Value} (ks : List Int) {Q : Value → Shared → Prop} (hA : A.handled = none) (hx : s.heap.IsList l xs) (hk : IntsAre xs.toList ks) (few : ks.length + 1 < scanBound)
    (want : ∀ (h' : Heap) (tk c : Nat), SetR w h' s.heap.objs.size (fun j => decide (j ∈ ks)) c → c ≤ ks.length → (∀ b o, s.heap.get? b = some o → h'.get? b = some o) → Q (.ref s.heap.objs.size) { s with heap := h', toks := tk }) :
    wpAny (model P w) A (call (.type "set") [.ref l]) Q E s := by
  have sz : xs.size = ks.length := by rw [← Array.length_toList]; exact IntsAre.length hk
  obtain ⟨c, tl, hmro⟩ := F.called_set.mro
  have m1 := F.called_set.made
  have m2 := F.called_set.sub
  have m3 := F.called_set.notType
  have m4 := F.called_set.canCreate
  have m5 := F.typeCall_set_1 (.ref l)
  refine wpAny_call (codeAny_of_tree (wpAny_pure ⟨Code.quiet_builtin _ (by decide +kernel), codeAny_builtin F.entry_type_call ?_⟩))
  rw [Around.under_plain (weight_type_call_type "set" [.ref l] []) rfl]
  repeat (any_goals (first | assumption | wp_step))
  refine codeAny_mono (code_set_led1 (.ref l) (E := E) (Q₁ := fun o s1 => o = .ref s.heap.objs.size ∧ s1 = { s with heap := s.heap.push (bare w) }) ⟨rfl, rfl⟩) fun r s1 hr => ?_
  cases r with
  | error e => exact hr
  | ok fl =>
    cases fl with
    | next => exact hr.elim
    | brk => exact hr.elim
    | cont => exact hr.elim
    | ret o =>
      obtain ⟨rfl, rfl⟩ := hr
      have g0 : (s.heap.push (bare w)).get? s.heap.objs.size = some (bare w) := Heap.get?_push_size _ rfl
      have t0 : Shared.TypeIs { s with heap := s.heap.push (bare w) } (.ref s.heap.objs.size) "set" := ⟨_, g0, rfl⟩
      have m6 := F.called_set.init.lookup
      have m7 := F.called_set.init.bind (.ref s.heap.objs.size)
      repeat (any_goals (first | assumption | wp_step))
      refine codeAny_mono (codeAny_call_builtin (R := wants (fun r s2 => r = .none ∧ ∃ h' tk c, s2 = { s with heap := h', toks := tk } ∧ SetR w h' s.heap.objs.size (fun j => decide (j ∈ ks)) c ∧ c ≤ ks.length ∧ ∀ b o, s.heap.get? b = some o → h'.get? b = some o) E) F.called_set.init.plain F.entry_set_init (check_set_init_1 t0 ?_)) fun r2 s2 hr2 => ?_
      · obtain ⟨ol, g1, hc, nl, hd⟩ := hx
        have lt : l < s.heap.objs.size := Heap.lt_size g1
        obtain ⟨oc, od, oda, osl⟩ := ol
        dsimp only at hc hd
        subst hc hd
        have g2 : (s.heap.push (bare w)).get? l = some { cls := .type "list", dict := od, data := .seq xs nl, slots := osl } := Heap.get?_push_of_some _ g1
        have i1 : (s.heap.push (bare w)).IsList l xs := ⟨_, g2, rfl, nl, rfl⟩
        have m8 := F.sub_list_set
        have m9 := F.sub_list_frozenset
        have m10 : (Value.type "list" == Value.type "dict") = false := by decide
        have szp : (s.heap.push (bare w)).objs.size = s.heap.objs.size + 1 := Heap.size_push ..
        unfold Builtin.«set.__init__» noKeywords Builtin.Frozenset.updateFrom
        generalize hPI : pyIter = PI
        wp_walk
        subst hPI
        refine wpAny_pyIter_list i1 (wpAny_bind (wpAny_runValue ?_))
        have ne1 : l ≠ (s.heap.push (bare w)).objs.size := by rw [szp]; exact Nat.ne_of_lt (Nat.lt_succ_of_lt lt)
        have ne2 : s.heap.objs.size ∉ [(s.heap.push (bare w)).objs.size, l] := by
          rw [szp]
          simp only [List.mem_cons, List.not_mem_nil, or_false, not_or]
          exact ⟨Nat.ne_of_lt (Nat.lt_succ_self _), Nat.ne_of_gt lt⟩
        have at_ : ∀ (i : Nat) (v : Value), xs[i]? = some v → ∃ k t, ks[i]? = some k ∧ v = .int k t := fun i v hv => by
          have hi : i < ks.length := by rw [← sz]; exact (Array.getElem?_eq_some_iff.mp hv).1
          obtain ⟨t, e⟩ := IntsAre.int_at hk i v (by rw [Array.getElem?_toList]; exact hv)
          rw [List.getD_eq_getElem?_getD, List.getElem?_eq_getElem hi, Option.getD_some] at e
          exact ⟨ks[i], t, List.getElem?_eq_getElem hi, e⟩
        have hA3 : A.in1.in1.in1.handled = none := by simp [hA]
        refine set_update_ints ((Walks.list hA3 _ l ne1 xs).toS) s.heap.objs.size ne2 ks sz few at_ (xs.size - 0) 0 _ (by omega) (Nat.zero_le _) ⟨⟨_, Heap.get?_push_size _ rfl, rfl, rfl⟩, i1.push _⟩ ⟨0, Nat.le_refl 0, setR_new_at (Heap.get?_push_of_some _ g0)⟩ ?_
        intro s' c' hm hc' hS'
        obtain ⟨h', g', d', tk', os'⟩ := s'
        obtain rfl : g' = s.gens := hm.gens
        obtain rfl : d' = s.drawn := hm.drawn
        obtain rfl : os' = s.os := hm.os
        show wpAny _ _ _ _ _ _
        refine wpAny_pure (wpAny_pure ⟨rfl, h', tk', c', rfl, hS', by omega, fun b o e => ?_⟩)
        have lb : b < s.heap.objs.size := Heap.lt_size e
        refine hm.heap b o ?_ (Heap.get?_push_of_some _ (Heap.get?_push_of_some _ e))
        rw [szp]
        simp only [List.mem_cons, List.not_mem_nil, or_false, not_or]
        exact ⟨Nat.ne_of_lt lb, Nat.ne_of_lt (Nat.lt_succ_of_lt lb)⟩
      · cases r2 with
        | error e => exact hr2
        | ok f2 =>
          cases f2 with
          | next => exact hr2.elim
          | brk => exact hr2.elim
          | cont => exact hr2.elim
          | ret r =>
            obtain ⟨rfl, h', tk, c', rfl, hS', hc', hk'⟩ := hr2
            repeat (any_goals (first | assumption | wp_step))
            exact want _ _ _ hS' hc' hk'
end
end St
namespace St
open PySem PySem.Spec PyProof.Rows L2 Nw
theorem cr_setL {X : Cx} (hc : X.calm = true) : CallR X (.type "set") (fun xs H Q => ∃ (a : Addr) (ns : List Int), xs = [.ref a] ∧ SqL X.K H a (ns.map V.int) ∧ ns.length ≤ 60 ∧ ∀ p H2 n, H p = none → Same H H2 → H2 p = some (SetO X.w p (fun j => decide (j ∈ ns)) n) → n ≤ ns.length → Q (.ref p) H2) := by
  intro pins s σ H xs us Q I r h
  obtain ⟨a, ns, rfl, hs, hl, q⟩ := h
  obtain ⟨u, rfl, ru⟩ := Vals.one r
  cases ru
  obtain ⟨its, ri, pl, _⟩ := I.list hs
  have hn : H s.heap.objs.size = none := I.hok.fresh (Nat.le_refl _)
  refine set_of_list ns (I.ok.hd hc) (PlainL.isList pl) (by rw [List.toList_toArray]; exact Vals.ints ri) (by unfold scanBound; omega) fun h' tk c R lc k => ?_
  exact ⟨.ref s.heap.objs.size, upd H s.heap.objs.size (SetO X.w s.heap.objs.size (fun j => decide (j ∈ ns)) c), I.laid (t' := tk) k (Nat.le_refl _) (setO_new R), rfl, q _ _ c hn (same_new hn) upd_same lc⟩
theorem cr_sortedS {X : Cx} (hc : X.calm = true) : CallR X (.builtin "sorted") (fun vs H Q => ∃ (a : Addr) (S : Int → Bool) (n : Nat), vs = [V.ref a] ∧ H a = some (SetO X.w a S n) ∧ n < 64 ∧ ∀ ns : List Int, ns.Pairwise (· < ·) → (∀ k : Int, k ∈ ns ↔ S k = true) → ns.length = n → New H (.lst (ns.map V.int)) Q) :=
  call_weak (cr_sortedSet hc) fun _ _ _ ⟨a, S, n, h1, h2, h3, h4⟩ => ⟨a, S, n, h1, h2, h3, fun ns p x1 x2 x3 np => (h4 ns x1 x2 x3).to p np⟩
end St
namespace St
open PySem PySem.Spec PyProof.Rows L2 Nw
section
variable {X : Cx}
/-- sorted(t), t a tuple of whole numbers: the items are gathered in a list, then a list of these is sorted in its place -/
theorem cr_sortedT : CallR X (.builtin "sorted") (fun vs H Q => ∃ (a : Addr) (ns : List Int), vs = [V.ref a] ∧ SqT X.K H a (ns.map V.int) ∧ ∀ ns' : List Int, ns'.Perm ns → ns'.Pairwise (· ≤ ·) → New H (.lst (ns'.map V.int)) Q) := by
  intro pins s σ H vs us Q I r h
  obtain ⟨a, ns, rfl, hs, q⟩ := h
  obtain ⟨its, rv, ⟨o, ho, hcl, n, hd⟩, hz⟩ := I.tuple hs
  obtain ⟨u, rfl, ru⟩ := Vals.one r
  cases ru
  have hin := Vals.ints rv
  have lz : its.length ≤ sizeLine := by rw [← Vals.length rv]; exact hz
  refine Calls.call_function_entry PyProof.Rows.kind_sorted PyProof.Rows.plain_sorted PyProof.Rows.entry_sorted (PyProof.Rows.args_sorted1 _) ?_
  unfold Builtin.«sorted»
  refine wpAny_bind (m := checkCount "sorted" 1 1 _) (wpAny_pure (wpAny_bind (wpAny_collect_seq a (.inr rfl) ho hcl hd (fun h1 k1 => ?_) (by rw [List.size_toArray]; exact lz))))
  refine wpAny_bind (wpAny_newList ?_ (by rw [List.toList_toArray]; exact lz))
  rw [List.toList_toArray]
  have at1 : (h1.push (seqObj "list" its.toArray 0)).get? h1.objs.size = some (seqObj "list" its.toArray 0) := Heap.get?_push_size _ rfl
  have up1 : ∀ b o, s.heap.get? b = some o → b ≠ h1.objs.size ∧ (h1.push (seqObj "list" its.toArray 0)).get? b = some o := fun b o e => ⟨Nat.ne_of_lt (Heap.lt_size (k1 b o e)), Heap.get?_push_of_some _ (k1 b o e)⟩
  refine wpAny_bind (wpAny_holding (wpAny_call_entry PyProof.Rows.slot_list_sort ⟨_, at1, rfl⟩ PyProof.Rows.entry_list_sort (SrtO.list_sort_ord SrtO.swo_int at1 lz (fun h2 => SrtO.ints_sortable hin h2) fun out g1 g2 => ⟨_, rfl, ?_⟩) (PyProof.Rows.args_list_sort _)))
  obtain ⟨i1, i2, i3⟩ := SrtO.ints_out hin g1 g2
  obtain ⟨ep, hat⟩ := PyProof.Rows.sortedHeap_at (out := out.toArray) at1
  have gone : s.heap.get? h1.objs.size = none := by
    cases e : s.heap.get? h1.objs.size with
    | none => rfl
    | some o => exact absurd (Heap.lt_size (k1 _ o e)) (Nat.lt_irrefl _)
  have hn : H h1.objs.size = none := I.hok.gone gone
  have old : ∀ b o, s.heap.get? b = some o → (PyProof.Rows.sortedHeap (h1.push (seqObj "list" its.toArray 0)) h1.objs.size its out.toArray).get? b = some o := fun b o e => by
    rw [PyProof.Rows.sortedHeap_old (up1 b o e).1 (Heap.lt_size (up1 b o e).2)]
    exact (up1 b o e).2
  have len : ((out.map SrtO.iv).map V.int).length ≤ sizeLine := by
    rw [List.length_map, i2.length_eq]
    rw [List.length_map] at hz
    exact hz
  refine wpAny_pure ⟨_, rfl, .ref h1.objs.size, upd H h1.objs.size (.lst ((out.map SrtO.iv).map V.int)), I.laidN (t' := s.toks) old gone hn ⟨len, out, ep, vals_of_ints i1, hat⟩, rfl, (q _ i2 i3).to _ hn⟩
end
end St
namespace St2
open PySem PySem.Spec PyProof.Rows L2 Nw
/-! ### set(t) of a tuple of whole numbers -/
/-- a set as it begins -/
abbrev bare (w : World) : Obj := { cls := .type "set", dict := none, data := .set #[] 0 (.fresh 0 0 (!w.params.followText "set-order")) }
section
variable {P : Program} {w : World} {A : Around} {E : Value → Shared → Prop} {s : Shared}
set_option maxRecDepth 100000 in
set_option maxHeartbeats 3200000 in
theorem set_of_tup {l : Addr} {xs : Array Value} (ks : List Int) {Q : Value → Shared → Prop} (hA : A.handled = none) (hx : s.heap.IsTuple l xs) (hk : IntsAre xs.toList ks) (few : ks.length + 1 < scanBound)
    (want : ∀ (h' : Heap) (tk c : Nat), SetR w h' s.heap.objs.size (fun j => decide (j ∈ ks)) c → c ≤ ks.length → (∀ b o, s.heap.get? b = some o → h'.get? b = some o) → Q (.ref s.heap.objs.size) { s with heap := h', toks := tk }) :
    wpAny (model P w) A (call (.type "set") [.ref l]) Q E s := by
  have sz : xs.size = ks.length := by rw [← Array.length_toList]; exact IntsAre.length hk
  obtain ⟨c, tl, hmro⟩ := F.called_set.mro
  have m1 := F.called_set.made
  have m2 := F.called_set.sub
  have m3 := F.called_set.notType
  have m4 := F.called_set.canCreate
  have m5 := F.typeCall_set_1 (.ref l)
  refine wpAny_call (codeAny_of_tree (wpAny_pure ⟨Code.quiet_builtin _ (by decide +kernel), codeAny_builtin F.entry_type_call ?_⟩))
  rw [Around.under_plain (weight_type_call_type "set" [.ref l] []) rfl]
  repeat (any_goals (first | assumption | wp_step))
  refine codeAny_mono (code_set_led1 (.ref l) (E := E) (Q₁ := fun o s1 => o = .ref s.heap.objs.size ∧ s1 = { s with heap := s.heap.push (bare w) }) ⟨rfl, rfl⟩) fun r s1 hr => ?_
  cases r with
  | error e => exact hr
  | ok fl =>
    cases fl with
    | next => exact hr.elim
    | brk => exact hr.elim
    | cont => exact hr.elim
    | ret o =>
      obtain ⟨rfl, rfl⟩ := hr
      have g0 : (s.heap.push (bare w)).get? s.heap.objs.size = some (bare w) := Heap.get?_push_size _ rfl
      have t0 : Shared.TypeIs { s with heap := s.heap.push (bare w) } (.ref s.heap.objs.size) "set" := ⟨_, g0, rfl⟩
      have m6 := F.called_set.init.lookup
      have m7 := F.called_set.init.bind (.ref s.heap.objs.size)
      repeat (any_goals (first | assumption | wp_step))
      refine codeAny_mono (codeAny_call_builtin (R := wants (fun r s2 => r = .none ∧ ∃ h' tk c, s2 = { s with heap := h', toks := tk } ∧ SetR w h' s.heap.objs.size (fun j => decide (j ∈ ks)) c ∧ c ≤ ks.length ∧ ∀ b o, s.heap.get? b = some o → h'.get? b = some o) E) F.called_set.init.plain F.entry_set_init (check_set_init_1 t0 ?_)) fun r2 s2 hr2 => ?_
      · obtain ⟨ol, g1, hc, nl, hd⟩ := hx
        have lt : l < s.heap.objs.size := Heap.lt_size g1
        obtain ⟨oc, od, oda, osl⟩ := ol
        dsimp only at hc hd
        subst hc hd
        have g2 : (s.heap.push (bare w)).get? l = some { cls := .type "tuple", dict := od, data := .seq xs nl, slots := osl } := Heap.get?_push_of_some _ g1
        have i1 : (s.heap.push (bare w)).IsTuple l xs := ⟨_, g2, rfl, nl, rfl⟩
        have m8 := F.sub_tuple_set
        have m9 := F.sub_tuple_frozenset
        have m10 : (Value.type "tuple" == Value.type "dict") = false := by decide
        have szp : (s.heap.push (bare w)).objs.size = s.heap.objs.size + 1 := Heap.size_push ..
        unfold Builtin.«set.__init__» noKeywords Builtin.Frozenset.updateFrom
        generalize hPI : pyIter = PI
        wp_walk
        subst hPI
        refine wpAny_pyIter_tuple i1 (wpAny_bind (wpAny_runValue ?_))
        have ne1 : l ≠ (s.heap.push (bare w)).objs.size := by rw [szp]; exact Nat.ne_of_lt (Nat.lt_succ_of_lt lt)
        have ne2 : s.heap.objs.size ∉ [(s.heap.push (bare w)).objs.size, l] := by
          rw [szp]
          simp only [List.mem_cons, List.not_mem_nil, or_false, not_or]
          exact ⟨Nat.ne_of_lt (Nat.lt_succ_self _), Nat.ne_of_gt lt⟩
        have at_ : ∀ (i : Nat) (v : Value), xs[i]? = some v → ∃ k t, ks[i]? = some k ∧ v = .int k t := fun i v hv => by
          have hi : i < ks.length := by rw [← sz]; exact (Array.getElem?_eq_some_iff.mp hv).1
          obtain ⟨t, e⟩ := IntsAre.int_at hk i v (by rw [Array.getElem?_toList]; exact hv)
          rw [List.getD_eq_getElem?_getD, List.getElem?_eq_getElem hi, Option.getD_some] at e
          exact ⟨ks[i], t, List.getElem?_eq_getElem hi, e⟩
        have hA3 : A.in1.in1.in1.handled = none := by simp [hA]
        refine set_update_ints ((Walks.tuple hA3 _ l ne1 xs).toS) s.heap.objs.size ne2 ks sz few at_ (xs.size - 0) 0 _ (by omega) (Nat.zero_le _) ⟨⟨_, Heap.get?_push_size _ rfl, rfl, rfl⟩, i1.push _⟩ ⟨0, Nat.le_refl 0, setR_new_at (Heap.get?_push_of_some _ g0)⟩ ?_
        intro s' c' hm hc' hS'
        obtain ⟨h', g', d', tk', os'⟩ := s'
        obtain rfl : g' = s.gens := hm.gens
        obtain rfl : d' = s.drawn := hm.drawn
        obtain rfl : os' = s.os := hm.os
        show wpAny _ _ _ _ _ _
        refine wpAny_pure (wpAny_pure ⟨rfl, h', tk', c', rfl, hS', by omega, fun b o e => ?_⟩)
        have lb : b < s.heap.objs.size := Heap.lt_size e
        refine hm.heap b o ?_ (Heap.get?_push_of_some _ (Heap.get?_push_of_some _ e))
        rw [szp]
        simp only [List.mem_cons, List.not_mem_nil, or_false, not_or]
        exact ⟨Nat.ne_of_lt lb, Nat.ne_of_lt (Nat.lt_succ_of_lt lb)⟩
      · cases r2 with
        | error e => exact hr2
        | ok f2 =>
          cases f2 with
          | next => exact hr2.elim
          | brk => exact hr2.elim
          | cont => exact hr2.elim
          | ret r =>
            obtain ⟨rfl, h', tk, c', rfl, hS', hc', hk'⟩ := hr2
            repeat (any_goals (first | assumption | wp_step))
            exact want _ _ _ hS' hc' hk'
theorem cr_setT {X : Cx} (hc : X.calm = true) : CallR X (.type "set") (fun xs H Q => ∃ (a : Addr) (ns : List Int), xs = [.ref a] ∧ SqT X.K H a (ns.map V.int) ∧ ns.length ≤ 60 ∧ ∀ p H2 n, H p = none → Same H H2 → H2 p = some (SetO X.w p (fun j => decide (j ∈ ns)) n) → n ≤ ns.length → Q (.ref p) H2) := by
  intro pins s σ H xs us Q I r h
  obtain ⟨a, ns, rfl, hs, hl, q⟩ := h
  obtain ⟨u, rfl, ru⟩ := Vals.one r
  cases ru
  obtain ⟨its, ri, pl, _⟩ := I.tuple hs
  have hn : H s.heap.objs.size = none := I.hok.fresh (Nat.le_refl _)
  refine set_of_tup ns (I.ok.hd hc) (show s.heap.IsTuple a its.toArray from pl) (by rw [List.toList_toArray]; exact Vals.ints ri) (by unfold scanBound; omega) fun h' tk c R lc k => ?_
  exact ⟨.ref s.heap.objs.size, upd H s.heap.objs.size (SetO X.w s.heap.objs.size (fun j => decide (j ∈ ns)) c), I.laid (t' := tk) k (Nat.le_refl _) (setO_new R), rfl, q _ _ c hn (same_new hn) upd_same lc⟩
end
end St2
namespace Ct
open PySem PySem.Spec PyProof.Rows L2 GxR Nw Dr Kp Se
structure Zc (mg : Str → Option Value) : Prop where
  z_any : mg "any" = none
  z_isinstance : mg "isinstance" = none
  z_int : mg "int" = none
  z_bool : mg "bool" = none
  z_tuple : mg "tuple" = none
  z_sorted : mg "sorted" = none
  z_set : mg "set" = none
abbrev sHop : Stmt := topS 3
abbrev nHop : List Str := ["says", "say"]
theorem scHop : FnScope nHop ["says"] (defScope sHop) := ⟨rfl, rfl, rfl, by decide +kernel, rfl, by decide +kernel, by decide +kernel⟩
abbrev sWho : Stmt := topS 2
theorem scWho : FnScope ["thing"] ["thing"] (defScope sWho) := ⟨rfl, rfl, rfl, by decide +kernel, rfl, by decide +kernel, by decide +kernel⟩
abbrev sCme : Stmt := topS 5
theorem scCme : FnScope ["one", "other", "k"] ["one", "other", "k"] (defScope sCme) := ⟨rfl, rfl, rfl, by decide +kernel, rfl, by decide +kernel, by decide +kernel⟩
abbrev sCon : Stmt := topS 6
abbrev nCon : List Str := ["one", "other", "k", "says", "say"]
theorem scCon : FnScope nCon ["one", "other", "k"] (defScope sCon) := ⟨rfl, rfl, rfl, by decide +kernel, rfl, by decide +kernel, by decide +kernel⟩
theorem ints_flat (cs : List Int) : (cs.map V.int).all flatV = true := by
  rw [List.all_map, List.all_eq_true]
  exact fun _ _ => rfl
theorem at_int {ks : List Int} {i : Nat} {x : V} (hx : (ks.map V.int)[i]? = some x) : ∃ z, ks[i]? = some z ∧ x = V.int z := by
  rw [List.getElem?_map] at hx
  cases e : ks[i]? with
  | none =>
    rw [e] at hx
    cases hx
  | some z =>
    rw [e] at hx
    exact ⟨z, rfl, (Option.some.inj hx).symm⟩
/-- any/all over a list that stays -/
theorem aa_list {K : PySem.W.Frag} {a : Addr} {xs : List V} {g : TG} {tt : TT} {te : TE} {vs : List Nat} {σ : L2.St} {H1 : Hp} {stopb : Bool} {Q : VK} (Pv : Nat → Hp → Prop) (h0 : Pv 0 H1) (hl : ∀ i H, i ≤ xs.length → Pv i H → SqL K H a xs)
    (hs : ∀ i x H, xs[i]? = some x → Pv i H → g x (wipe σ vs) H fun σ2 H2 => wipe σ2 vs = wipe σ vs ∧ tt σ2 H2 fun b H3 => if b = true then te σ2 H3 fun y H4 => (y = .bl stopb ∧ Q (.bl stopb) H4) ∨ (y = .bl (!stopb) ∧ Pv (i + 1) H4) else Pv (i + 1) H3) (hd : ∀ H, Pv xs.length H → Q (.bl (!stopb)) H) :
    ∃ W : Nat → Nat → Hp → Prop, (∃ m, W 0 m H1) ∧ ∀ i m H, W i m H → ((Itl K a).stop i H ∧ Q (.bl (!stopb)) H) ∨ ((Itl K a).go i H ∧ ∃ Nx : Hp → Prop, (∀ H', Nx H' → ∃ m', m' < m ∧ W (i + 1) m' H') ∧ ∀ x H', (Itl K a).yld i H x H' → g x (wipe σ vs) H' fun σ2 H2 => wipe σ2 vs = wipe σ vs ∧ tt σ2 H2 fun b H3 =>
      if b = true then te σ2 H3 fun y H4 => (y = .bl stopb ∧ Q (.bl stopb) H4) ∨ (y = .bl (!stopb) ∧ Nx H4) else Nx H3) := by
  refine ⟨fun i m H => i + m = xs.length ∧ Pv i H, ⟨xs.length, Nat.zero_add _, h0⟩, fun i m H ⟨e, p⟩ => ?_⟩
  have sq := hl i H (by omega) p
  cases m with
  | zero =>
    have ei : i = xs.length := by omega
    subst ei
    exact .inl ⟨⟨xs, sq, Nat.le_refl _⟩, hd H p⟩
  | succ m =>
    have lt : i < xs.length := by omega
    refine .inr ⟨⟨xs, xs[i], sq, List.getElem?_eq_getElem lt⟩, Pv (i + 1), fun H' q => ⟨m, Nat.lt_succ_self m, by omega, q⟩, fun x H' y => ?_⟩
    obtain ⟨rfl, y⟩ := y
    exact hs i x _ (y xs sq) p
/-- two of the says are opposite -/
def oppB (ns : List Int) : Bool := ns.any fun s => decide (0 < s) && inV (.int (-s)) (ns.map V.int)
theorem take_any {α : Type} {f : α → Bool} {l : List α} {i : Nat} {x : α} (h : l[i]? = some x) (p : (l.take i).any f = false) : (f x = true → l.any f = true) ∧ (f x = false → (l.take (i + 1)).any f = false) := by
  refine ⟨fun z => List.any_eq_true.mpr ⟨x, List.mem_of_getElem? h, z⟩, fun z => ?_⟩
  rw [List.take_add_one, h, List.any_append, p]
  show (f x || false) = false
  rw [z]
  rfl
section
variable {P : Program} {w : World} {K : PySem.W.Frag} {mg : Str → Option Value} {base : Heap}
def spHop (Po : Addr) : Sp := fun vs H Q _ => ∃ (a : Addr) (ns : List Int), vs = [.ref a] ∧ H a = some (.lst (ns.map V.int)) ∧ TabG H Po ∧ ∀ H', Ke Nof H H' → Q (.bl (oppB ns)) H'
theorem ok_hop {f c Po : Addr} {fd : FuncData} {k : Nat} (F : FunC K "has_opposites" "has_opposites" sHop f c fd) (T : Zc mg) (TB : TabB base mg c Po) : FnOk P w K mg base CX0 (k + 3) f fd ["says"] (spHop Po) := by
  refine F.ok scHop (fun vs H Q E h => ?_) (fun A outer s H vs Q E hr h => ?_)
  · obtain ⟨a, ns, rfl, _⟩ := h
    rfl
  · obtain ⟨a, ns, rfl, ha, tg, q⟩ := h
    refine ⟨_, (pss_one (ps_ret (Gx.pe_any hr (by rfl) T.z_any rfl scHop.nd TB rfl (pi_list (pv 0)) (own := [("say", 1)]) (g := gName 1) (blkOk_by (N := nHop) (sc := defScope sHop) (by decide +kernel)) ⟨rfl, by decide +kernel, rfl⟩ (fun _ _ _ _ _ _ _ => pg_name (i := 1) scHop.nd rfl (.inl rfl)) (fun _ _ _ _ _ _ _ => (pts_one (pt_cmpR op_gt (pv 1) pe_int (nomark _)))) (fun _ _ _ _ _ _ _ => (pe_cmpR (op_in_seqB (K := K) rfl) (pe_un un_neg (pv 1)) (pv 0) (by rfl)))))), ?_⟩
    refine ⟨_, rfl, a, rfl, ⟨_, .of ha⟩, tg, fun H1 tb => ?_⟩
    have k1 : Ke Nof H H1 := .tabbed tg tb
    refine aa_list (xs := ns.map V.int) (Pv := fun i H' => Ke Nof H H' ∧ (ns.take i).any (fun s => decide (0 < s) && inV (.int (-s)) (ns.map V.int)) = false) ⟨k1, rfl⟩ (fun i H' _ p => .of (p.1.lst ha fun z => z)) ?_ ?_
    · rintro i x H' hx ⟨k2, p⟩
      obtain ⟨z, hz, rfl⟩ := at_int hx
      obtain ⟨t1, t2⟩ := take_any hz p
      refine ⟨rfl, _, rfl, _, _, rfl, rfl, _, rfl, ite2 (fun y1 => ?_) (fun y1 => ?_)⟩
      · refine ⟨_, rfl, _, rfl, _, rfl, a, _, rfl, .inl (.of (k2.lst ha fun z => z)), rfl, ints_flat ns, ?_⟩
        cases e : inV (.int (-z)) (ns.map V.int) with
        | true =>
          refine .inl ⟨rfl, ?_⟩
          have := q H' k2
          rw [show oppB ns = true from t1 (by rw [e, Bool.and_true]; exact y1)] at this
          exact this
        | false => exact .inr ⟨rfl, k2, t2 (by rw [e, Bool.and_false])⟩
      · exact ⟨k2, t2 (by rw [show decide (0 < z) = false from Bool.eq_false_iff.mpr y1, Bool.false_and])⟩
    · rintro H' ⟨k2, p⟩
      rw [List.length_map, List.take_length] at p
      have := q H' k2
      rw [show oppB ns = false from p] at this
      exact this
def spWho : Sp := fun vs H Q _ => ∃ k : Int, vs = [.int k] ∧ Q (.bl true) H
theorem ok_who {f : Addr} {fd : FuncData} {k : Nat} (F : Fun K "is_whole" "is_whole" sWho f fd) (T : Zc mg) : FnOk P w K mg base CX0 (k + 1) f fd ["thing"] spWho := by
  refine F.ok scWho (fun vs H Q E h => ?_) (fun cdv A outer s H vs Q E hr h => ?_)
  · obtain ⟨k, rfl, _⟩ := h
    rfl
  · obtain ⟨k, rfl, q⟩ := h
    refine ⟨_, (pss_one (ps_ret (pe_and (pe_callB call_isi (by rfl) T.z_isinstance (by decide +kernel) (pa_cons (pv 0) (pa_cons (pe_bltn (v := .ty "int") (u := .type "int") (by rfl) T.z_int (by decide +kernel) rfl) pa_nil))) (pe_one (pe_not (pe_callB call_isi (by rfl) T.z_isinstance (by decide +kernel) (pa_cons (pv 0) (pa_cons (pe_bltn (v := .ty "bool") (u := .type "bool") (by rfl) T.z_bool (by decide +kernel) rfl) pa_nil)))))))), ?_⟩
    refine ⟨_, rfl, .int k, .ty "int", .type "int", .type "int", true, rfl, .ty _, .base (.int k), kit_ty (by decide +kernel), _, rfl, ?_⟩
    refine ⟨_, rfl, .int k, .ty "bool", .type "int", .type "bool", false, rfl, .ty _, .base (.int k), kit_ty (by decide +kernel), _, rfl, q⟩
/-- k meets -/
def meetB (cs ds : List Int) (k : Int) : Bool := decide (1 ≤ k) && decide (k ≤ 8) && inV (.int k) (cs.map V.int) && inV (.int (-k)) (ds.map V.int)
def spCme : Sp := fun vs H Q _ => ∃ (v u : V) (k : Int) (cs ds : List Int), vs = [v, u, .int k] ∧ TupI H v cs ∧ TupI H u ds ∧ Q (.bl (meetB cs ds k)) H
theorem ok_cme {f fW : Addr} {fd fdW : FuncData} {k : Nat} {tk : Tok} (F : Fun K "can_meet" "can_meet" sCme f fd) (T : Zc mg) (M8 : mg "MOST_THINGS" = some (.int 8 tk)) (FW : Fun K "is_whole" "is_whole" sWho fW fdW) (bW : Binds K fdW ["thing"] []) (gW : mg "is_whole" = some (.ref fW)) (GW : FnOk P w K mg base CX0 1 fW fdW ["thing"] spWho) :
    FnOk P w K mg base CX0 (k + 2) f fd ["one", "other", "k"] spCme := by
  refine F.ok scCme (fun vs H Q E h => ?_) (fun cdv A outer s H vs Q E hr h => ?_)
  · obtain ⟨v, u, k, cs, ds, rfl, _⟩ := h
    rfl
  · obtain ⟨v, u, k, cs, ds, rfl, ⟨a, rfl, ha⟩, ⟨b, rfl, hb⟩, q⟩ := h
    have hr1 : Room 1 _ := hr.mono (by omega)
    refine ⟨_, (pss_one (ps_ret (pe_and (pe_call GW hr1 (by rfl) gW FW.kp bW .nil pass0 (pa_cons (pv 2) pa_nil)) (pe_and (pe_chain op_le op_le pe_int (pv 2) (pe_glob (v := .int 8) rfl M8 ⟨_, rfl⟩)) (pe_and (pe_cmpR op_in_seq (pv 2) (pv 0) (by rfl)) (pe_one (pe_cmpR op_in_seq (pe_un un_neg (pv 2)) (pv 1) (by rfl)))))))), ?_⟩
    refine ⟨_, rfl, k, rfl, _, rfl, ?_⟩
    unfold meetB at q
    refine ⟨_, rfl, 1, _, rfl, rfl, decide (1 ≤ k), rfl, ?_⟩
    cases e1 : decide (1 ≤ k) with
    | false =>
      rw [e1] at q
      exact ⟨_, rfl, q⟩
    | true =>
      refine ⟨_, _, rfl, rfl, decide (k ≤ 8), rfl, ?_⟩
      cases e2 : decide (k ≤ 8) with
      | false =>
        rw [e1, e2] at q
        exact q
      | true =>
        refine ⟨_, rfl, _, rfl, a, _, rfl, .inr (.of ha), rfl, ints_flat cs, _, rfl, ?_⟩
        cases e3 : inV (.int k) (cs.map V.int) with
        | false =>
          rw [e1, e2, e3] at q
          exact q
        | true =>
          rw [e1, e2, e3] at q
          exact ⟨_, rfl, _, rfl, _, rfl, b, _, rfl, .inr (.of hb), rfl, ints_flat ds, q⟩
/-- what is said besides -/
def saysB (cs ds : List Int) (k : Int) : List Int := (cs.filter fun s => !decide (V.int s = V.int k)) ++ ds.filter fun s => !decide (V.int s = V.int (-k))
theorem filt_take {α : Type} {f : α → Bool} {l : List α} {i : Nat} {x : α} (h : l[i]? = some x) : (l.take (i + 1)).filter f = (l.take i).filter f ++ (if f x = true then [x] else []) := by
  rw [List.take_add_one, h, List.filter_append]
  congr 1
  show [x].filter f = _
  cases e : f x with
  | true => rw [List.filter_cons_of_pos e]; rfl
  | false => rw [List.filter_cons_of_neg (by rw [e]; decide)]; rfl
def spCon (Po : Addr) : Sp := fun vs H Q _ => ∃ (v u : V) (k : Int) (cs ds : List Int), vs = [v, u, .int k] ∧ TupI H v cs ∧ TupI H u ds ∧ cs.length ≤ 20 ∧ ds.length ≤ 20 ∧ TabG H Po ∧
  (∀ H', Ke Nof H H' → (meetB cs ds k = false ∨ oppB (saysB cs ds k) = true) → Q .non H') ∧
  ∀ (ns : List Int) (p : Addr) (H' : Hp), Ke Nof H H' → meetB cs ds k = true → oppB (saysB cs ds k) = false → ns.Pairwise (· < ·) → (∀ j, j ∈ ns ↔ j ∈ saysB cs ds k) → H' p = some (.tup (ns.map V.int)) → Q (.ref p) H'
theorem ok_con {f fM fH Po : Addr} {fd fdM fdH : FuncData} {k : Nat} (F : Fun K "cut_or_none" "cut_or_none" sCon f fd) (T : Zc mg) (FM : Fun K "can_meet" "can_meet" sCme fM fdM) (bM : Binds K fdM ["one", "other", "k"] []) (gM : mg "can_meet" = some (.ref fM)) (GM : FnOk P w K mg base CX0 2 fM fdM ["one", "other", "k"] spCme)
    (kpH : PySem.W.keepIn K (.ref fH) = true) (bH : Binds K fdH ["says"] []) (gH : mg "has_opposites" = some (.ref fH)) (GH : FnOk P w K mg base CX0 3 fH fdH ["says"] (spHop Po)) :
    FnOk P w K mg base CX0 (k + 4) f fd ["one", "other", "k"] (spCon Po) := by
  refine F.ok scCon (fun vs H Q E h => ?_) (fun cdv A outer s H vs Q E hr h => ?_)
  · obtain ⟨v, u, k, cs, ds, rfl, _⟩ := h
    rfl
  · obtain ⟨v, u, k, cs, ds, rfl, tv, tu, lc, ld, tg, q1, q2⟩ := h
    have hr2 : Room 2 _ := hr.mono (by omega)
    have hr3 : Room 3 _ := hr.mono (by omega)
    refine ⟨_, (pss_cons (ps_if (pt_not (pt_val (pe_call GM hr2 (by rfl) gM FM.kp bM .nil pass0 (pa_cons (pv 0) (pa_cons (pv 1) (pa_cons (pv 2) pa_nil)))))) (pss_one (ps_ret pe_non)) pss_nil)
      (Evl.pss_cut (ps_set (i := 3) scCon.nd rfl (.inl rfl) (pe_op op_catN (pe_lc (own := [("say", 4)]) (g := (gName 4))  rfl scCon.nd (pi_tup (pv 0)) (blkOk_by (N := nCon) (sc := defScope sCon) (by decide +kernel)) (fun _ _ _ _ _ => (pg_name (i := 4) scCon.nd rfl (.inl rfl))) (fun _ _ _ _ _ => (pts_one (pt_cmpR op_ne (pv 4) (pv 2) (nomark _)))) (fun _ _ _ _ _ => (pv 4))) (pe_lc (own := [("say", 4)]) (g := (gName 4))  rfl scCon.nd (pi_tup (pv 1)) (blkOk_by (N := nCon) (sc := defScope sCon) (by decide +kernel)) (fun _ _ _ _ _ => (pg_name (i := 4) scCon.nd rfl (.inl rfl))) (fun _ _ _ _ _ => (pts_one (pt_cmpR op_ne (pv 4) (pe_un un_neg (pv 2)) (nomark _)))) (fun _ _ _ _ _ => (pv 4)))))
      (pss_cons (ps_if (pt_val (pe_call GH hr3 (by rfl) gH kpH bH .nil pass0 (pa_cons (pv 3) pa_nil))) (pss_one (ps_ret pe_non)) pss_nil)
      (pss_one (ps_ret (pe_callTy call_tuple_ofN (by rfl) T.z_tuple (by decide +kernel) (pa_cons (pe_callB (St.cr_sortedS rfl) (by rfl) T.z_sorted (by decide +kernel) (pa_cons (pe_callTy (St.cr_setL rfl) (by rfl) T.z_set (by decide +kernel) (pa_cons (pv 3) pa_nil)) pa_nil)) pa_nil))))))), ?_⟩
    obtain ⟨a, rfl, ha⟩ := id tv
    obtain ⟨b, rfl, hb⟩ := id tu
    refine ⟨_, rfl, _, rfl, _, rfl, .ref a, .ref b, k, cs, ds, rfl, tv, tu, _, rfl, ?_⟩
    cases e1 : meetB cs ds k with
    | false => exact q1 H (.refl _ _) (.inl e1)
    | true =>
      refine Evl.q_cut (M := fun σ' H' => ∃ p : Addr, σ' = [some (.ref a), some (.ref b), some (.int k), some (.ref p), none] ∧ Same H H' ∧ H' p = some (.lst ((saysB cs ds k).map V.int))) ?_ ?_
      · refine ⟨_, rfl, a, rfl, ⟨_, .of ha⟩, fun D nD => ?_⟩
        refine lc_tup (xs := cs.map V.int) (Pv := fun i H' => Same H H' ∧ H' D = some (.lst (((cs.take i).filter fun s => !decide (V.int s = V.int k)).map V.int))) ⟨same_new nD, upd_same⟩ (fun i H' _ p => .of (p.1 _ _ ha)) ?_ ?_
        · rintro i x H' hx ⟨s1, hD⟩
          obtain ⟨z, hz, rfl⟩ := at_int hx
          have ft := filt_take (f := fun s => !decide (V.int s = V.int k)) hz
          refine ⟨rfl, _, rfl, _, rfl, rfl, _, rfl, ite2 (fun y1 => ?_) (fun y1 => ?_)⟩
          · refine ⟨_, rfl, _, hD, ?_, fun c o y => ?_, ?_⟩
            · rw [List.length_map]
              exact small1000 (Nat.le_trans (List.length_filter_le _ _) (by rw [List.length_take]; omega))
            · rw [upd_ne (ne_of_none y nD)]
              exact s1 _ _ y
            · rw [upd_same, ft, if_pos y1, List.map_append]
              rfl
          · refine ⟨s1, ?_⟩
            rw [ft, if_neg y1, List.append_nil]
            exact hD
        rintro H1 ⟨s1, hD⟩
        rw [List.length_map, List.take_length] at hD
        refine ⟨_, rfl, b, rfl, ⟨_, .of (s1 _ _ hb)⟩, fun D2 nD2 => ?_⟩
        refine lc_tup (xs := ds.map V.int) (Pv := fun i H' => Same H1 H' ∧ H' D2 = some (.lst (((ds.take i).filter fun s => !decide (V.int s = V.int (-k))).map V.int))) ⟨same_new nD2, upd_same⟩ (fun i H' _ p => .of (p.1 _ _ (s1 _ _ hb))) ?_ ?_
        · rintro i x H' hx ⟨s2, hD2⟩
          obtain ⟨z, hz, rfl⟩ := at_int hx
          have ft := filt_take (f := fun s => !decide (V.int s = V.int (-k))) hz
          refine ⟨rfl, _, rfl, _, rfl, _, rfl, rfl, _, rfl, ite2 (fun y1 => ?_) (fun y1 => ?_)⟩
          · refine ⟨_, rfl, _, hD2, ?_, fun c o y => ?_, ?_⟩
            · rw [List.length_map]
              exact small1000 (Nat.le_trans (List.length_filter_le _ _) (by rw [List.length_take]; omega))
            · rw [upd_ne (ne_of_none y nD2)]
              exact s2 _ _ y
            · rw [upd_same, ft, if_pos y1, List.map_append]
              rfl
          · refine ⟨s2, ?_⟩
            rw [ft, if_neg y1, List.append_nil]
            exact hD2
        rintro H2 ⟨s2, hD2⟩
        rw [List.length_map, List.take_length] at hD2
        refine ⟨D, D2, _, _, rfl, rfl, s2 _ _ hD, hD2, ?_, fun p H3 np s3 hp _ => ?_⟩
        · rw [List.length_map, List.length_map]
          have h1 := List.length_filter_le (fun s => !decide (V.int s = V.int k)) cs
          have h2 := List.length_filter_le (fun s => !decide (V.int s = V.int (-k))) ds
          exact Nat.le_trans (by omega : _ ≤ 1000) (by decide)
        · rw [← List.map_append] at hp
          exact ⟨p, rfl, (s1.trans s2).trans s3, hp⟩
      rintro σ' H1 ⟨p, rfl, s1, hp⟩
      have k1 : Ke Nof H H1 := .same s1
      refine ⟨_, rfl, p, _, rfl, hp, k1.tabs _ tg, fun H2 k2 => ⟨_, rfl, ?_⟩⟩
      have k12 := k1.trans k2
      cases e2 : oppB (saysB cs ds k) with
      | true => exact q1 H2 k12 (.inr e2)
      | false =>
        have hp2 := k2.lst hp fun z => z
        have ls : (saysB cs ds k).length ≤ 40 := by
          unfold saysB
          rw [List.length_append]
          have h1 := List.length_filter_le (fun s => !decide (V.int s = V.int k)) cs
          have h2 := List.length_filter_le (fun s => !decide (V.int s = V.int (-k))) ds
          omega
        refine ⟨_, rfl, p, _, rfl, .of hp2, by omega, fun r H3 n nr s3 hr' ln => ?_⟩
        refine ⟨r, _, n, rfl, hr', by omega, fun es up me le r2 H4 nr2 s4 h4 _ => ?_⟩
        refine ⟨r2, _, rfl, .of h4, fun r3 H5 nr3 s5 h5 _ => ?_⟩
        exact q2 es r3 H5 (k12.trans (.same ((s3.trans s4).trans s5))) e1 e2 up (fun j => (me j).trans decide_eq_true_iff) h5
end
end Ct
namespace Ct
open PySem PySem.Spec PyProof.Rows L2 GxR Nw Dr Kp Se
structure Zd (mg : Str → Option Value) : Prop where
  z_tuple : mg "tuple" = none
  z_sorted : mg "sorted" = none
  z_set : mg "set" = none
  z_abs : mg "abs" = none
abbrev sSct : Stmt := topS 21
abbrev nSct : List Str := ["one", "other", "k", "says", "say"]
theorem scSct : FnScope nSct ["one", "other", "k"] (defScope sSct) := ⟨rfl, rfl, rfl, by decide +kernel, rfl, by decide +kernel, by decide +kernel⟩
theorem in_ints (k : Int) : ∀ cs : List Int, inV (.int k) (cs.map V.int) = true ↔ k ∈ cs
  | [] => by
    constructor
    · intro h
      cases h
    · intro h
      cases h
  | c :: r => by
    have ih := in_ints k r
    show (eqV (.int c) (.int k) || inV (.int k) (r.map V.int)) = true ↔ _
    rw [Bool.or_eq_true, ih, List.mem_cons]
    have e : eqV (.int c) (.int k) = true ↔ k = c := by
      show (c == k) = true ↔ k = c
      rw [beq_iff_eq]
      exact eq_comm
    rw [e]
/-- what is said besides, told by members -/
def Bes (cs ds : List Int) (k j : Int) : Prop := (j ∈ cs ∨ j ∈ ds) ∧ (j.natAbs : Int) ≠ k
section
variable {P : Program} {w : World} {K : PySem.W.Frag} {mg : Str → Option Value} {base : Heap}
def spSct : Sp := fun vs H Q _ => ∃ (v u : V) (k : Int) (cs ds : List Int), vs = [v, u, .int k] ∧ TupI H v cs ∧ TupI H u ds ∧ cs.length ≤ 20 ∧ ds.length ≤ 20 ∧
  (∀ H', Same H H' → (k < 1 ∨ k ∉ cs ∨ -k ∉ ds ∨ ∃ j, Bes cs ds k j ∧ Bes cs ds k (-j)) → Q .non H') ∧
  ∀ (ns : List Int) (p : Addr) (H' : Hp), Same H H' → 1 ≤ k → k ∈ cs → -k ∈ ds → (∀ j, Bes cs ds k j → ¬ Bes cs ds k (-j)) → ns.Pairwise (· < ·) → (∀ j, j ∈ ns ↔ Bes cs ds k j) → H' p = some (.tup (ns.map V.int)) → Q (.ref p) H'
theorem ok_sct {f : Addr} {fd : FuncData} {k : Nat} (F : Fun K "_law_scut" "_law_scut" sSct f fd) (T : Zd mg) : FnOk P w K mg base CX0 (k + 1) f fd ["one", "other", "k"] spSct := by
  refine F.ok scSct (fun vs H Q E h => ?_) (fun cdv A outer s H vs Q E hr h => ?_)
  · obtain ⟨v, u, k, cs, ds, rfl, _⟩ := h
    rfl
  · obtain ⟨v, u, k, cs, ds, rfl, ⟨a, rfl, ha⟩, ⟨b, rfl, hb⟩, lc, ld, q1, q2⟩ := h
    refine ⟨_, (pss_cons (ps_if (PW.pt (pw_or (pt_cmpR op_lt (pv 2) pe_int (nomark _)) (pw_or (pt_cmpR op_notIn_seq (pv 2) (pv 0) (by rfl)) (pw_or1 (pt_cmpR op_notIn_seq (pe_op op_sub pe_int (pv 2)) (pv 1) (by rfl)))))) (pss_one (ps_ret pe_non)) pss_nil)
      (Evl.pss_cut (ps_set (i := 3) scSct.nd rfl (.inr rfl) (pe_callB (St.cr_sortedS rfl) (by rfl) T.z_sorted (by decide +kernel) (pa_cons (pe_callTy (St2.cr_setT rfl) (by rfl) T.z_set (by decide +kernel) (pa_cons (pe_op op_catTN (pv 0) (pv 1)) pa_nil)) pa_nil)))
      (Evl.pss_cut (ps_set (i := 3) scSct.nd rfl (.inr rfl) (pe_lc (own := [("say", 4)]) (g := (gName 4))  rfl scSct.nd (pi_list (pv 3)) (blkOk_by (N := nSct) (sc := defScope sSct) (by decide +kernel)) (fun _ _ _ _ _ => (pg_name (i := 4) scSct.nd rfl (.inl rfl))) (fun _ _ _ _ _ => (pts_one (pt_cmpR op_ne (pe_callB call_abs (by rfl) T.z_abs (by decide +kernel) (pa_cons (pv 4) pa_nil)) (pv 2) (nomark _)))) (fun _ _ _ _ _ => (pv 4))))
      (pss_cons (ps_if (pt_cmpR (op_neD hr.units) (pe_lc (own := [("say", 4)]) (g := (gName 4))  rfl scSct.nd (pi_list (pv 3)) (blkOk_by (N := nSct) (sc := defScope sSct) (by decide +kernel)) (fun _ _ _ _ _ => (pg_name (i := 4) scSct.nd rfl (.inl rfl))) (fun _ _ _ _ _ => (pts_one (pt_cmpR (op_in_seqB (K := K) rfl) (pe_op op_sub pe_int (pv 4)) (pv 3) (by rfl)))) (fun _ _ _ _ _ => (pv 4))) (pe_lstN pa_nil) (nomark _)) (pss_one (ps_ret pe_non)) pss_nil)
      (pss_one (ps_ret (pe_callTy call_tuple_ofN (by rfl) T.z_tuple (by decide +kernel) (pa_cons (pv 3) pa_nil)))))))), ?_⟩
    refine ⟨_, rfl, _, _, rfl, rfl, _, rfl, ite2 (fun y1 => ?_) (fun y1 => ?_)⟩
    · exact q1 H (Same.refl H) (.inl (of_decide_eq_true y1))
    have k1 : 1 ≤ k := by
      have := of_decide_eq_false (Bool.eq_false_iff.mpr y1)
      omega
    refine ⟨_, rfl, _, rfl, a, _, rfl, .inr (.of ha), rfl, ints_flat cs, _, rfl, ite2 (fun y2 => ?_) (fun y2 => ?_)⟩
    · refine q1 H (Same.refl H) (.inr (.inl fun z => ?_))
      have y2 : (!inV (.int k) (cs.map V.int)) = true := y2
      rw [(in_ints k cs).mpr z] at y2
      cases y2
    have kc : k ∈ cs := (in_ints k cs).mp (by
      have y2 : ¬ (!inV (.int k) (cs.map V.int)) = true := y2
      cases e : inV (.int k) (cs.map V.int) with
      | true => rfl
      | false => exact absurd (by rw [e]; rfl) y2)
    refine ⟨_, rfl, _, _, rfl, rfl, _, rfl, b, _, rfl, .inr (.of hb), rfl, ints_flat ds, _, rfl, ite2 (fun y3 => ?_) (fun y3 => ?_)⟩
    · refine q1 H (Same.refl H) (.inr (.inr (.inl fun z => ?_)))
      have y3 : (!inV (.int (0 - k)) (ds.map V.int)) = true := y3
      rw [(in_ints (0 - k) ds).mpr (by rw [show 0 - k = -k by omega]; exact z)] at y3
      cases y3
    have kd : -k ∈ ds := by
      have y3 : ¬ (!inV (.int (0 - k)) (ds.map V.int)) = true := y3
      have e : inV (.int (0 - k)) (ds.map V.int) = true := by
        cases e : inV (.int (0 - k)) (ds.map V.int) with
        | true => rfl
        | false => exact absurd (by rw [e]; rfl) y3
      have := (in_ints (0 - k) ds).mp e
      rw [show 0 - k = -k by omega] at this
      exact this
    clear y1 y2 y3
    refine Evl.q_cut (M := fun σ' H' => ∃ (p : Addr) (es : List Int), σ' = [some (.ref a), some (.ref b), some (.int k), some (.ref p), none] ∧ Same H H' ∧ H' p = some (.lst (es.map V.int)) ∧ es.Pairwise (· < ·) ∧ (∀ j, j ∈ es ↔ (j ∈ cs ∨ j ∈ ds)) ∧ es.length ≤ 40) ?_ ?_
    · refine ⟨_, rfl, _, rfl, a, b, _, _, rfl, rfl, ha, hb, ?_, fun q1 H1 u1 h1 => ?_⟩
      · rw [List.length_map, List.length_map]
        exact Nat.le_trans (by omega : _ ≤ 1000) (by decide)
      rw [← List.map_append] at h1
      refine ⟨q1, _, rfl, .of h1, by rw [List.length_append]; omega, fun r H2 n nr s2 hr' ln => ?_⟩
      rw [List.length_append] at ln
      refine ⟨r, _, n, rfl, hr', by omega, fun es up me le p H3 np s3 hp _ => ?_⟩
      exact ⟨p, es, rfl, (u1.trans s2).trans s3, hp, up, fun j => ((me j).trans decide_eq_true_iff).trans List.mem_append, by omega⟩
    rintro σ' H1 ⟨p, es, rfl, s1, hp, up, me, le⟩
    refine Evl.q_cut (M := fun σ' H' => ∃ p : Addr, σ' = [some (.ref a), some (.ref b), some (.int k), some (.ref p), none] ∧ Same H H' ∧ H' p = some (.lst ((es.filter fun s => !decide (V.int (s.natAbs : Int) = V.int k)).map V.int))) ?_ ?_
    · refine ⟨_, rfl, p, rfl, ⟨_, .of hp⟩, fun D nD => ?_⟩
      refine lc_list (xs := es.map V.int) (Pv := fun i H' => Same H1 H' ∧ H' D = some (.lst (((es.take i).filter fun s => !decide (V.int (s.natAbs : Int) = V.int k)).map V.int))) ⟨same_new nD, upd_same⟩ (fun i H' _ z => .of (z.1 _ _ hp)) ?_ ?_
      · rintro i x H2 hx ⟨s2, hD⟩
        obtain ⟨z, hz, rfl⟩ := at_int hx
        have ft := filt_take (f := fun s : Int => !decide (V.int (s.natAbs : Int) = V.int k)) hz
        have e : (if z < 0 then -z else z) = (z.natAbs : Int) := by
          split <;> omega
        refine ⟨rfl, _, rfl, z, rfl, _, rfl, rfl, _, rfl, ?_⟩
        rw [e]
        refine ite2 (fun y1 => ?_) (fun y1 => ?_)
        · refine ⟨_, rfl, _, hD, ?_, fun c o y => ?_, ?_⟩
          · rw [List.length_map]
            exact small1000 (Nat.le_trans (List.length_filter_le _ _) (by rw [List.length_take]; omega))
          · rw [upd_ne (ne_of_none y nD)]
            exact s2 _ _ y
          · rw [upd_same, ft, if_pos y1, List.map_append]
            rfl
        · refine ⟨s2, ?_⟩
          rw [ft, if_neg y1, List.append_nil]
          exact hD
      · rintro H2 ⟨s2, hD⟩
        rw [List.length_map, List.take_length] at hD
        exact ⟨D, rfl, s1.trans s2, hD⟩
    clear hp
    rintro σ' H2 ⟨p, rfl, s2, hp⟩
    have mf : ∀ j, j ∈ (es.filter fun s => !decide (V.int (s.natAbs : Int) = V.int k)) ↔ Bes cs ds k j := fun j => by
      rw [List.mem_filter, me]
      unfold Bes
      have e : ((!decide (V.int (j.natAbs : Int) = V.int k)) = true) ↔ (j.natAbs : Int) ≠ k := by
        rw [Bool.not_eq_true', decide_eq_false_iff_not]
        exact ⟨fun z y => z (by rw [y]), fun z y => z (V.int.inj y)⟩
      rw [e]
    have uf : (es.filter fun s => !decide (V.int (s.natAbs : Int) = V.int k)).Pairwise (· < ·) := up.filter _
    have lf : (es.filter fun s => !decide (V.int (s.natAbs : Int) = V.int k)).length ≤ 40 := Nat.le_trans (List.length_filter_le _ _) le
    generalize (es.filter fun s => !decide (V.int (s.natAbs : Int) = V.int k)) = fs at hp mf uf lf
    refine ⟨_, rfl, p, rfl, ⟨_, .of hp⟩, fun D nD => ?_⟩
    refine lc_list (xs := fs.map V.int) (Pv := fun i H' => Same H2 H' ∧ H' D = some (.lst (((fs.take i).filter fun s => inV (.int (0 - s)) (fs.map V.int)).map V.int))) ⟨same_new nD, upd_same⟩ (fun i H' _ z => .of (z.1 _ _ hp)) ?_ ?_
    · rintro i x H3 hx ⟨s3, hD⟩
      obtain ⟨z, hz, rfl⟩ := at_int hx
      have ft := filt_take (f := fun s : Int => inV (.int (0 - s)) (fs.map V.int)) hz
      refine ⟨rfl, _, rfl, _, _, rfl, rfl, _, rfl, p, _, rfl, .inl (.of (s3 _ _ hp)), rfl, ints_flat fs, _, rfl, ite2 (fun y1 => ?_) (fun y1 => ?_)⟩
      · have y1 : inV (.int (0 - z)) (fs.map V.int) = true := y1
        refine ⟨_, rfl, _, hD, ?_, fun c o y => ?_, ?_⟩
        · rw [List.length_map]
          exact small1000 (Nat.le_trans (List.length_filter_le _ _) (by rw [List.length_take]; omega))
        · rw [upd_ne (ne_of_none y nD)]
          exact s3 _ _ y
        · rw [upd_same, ft, if_pos y1, List.map_append]
          rfl
      · have y1 : ¬ inV (.int (0 - z)) (fs.map V.int) = true := y1
        refine ⟨s3, ?_⟩
        rw [ft, if_neg y1, List.append_nil]
        exact hD
    rintro H3 ⟨s3, hD⟩
    rw [List.length_map, List.take_length] at hD
    refine ⟨Nat.zero_le _, fun r H4 nr s4 hr4 _ => ?_⟩
    have s24 := s2.trans (s3.trans s4)
    cases hg : (fs.filter fun s => inV (.int (0 - s)) (fs.map V.int)) with
    | nil =>
      rw [hg] at hD
      refine ⟨_, _, .lst (.of (s4 _ _ hD)) .nil, .lst (.of hr4) .nil, rfl, rfl, false, rfl, ?_⟩
      have hp4 := s4 _ _ (s3 _ _ hp)
      refine ⟨_, rfl, p, _, rfl, .of hp4, fun r5 H5 n5 s5 h5 _ => ?_⟩
      refine q2 fs r5 H5 (s24.trans s5) k1 kc kd (fun j hj hn => ?_) uf mf h5
      have z : j ∈ (fs.filter fun s => inV (.int (0 - s)) (fs.map V.int)) := List.mem_filter.mpr ⟨(mf j).mpr hj, (in_ints _ _).mpr (by rw [show 0 - j = -j by omega]; exact (mf _).mpr hn)⟩
      rw [hg] at z
      cases z
    | cons j r' =>
      have z : j ∈ (fs.filter fun s => inV (.int (0 - s)) (fs.map V.int)) := by rw [hg]; exact List.mem_cons_self
      obtain ⟨z1, z2⟩ := List.mem_filter.mp z
      have z3 := (in_ints _ _).mp z2
      rw [show 0 - j = -j by omega] at z3
      rw [hg] at hD
      refine ⟨_, _, .lst (.of (s4 _ _ hD)) (dp_ints (j :: r')), .lst (.of hr4) .nil, shaped_list (flat_ints _), rfl, true, rfl, ?_⟩
      exact q1 H4 s24 (.inr (.inr (.inr ⟨j, (mf j).mp z1, (mf (-j)).mp z3⟩)))
end
end Ct
namespace Ct
open PySem PySem.Spec PyProof.Rows L2 GxR Nw Dr Kp Se
/-! ### what the program cuts and what is cut here agree -/
theorem up_unique : ∀ {xs ys : List Int}, xs.Pairwise (· < ·) → ys.Pairwise (· < ·) → (∀ j, j ∈ xs ↔ j ∈ ys) → xs = ys
  | [], [], _, _, _ => rfl
  | [], y :: r, _, _, h => absurd ((h y).mpr List.mem_cons_self) (by simp)
  | x :: r, [], _, _, h => absurd ((h x).mp List.mem_cons_self) (by simp)
  | x :: r, y :: t, hx, hy, h => by
    obtain ⟨x1, x2⟩ := List.pairwise_cons.mp hx
    obtain ⟨y1, y2⟩ := List.pairwise_cons.mp hy
    have e : x = y := by
      rcases List.mem_cons.mp ((h x).mp List.mem_cons_self) with e | m
      · exact e
      · rcases List.mem_cons.mp ((h y).mpr List.mem_cons_self) with e | m2
        · exact e.symm
        · have := y1 x m
          have := x1 y m2
          omega
    subst e
    rw [up_unique x2 y2 fun j => ⟨fun hj => ?_, fun hj => ?_⟩]
    · rcases List.mem_cons.mp ((h j).mp (List.mem_cons_of_mem _ hj)) with e | m
      · have := x1 j hj
        omega
      · exact m
    · rcases List.mem_cons.mp ((h j).mpr (List.mem_cons_of_mem _ hj)) with e | m
      · have := y1 j hj
        omega
      · exact m
variable {cs ds : List Int} {k : Int}
theorem meet_iff (hc : IsCl cs) : meetB cs ds k = true ↔ 1 ≤ k ∧ k ∈ cs ∧ -k ∈ ds := by
  unfold meetB
  rw [Bool.and_eq_true, Bool.and_eq_true, Bool.and_eq_true, decide_eq_true_iff, decide_eq_true_iff, in_ints, in_ints]
  constructor
  · rintro ⟨⟨⟨h1, _⟩, h2⟩, h3⟩
    exact ⟨h1, h2, h3⟩
  · rintro ⟨h1, h2, h3⟩
    exact ⟨⟨⟨h1, (hc.says k h2).2.2⟩, h2⟩, h3⟩
theorem not_int {a b : Int} : (!decide (V.int a = V.int b)) = true ↔ a ≠ b := by
  rw [Bool.not_eq_true', decide_eq_false_iff_not]
  exact ⟨fun z y => z (by rw [y]), fun z y => z (V.int.inj y)⟩
theorem says_iff (hc : IsCl cs) (hd : IsCl ds) (kc : k ∈ cs) (kd : -k ∈ ds) (k1 : 1 ≤ k) (j : Int) : j ∈ saysB cs ds k ↔ Bes cs ds k j := by
  unfold saysB Bes
  rw [List.mem_append, List.mem_filter, List.mem_filter, not_int, not_int]
  constructor
  · rintro (⟨h1, h2⟩ | ⟨h1, h2⟩)
    · refine ⟨.inl h1, fun z => ?_⟩
      have e : j = -k := by omega
      rw [e] at h1
      exact hc.opp k kc h1
    · refine ⟨.inr h1, fun z => ?_⟩
      have e : j = k := by omega
      rw [e] at h1
      exact hd.opp k h1 kd
  · rintro ⟨h1 | h1, h2⟩
    · exact .inl ⟨h1, by omega⟩
    · exact .inr ⟨h1, by omega⟩
theorem opp_iff (ns : List Int) (nz : ∀ j ∈ ns, j ≠ 0) : oppB ns = true ↔ ∃ j, j ∈ ns ∧ -j ∈ ns := by
  unfold oppB
  rw [List.any_eq_true]
  constructor
  · rintro ⟨j, hj, h⟩
    rw [Bool.and_eq_true, in_ints] at h
    exact ⟨j, hj, h.2⟩
  · rintro ⟨j, h1, h2⟩
    have := nz j h1
    by_cases p : 0 < j
    · exact ⟨j, h1, by rw [Bool.and_eq_true, in_ints, decide_eq_true_iff]; exact ⟨p, h2⟩⟩
    · exact ⟨-j, h2, by rw [Bool.and_eq_true, in_ints, decide_eq_true_iff, Int.neg_neg]; exact ⟨by omega, h1⟩⟩
/-- the cut of two claims: what comes, if anything -/
def Comes (cs ds : List Int) (k : Int) (ns : List Int) : Prop := 1 ≤ k ∧ k ∈ cs ∧ -k ∈ ds ∧ (∀ j, Bes cs ds k j → ¬ Bes cs ds k (-j)) ∧ ns.Pairwise (· < ·) ∧ ∀ j, j ∈ ns ↔ Bes cs ds k j
def NoCome (cs ds : List Int) (k : Int) : Prop := k < 1 ∨ k ∉ cs ∨ -k ∉ ds ∨ ∃ j, Bes cs ds k j ∧ Bes cs ds k (-j)
theorem Comes.one {ns ms : List Int} (a : Comes cs ds k ns) (b : Comes cs ds k ms) : ns = ms := up_unique a.2.2.2.2.1 b.2.2.2.2.1 fun j => (a.2.2.2.2.2 j).trans (b.2.2.2.2.2 j).symm
theorem Comes.no {ns : List Int} (a : Comes cs ds k ns) (b : NoCome cs ds k) : False := by
  obtain ⟨a1, a2, a3, a4, _⟩ := a
  rcases b with b | b | b | ⟨j, b1, b2⟩
  · omega
  · exact b a2
  · exact b a3
  · exact a4 j b1 b2
theorem comes_of (hc : IsCl cs) (hd : IsCl ds) {ns : List Int} (m : meetB cs ds k = true) (o : oppB (saysB cs ds k) = false) (up : ns.Pairwise (· < ·)) (me : ∀ j, j ∈ ns ↔ j ∈ saysB cs ds k) : Comes cs ds k ns := by
  obtain ⟨k1, kc, kd⟩ := (meet_iff hc).mp m
  have sb := says_iff hc hd kc kd k1
  refine ⟨k1, kc, kd, fun j h1 h2 => ?_, up, fun j => (me j).trans (sb j)⟩
  have nz : ∀ j ∈ saysB cs ds k, j ≠ 0 := fun j hj => by
    rcases ((sb j).mp hj).1 with h | h
    · exact (hc.says j h).1
    · exact (hd.says j h).1
  have := (opp_iff _ nz).mpr ⟨j, (sb j).mpr h1, (sb _).mpr h2⟩
  rw [o] at this
  cases this
theorem nocome_of (hc : IsCl cs) (hd : IsCl ds) (h : meetB cs ds k = false ∨ oppB (saysB cs ds k) = true) : NoCome cs ds k := by
  by_cases k1 : 1 ≤ k
  · by_cases kc : k ∈ cs
    · by_cases kd : -k ∈ ds
      · have m := (meet_iff (ds := ds) hc).mpr ⟨k1, kc, kd⟩
        rcases h with h | h
        · rw [m] at h
          cases h
        · have sb := says_iff hc hd kc kd k1
          have nz : ∀ j ∈ saysB cs ds k, j ≠ 0 := fun j hj => by
            rcases ((sb j).mp hj).1 with h | h
            · exact (hc.says j h).1
            · exact (hd.says j h).1
          obtain ⟨j, h1, h2⟩ := (opp_iff _ nz).mp h
          exact .inr (.inr (.inr ⟨j, (sb j).mp h1, (sb _).mp h2⟩))
      · exact .inr (.inr (.inl kd))
    · exact .inr (.inl kc)
  · exact .inl (by omega)
end Ct
namespace Gd
open PySem PySem.Spec PyProof.Rows L2
/-! ### a law that shows lists (repr): run where nothing is being shown -/
/-- a promise for calls made while nothing is being shown -/
structure FnG (P : Program) (w : World) (K : PySem.W.Frag) (mg : Str → Option Value) (base : Heap) (k : Nat) (f : Addr) (fd : FuncData) (ps : List Str) (sp : Sp) : Prop where
  len : ∀ us H Q E, sp us H Q E → us.length = ps.length
  run : ∀ (A : Around) (outer : List Env) (s : Shared) (H : Hp) (args : Args) (us : List Value) (vs : List V) (Q : VK) (E : XK), A.guards = some [] → Room k A → Env0 P w K mg base A outer s H → BindsTo s fd args (ps.zip us) → Vals vs us → sp vs H Q E → codeAny (model P w) A (.call (.ref f) args) (CR CX0 outer P w H s Q E) s
section
variable {P : Program} {w : World} {K : PySem.W.Frag} {mg : Str → Option Value} {base : Heap}
theorem okG {x qual : Str} {st : Stmt} {f : Addr} {fd : FuncData} {N ps : List Str} {k : Nat} {sp : Sp} (F : Fun K x qual st f fd) (S : FnScope N ps (defScope st)) (ln : ∀ us H Q E, sp us H Q E → us.length = ps.length)
    (body : ∀ (cdv : Value) (A : Around) (outer : List Env) (s : Shared) (H : Hp) (vs : List V) (Q : VK) (E : XK), A.guards = some [] → Room k (A.deeper (envOfC qual (defScope st) s.heap.objs.size f cdv)) → sp vs H Q E →
      ∃ t, PSs (cxOf CX0 P w K mg base N qual (defScope st) f cdv A outer s H E).nox (defBody st) t ∧ t { nx := fun _ H' => Q .non H', rt := Q } (start N vs) H) : FnG P w K mg base (k + 1) f fd ps sp := by
  obtain ⟨oc, od, kV, doc, pm, an, cdv, ct, osl, rfl, lk, hcd⟩ := F.ex
  refine ⟨ln, fun A outer s H args us vs Q E gd room env bind rel ask => ?_⟩
  have inS : K.In s.heap := env.mod.kin.keeps fun b o e => (env.bs b o e).1
  have noL : s.heap.NoLimit := env.mod.nolimit.keeps fun b o e => (env.bs b o e).1
  refine codeAny_call_function room.depth (inS _ _ lk) rfl S.co S.gen rfl (PySem.W.codeRec_of inS hcd) (bind _ _ _ _ (wpAny_newFunctionEnv_cells S.kind (fun y hy => ?_) fun env' he s1 z => ?_))
  · rcases S.par y.1 (List.of_mem_zip (a := y.1) (b := y.2) hy).1 with q | q
    · exact Or.inl q
    · exact Or.inr ⟨q, PySem.W.cellsFrom_some _ _ _ (Or.inl q)⟩
  · subst he
    obtain ⟨t, h1, h2⟩ := body cdv A outer s H vs Q E gd (room.deeper _) ask
    have J := inv_start (CX := CX0) (E := E) S room.hd env (ln _ _ _ _ ask) rel z
    refine ⟨noL.keeps z.toInCall.keep, codeAny_func (wpAny_mono (h1.nox.run [] s1 _ H _ J h2) (fun fl s' r => ?_) fun _ _ r => r)⟩
    match fl, r with
    | .ret u, r =>
      obtain ⟨v, σ', H', I, rv, q⟩ := r
      exact ⟨v, H', I.os, I.bare, I.base, I.hok, rv, q⟩
    | .next, r =>
      obtain ⟨σ', H', I, q⟩ := r
      exact ⟨.non, H', I.os, I.bare, I.base, I.hok, rfl, q⟩
    | .brk, r =>
      obtain ⟨_, _, _, q⟩ := r
      exact q.elim
    | .cont, r =>
      obtain ⟨_, _, _, q⟩ := r
      exact q.elim
/-- what the abstract heap knows at the law's call: the tables T, the script at a unless K holds it -/
def at0 (K : PySem.W.Frag) (T : List Addr) (a : Addr) (o : HO) : Hp := fun b => if b ∈ T then some (.tbl #[]) else if b = a ∧ (K.lookup a).isNone = true then some o else none
theorem at0_cases {T : List Addr} {a b : Addr} {o u : HO} (h : at0 K T a o b = some u) : (b ∈ T ∧ u = .tbl #[]) ∨ (b ∉ T ∧ b = a ∧ K.lookup a = none ∧ u = o) := by
  unfold at0 at h
  by_cases h1 : b ∈ T
  · rw [if_pos h1] at h
    exact .inl ⟨h1, (Option.some.inj h).symm⟩
  · rw [if_neg h1] at h
    by_cases h2 : b = a ∧ (K.lookup a).isNone = true
    · rw [if_pos h2] at h
      exact .inr ⟨h1, h2.1, Option.isNone_iff_eq_none.mp h2.2, (Option.some.inj h).symm⟩
    · rw [if_neg h2] at h
      cases h
theorem law_at {mb : Str → Option Value} {k : Nat} {fa a : Addr} {cs : List (Addr × Addr)} {fd : FuncData} {x : Str} {sp : Sp} {s1 : Shared} {us : List Value} {ns : List Int} (inK : K.In s1.heap) (ng : s1.heap.Ns mainGlobals mg) (nb : s1.heap.Ns builtinsNs mb)
    (bb : ∀ y : Str, y ≠ "__name__" → mb y = bootBuiltins y) (lim : s1.heap.NoLimit) (gens : s1.gens = #[]) (te : ∀ p ∈ cs, s1.heap.get? p.2 = some (PySem.W.tabObj #[])) (tk : ∀ p ∈ cs, K.lookup p.2 = none) (tc : ∀ p ∈ cs, PySem.W.CodeHd s1.heap p.1 p.2)
    (bm : ∃ (bm : Addr) (ob : Obj), mg "__builtins__" = some (.ref bm) ∧ bm ≠ builtinsNs ∧ s1.heap.get? bm = some ob ∧ ob.cls = .type "module" ∧ ob.dict = some builtinsNs ∧ ob.data = .plain) (la : s1.heap.get? a = some { cls := .type "list", data := .seq us.toArray }) (iu : IntsAre us ns) (lu : ns.length ≤ sizeLine) (room : Room k callerA)
    (F : ∀ base : Heap, K.In base → base.Ns mainGlobals mg → (∀ p ∈ cs, LamX.TabB base mg p.1 p.2) → FnG P w K mg base k fa fd [x] sp) (bind : ∀ (s : Shared) (u : Value), BindsTo s fd ⟨[u], []⟩ [(x, u)])
    (ask : ∀ H : Hp, (∀ p ∈ cs, H p.2 = some (.tbl #[])) → SqL K H a (ns.map V.int) → sp [.ref a] H (fun v _ => v = .bl true) fun _ _ _ => False) :
    codeAny (model P w) callerA (.call (.ref fa) ⟨[.ref a], []⟩) (fun r s' => r = .ok (.ret (.bool true)) ∧ OldK s1.heap s'.heap ∧ s'.os = s1.os ∧ AllBare s'.gens) s1 := by
  have lv := iu.length
  let T := cs.map (·.2)
  let O : HO := .frz { cls := .type "list", data := .seq us.toArray } (.lst (ns.map V.int))
  have tT : ∀ b ∈ T, s1.heap.get? b = some (PySem.W.tabObj #[]) := fun b hb => by
    obtain ⟨p, hp, rfl⟩ := List.mem_map.mp hb
    exact te p hp
  have inT : ∀ p ∈ cs, p.2 ∈ T := fun p hp => List.mem_map.mpr ⟨p, hp, rfl⟩
  have naT : a ∉ T := fun z => by
    have q := tT a z
    rw [la] at q
    cases congrArg Obj.data (Option.some.inj q)
  -- an object that is neither a list nor an empty table is not tracked
  have un0 : ∀ {b : Addr} {o : Obj}, s1.heap.get? b = some o → (∀ v n, o.data ≠ .seq v n) → o.data ≠ .fields #[] → at0 K T a O b = none := fun {b o} e d1 d2 => by
    cases q : at0 K T a O b with
    | none => rfl
    | some u =>
      rcases at0_cases q with ⟨h1, _⟩ | ⟨_, h1, _⟩
      · rw [tT b h1] at e
        cases e
        exact absurd rfl d2
      · rw [h1, la] at e
        cases e
        exact absurd rfl (d1 _ _)
  have ns0 : ∀ {b : Addr} {m : Str → Option Value}, s1.heap.Ns b m → (hidT s1.heap (at0 K T a O)).Ns b m := fun ⟨o, es, ep, e, d, r⟩ =>
    ⟨o, es, ep, hidT_get e (un0 e (fun _ _ z => by rw [d] at z; cases z) fun z => by rw [d] at z; cases z), d, r⟩
  have in0 : K.In (hidT s1.heap (at0 K T a O)) := fun b o e => by
    refine hidT_get (inK b o e) ?_
    cases q : at0 K T a O b with
    | none => rfl
    | some u =>
      rcases at0_cases q with ⟨h1, _⟩ | ⟨_, h1, h2, _⟩
      · obtain ⟨p, hp, rfl⟩ := List.mem_map.mp h1
        rw [tk p hp] at e
        cases e
      · rw [h1, h2] at e
        cases e
  have mod0 : L2.Mod K mg (hidT s1.heap (at0 K T a O)) := ⟨in0, ns0 ng, ⟨mb, ns0 nb, bb⟩, let ⟨mc, h1, h2⟩ := lim; ⟨mc, ns0 h1, h2⟩⟩
  have tab0 : ∀ p ∈ cs, LamX.TabB (hidT s1.heap (at0 K T a O)) mg p.1 p.2 := fun p hp => by
    obtain ⟨bmA, ob, b1, b2, b3, b4, b5, b6⟩ := bm
    obtain ⟨oc, oes, oep, oe, od, _⟩ := ng
    obtain ⟨c0, v0, f0, t0, g0, u0, i0, x0, y0, e1, r1, r2, r3, rest⟩ := tc p hp
    refine ⟨⟨c0, v0, f0, t0, g0, u0, i0, x0, y0, hidT_get e1 (un0 e1 (fun _ _ z => by rw [r2] at z; cases z) fun z => ?_), r1, r2, r3, rest⟩, ⟨bmA, ob, b1, b2, fun z => ?_, fun z => ?_, hidT_get b3 (un0 b3 (fun _ _ z => by rw [b6] at z; cases z) fun z => by rw [b6] at z; cases z), b4, b5, b6⟩, fun z => ?_⟩
    · rw [r2] at z
      cases z
      simp at r3
    · rw [z, oe] at b3
      cases b3
      rw [od] at b6
      cases b6
    · rw [z, te p hp] at b3
      cases b3
      cases b6
    · rw [z, te p hp] at oe
      cases oe
      cases od
  have hok0 : HOk P w (at0 K T a O) s1.heap := fun b u q => by
    rcases at0_cases q with ⟨h1, rfl⟩ | ⟨_, rfl, _, rfl⟩
    · exact tT b h1
    · exact ⟨la, by rw [List.length_map]; exact lu, us, _, vals_ints iu, la⟩
  have sq0 : SqL K (at0 K T a O) a (ns.map V.int) := by
    cases q : K.lookup a with
    | some o =>
      have e := inK a o q
      rw [la] at e
      cases e
      exact .inr ⟨_, us.toArray, _, q, rfl, rfl, rfl, by rw [List.size_toArray, lv]; exact lu, by simpa using vals_ints iu⟩
    | none => exact .inl (.inr ⟨_, (if_neg naT).trans (if_pos ⟨rfl, by rw [q]; rfl⟩)⟩)
  have env0 : Env0 P w K mg (hidT s1.heap (at0 K T a O)) callerA [] s1 (at0 K T a O) := ⟨rfl, mod0, fun b o e => of_hidT e, Nat.le_of_eq (hidT_size _ _), trivial, fun b z => absurd (show b ∈ ([] : List Addr) from z) (by simp), hok0, .of_eq gens⟩
  refine codeAny_mono ((F _ in0 (ns0 ng) tab0).run callerA [] s1 (at0 K T a O) ⟨[.ref a], []⟩ [.ref a] [.ref a] _ _ rfl room env0 (bind s1 (.ref a)) (.cons rfl .nil) (ask _ (fun p hp => if_pos (inT p hp)) sq0)) fun r s' h => ?_
  match r, h with
  | .error e, h => exact False.elim h
  | .ok .next, h => exact False.elim h
  | .ok .brk, h => exact False.elim h
  | .ok .cont, h => exact False.elim h
  | .ok (.ret u), h =>
    obtain ⟨v, H', os, bare, un, hok', rv, q⟩ := h
    obtain rfl : v = .bl true := q
    obtain rfl : u = Value.bool true := rv
    have kept : ∀ b o, b ∉ T → s1.heap.get? b = some o → s'.heap.get? b = some o := fun b o nt e => by
      cases z : at0 K T a O b with
      | none => exact un.keep b o e z (fun y => absurd (show b ∈ ([] : List Addr) from y) (by simp)) (by simp)
      | some u =>
        rcases at0_cases z with ⟨h1, _⟩ | ⟨_, rfl, _, rfl⟩
        · exact absurd h1 nt
        · obtain ⟨e2, _⟩ := hok' b _ (un.frzs b _ _ z)
          rw [la] at e
          cases e
          exact e2
    have tabs : ∀ b ∈ T, ∃ more : Array Value, s'.heap.get? b = some (PySem.W.tabObj more) := fun b hb => by
      obtain ⟨more, z⟩ := un.tbls b #[] (if_pos hb)
      exact ⟨_, hok' b _ z⟩
    refine ⟨rfl, ⟨fun b o e => ?_, fun b o e => ?_⟩, os, bare⟩
    · by_cases hb : b ∈ T
      · obtain ⟨more, z⟩ := tabs b hb
        obtain ⟨p, hp, rfl⟩ := List.mem_map.mp hb
        have e3 := te p hp
        rw [e] at e3
        cases e3
        exact .inr (.inl ⟨((tc p hp).tab (te p hp)).isCodeTable, rfl, #[], more, rfl, by rw [Array.empty_append]; exact z⟩)
      · exact .inl (kept b o hb e)
    · by_cases hb : b ∈ T
      · obtain ⟨more, z⟩ := tabs b hb
        exact ⟨_, z⟩
      · exact ⟨o, kept b o hb e⟩
end
end Gd
namespace Cl
open PySem PySem.Spec PyProof.Rows L2 GxR Nw Dr Kp
abbrev sThg : Stmt := topS 18
abbrev sClm : Stmt := topS 19
abbrev sBok : Stmt := topS 20
theorem scThg : FnScope ["feed", "least", "most", "left", "many", "some", "turn"] ["feed", "least", "most"] (defScope sThg) := ⟨rfl, rfl, rfl, by decide +kernel, rfl, by decide +kernel, by decide +kernel⟩
theorem scClm : FnScope ["feed", "things", "most", "left", "says", "turn", "thing"] ["feed", "things", "most"] (defScope sClm) := ⟨rfl, rfl, rfl, by decide +kernel, rfl, by decide +kernel, by decide +kernel⟩
theorem scBok : FnScope ["feed", "things", "most", "claims", "turn", "claim"] ["feed", "things", "most"] (defScope sBok) := ⟨rfl, rfl, rfl, by decide +kernel, rfl, by decide +kernel, by decide +kernel⟩
/-- the built-ins that stand as they stood -/
structure Zs (mg : Str → Option Value) : Prop where
  z_len : mg "len" = none
  z_list : mg "list" = none
  z_range : mg "range" = none
  z_min : mg "min" = none
  z_tuple : mg "tuple" = none
  z_sorted : mg "sorted" = none
/-- things: numbers from 1 to 8, none twice -/
structure Thg (ks : List Int) : Prop where
  nd : ks.Nodup
  one : ∀ k ∈ ks, 1 ≤ k ∧ k ≤ 8
  len : ks.length ≤ 8
theorem perm_pop : ∀ {l : List Int} {d : Nat} {y : Int}, l[d]? = some y → (y :: l.eraseIdx d).Perm l
  | [], _, _, h => by simp at h
  | a :: r, 0, y, h => by
    have e : a = y := Option.some.inj h
    subst e
    exact .refl _
  | a :: r, d + 1, y, h => by
    have ih := perm_pop (l := r) (d := d) (y := y) h
    exact (List.Perm.swap a y _).trans (.cons a ih)
theorem erase_len {l : List Int} {d : Nat} (h : d < l.length) : (l.eraseIdx d).length = l.length - 1 := List.length_eraseIdx_of_lt h
theorem erase_map : ∀ (l : List Int) (d : Nat), (l.map V.int).eraseIdx d = (l.eraseIdx d).map V.int
  | [], _ => rfl
  | _ :: _, 0 => rfl
  | a :: r, d + 1 => congrArg (V.int a :: ·) (erase_map r d)
theorem ix_seq {d : Int} {n : Nat} (h0 : 0 ≤ d) (h1 : d < (n : Int)) : seqIndex? d n = some d.toNat := by
  have e : ixN n d = some d.toNat := by
    unfold ixN
    rw [if_pos h0, if_pos h1]
  exact (ixN_seq e).1
section
variable {P : Program} {w : World} {K : PySem.W.Frag} {mg : Str → Option Value} {base : Heap} {fD fM : Addr} {fdD fdM : FuncData}
def spThg : Sp := fun vs H Q _ => ∃ (f c : Addr) (l m : Int) (B : Nat), vs = [.ref f, .int l, .int m] ∧ 1 ≤ l ∧ l ≤ m ∧ m ≤ 8 ∧ Feed H f c B ∧ B ≤ 2 ^ 58 ∧
  ∀ (ks : List Int) (p : Addr) (H' : Hp), Feed H' f c (B + 10) → Ke (· = f) H H' → Frs H p → H' p = some (.lst (ks.map V.int)) → Thg ks → l ≤ ks.length → (ks.length : Int) ≤ m → Q (.ref p) H'
theorem ok_thg {f : Addr} {fd : FuncData} {k : Nat} (F : Fun K "_law_sthings" "_law_sthings" sThg f fd) (T : Zs mg) (FD : Fun K "_law_sdraw" "_law_sdraw" sDrw fD fdD) (bD : Binds K fdD ["feed", "many"] []) (gD : mg "_law_sdraw" = some (.ref fD)) (GD : FnOk P w K mg base CX0 2 fD fdD ["feed", "many"] spDrw) :
    FnOk P w K mg base CX0 (k + 3) f fd ["feed", "least", "most"] spThg := by
  refine F.ok scThg (fun vs H Q E h => ?_) (fun cdv A outer s H vs Q E hr h => ?_)
  · obtain ⟨f, c, l, m, B, rfl, _⟩ := h
    rfl
  · obtain ⟨f, c, l, m, B, rfl, l0, lm, m8, hF, hB, q⟩ := h
    have hr2 : Room 2 _ := hr.mono (by omega)
    refine ⟨_, (pss_cons (ps_set (i := 3) scThg.nd rfl (.inl rfl) (pe_lstN (pa_cons pe_int (pa_cons pe_int (pa_cons pe_int (pa_cons pe_int (pa_cons pe_int (pa_cons pe_int (pa_cons pe_int (pa_cons pe_int pa_nil))))))))))
      (Evl.pss_cut (ps_set (i := 4) scThg.nd rfl (.inl rfl) (pe_op op_add (pv 1) (pe_call GD hr2 (by rfl) gD FD.kp bD .nil pass0 (pa_cons (pv 0) (pa_cons (pe_op op_sub (pe_op op_add (pv 2) pe_int) (pv 1)) pa_nil)))))
      (pss_cons (ps_set (i := 5) scThg.nd rfl (.inl rfl) (pe_lstN pa_nil))
      (pss_cons (ps_for PassesOwn.never rfl (pi_range1 (by rfl) T.z_range (pa_cons (pv 4) pa_nil)) (pg_name (i := 6) scThg.nd rfl (.inl rfl)) (pss_one (ps_expr (pe_bm PySem.F.plainAttrs_list PySem.F.slot_list_append PySem.F.type_list_append mt_append (pv 5) (pa_cons (pe_bm PySem.F.plainAttrs_list PySem.F.slot_list_pop PySem.F.type_list_pop mt_popAt (pv 3) (pa_cons (pe_call GD hr2 (by rfl) gD FD.kp bD .nil pass0 (pa_cons (pv 0) (pa_cons (pe_callB call_len_seq (by rfl) T.z_len (by decide +kernel) (pa_cons (pv 3) pa_nil)) pa_nil))) pa_nil)) pa_nil)))))
      (pss_one (ps_ret (pv 5))))))), ?_⟩
    refine ⟨by show 8 ≤ sizeLine; decide, fun L H1 nL s1 hL _ => ?_⟩
    have nLf : L ≠ f := hF.nf nL
    have nLc : L ≠ c := hF.nc nL
    refine Evl.q_cut (M := fun σ' H' => ∃ n : Nat, σ' = [some (.ref f), some (.int l), some (.int m), some (.ref L), some (.int n), none, none] ∧ l ≤ n ∧ (n : Int) ≤ m ∧ Feed H' f c (B + 1) ∧ Ke (· = f) H H' ∧ H' L = some (.lst (([1, 2, 3, 4, 5, 6, 7, 8] : List Int).map V.int))) ?_ ?_
    · have F1 : Feed H1 f c B := hF.same s1
      refine ⟨_, rfl, _, rfl, _, rfl, _, _, rfl, rfl, _, rfl, _, _, rfl, rfl, f, c, _, B, rfl, by omega, by omega, F1, by omega, fun d H2 d0 d1 F2 b2 => ?_⟩
      refine ⟨_, _, rfl, rfl, (l + d).toNat, ?_, by omega, by omega, F2, (Ke.same s1).trans (.but F1 b2), (b2 L nLf).trans hL⟩
      rw [Int.toNat_of_nonneg (by omega)]
      rfl
    rintro σ' H2 ⟨n, rfl, ln, nm, F2, k2, hL2⟩
    refine ⟨Nat.zero_le _, fun S H3 nS s3 hS _ => ?_⟩
    have nSL : S ≠ L := Ne.symm (ne_of_none hL2 nS)
    have nSf : S ≠ f := F2.nf nS
    have nSc : S ≠ c := F2.nc nS
    have frS : Frs H S := .ke k2 F2 (.of nS)
    have frL : Frs H L := .of nL
    refine ⟨_, rfl, n, rfl, by omega, by omega, for_range (Pv := fun i σ H' => ∃ (y6 : Option V) (left ks : List Int), σ = [some (.ref f), some (.int l), some (.int m), some (.ref L), some (.int n), some (.ref S), y6] ∧ Feed H' f c (B + 1 + i) ∧ Ke (· = f) H H' ∧ H' L = some (.lst (left.map V.int)) ∧ H' S = some (.lst (ks.map V.int)) ∧
      left.length = 8 - i ∧ ks.length = i ∧ (ks ++ left).Perm [1, 2, 3, 4, 5, 6, 7, 8]) ?_ ?_ ?_⟩
    · exact ⟨none, _, [], rfl, F2.same s3, k2.trans (.same s3), s3 _ _ hL2, hS, rfl, rfl, .refl _⟩
    · rintro i σ H' hi ⟨y6, left, ks, rfl, F4, k4, hL4, hS4, ll, lk, pm⟩
      have hi : i < n := by simpa using hi
      refine ⟨_, rfl, .inl ⟨rfl, _, .of hS4⟩, _, rfl, .inl ⟨rfl, _, .of hL4⟩, _, rfl, _, rfl, L, _, rfl, .inl (.of hL4), f, c, _, B + 1 + i, rfl, ?_, ?_, F4, by omega, fun d H5 d0 d1 F5 b5 => ?_⟩
      · rw [List.length_map]
        omega
      · rw [List.length_map]
        omega
      rw [List.length_map] at d1
      have dl : d.toNat < left.length := by omega
      have hL5 : H5 L = some (.lst (left.map V.int)) := (b5 L nLf).trans hL4
      have hS5 : H5 S = some (.lst (ks.map V.int)) := (b5 S nSf).trans hS4
      have k5 : Ke (· = f) H H5 := k4.trans (.but F4 b5)
      refine ⟨L, _, d, d.toNat, .int left[d.toNat], rfl, rfl, hL5, by omega, by omega, by rw [List.length_map]; exact ix_seq d0 d1, by rw [List.getElem?_map, List.getElem?_eq_getElem dl]; rfl, ?_⟩
      refine ⟨S, _, _, rfl, rfl, by rw [upd_ne nSL]; exact hS5, by rw [List.length_map]; exact small1000 (by omega), ?_⟩
      refine ⟨_, left.eraseIdx d.toNat, ks ++ [left[d.toNat]], rfl, ((F5.upd nLf nLc).upd nSf nSc).mono (by omega), (k5.write frL hL5).write frS (by rw [upd_ne nSL]; exact hS5), ?_, ?_, ?_, ?_, ?_⟩
      · rw [upd_ne (Ne.symm nSL), upd_same, erase_map]
      · rw [upd_same, List.map_append]
        rfl
      · rw [erase_len dl]
        omega
      · rw [List.length_append, lk]
        rfl
      · refine List.Perm.trans ?_ pm
        rw [List.append_assoc]
        exact (List.Perm.refl ks).append (perm_pop (List.getElem?_eq_getElem dl))
    · rintro σ H' ⟨y6, left, ks, rfl, F4, k4, hL4, hS4, ll, lk, pm⟩
      have lk' : ks.length = n := by simpa using lk
      have nd : (ks ++ left).Nodup := pm.nodup_iff.mpr (by decide)
      refine ⟨_, rfl, q ks S H' (F4.mono (by omega)) k4 frS hS4 ⟨(List.nodup_append.mp nd).1, fun k hk => ?_, by omega⟩ (by omega) (by omega)⟩
      have hm : k ∈ ([1, 2, 3, 4, 5, 6, 7, 8] : List Int) := pm.mem_iff.mp (List.mem_append_left _ hk)
      simp only [List.mem_cons, List.not_mem_nil, or_false] at hm
      omega
/-- sclaim(feed, things, most) -/
def spClm : Sp := fun vs H Q _ => ∃ (f c t : Addr) (m : Int) (B : Nat) (ks : List Int), vs = [.ref f, .ref t, .int m] ∧ 0 ≤ m ∧ m ≤ 8 ∧ H t = some (.lst (ks.map V.int)) ∧ Thg ks ∧ Feed H f c B ∧ B ≤ 2 ^ 58 ∧
  ∀ (cs : List Int) (p : Addr) (H' : Hp), Feed H' f c (B + 20) → Ke (· = f) H H' → Frs H p → H' p = some (.tup (cs.map V.int)) → IsCl cs → (∀ s ∈ cs, (s.natAbs : Int) ∈ ks) → (cs.length : Int) ≤ m → Q (.ref p) H'
theorem abs_nd : ∀ {l : List Int}, (l.map fun s => (s.natAbs : Int)).Nodup → l.Nodup ∧ ∀ k ∈ l, k ≠ 0 → -k ∉ l := fun {l} h => by
  refine ⟨(List.pairwise_map.mp h).imp (fun {a b} z e => z (by rw [e])), fun k hk h0 hn => ?_⟩
  have inj : ∀ a ∈ l, ∀ b ∈ l, (a.natAbs : Int) = b.natAbs → a = b := fun a ha b hb e => by
    obtain ⟨i, hi, ei⟩ := List.getElem_of_mem ha
    obtain ⟨j, hj, ej⟩ := List.getElem_of_mem hb
    have hij : (l.map fun s => (s.natAbs : Int))[i]'(by rw [List.length_map]; exact hi) = (l.map fun s => (s.natAbs : Int))[j]'(by rw [List.length_map]; exact hj) := by
      rw [List.getElem_map, List.getElem_map, ei, ej]
      exact e
    have := (List.getElem_inj h).mp hij
    subst this
    rw [← ei, ← ej]
  have := inj k hk (-k) hn (by omega)
  omega
theorem cl_of {says left ks ns : List Int} (T : Thg ks) (pm : ((says.map fun s => (s.natAbs : Int)) ++ left).Perm ks) (pn : ns.Perm says) (so : ns.Pairwise (· ≤ ·)) : IsCl ns ∧ ∀ s ∈ ns, (s.natAbs : Int) ∈ ks := by
  have nd := (List.nodup_append.mp (pm.nodup_iff.mpr T.nd)).1
  obtain ⟨n1, n2⟩ := abs_nd nd
  have mem : ∀ s ∈ ns, (s.natAbs : Int) ∈ ks := fun s hs => pm.mem_iff.mp (List.mem_append_left _ (List.mem_map.mpr ⟨s, pn.mem_iff.mp hs, rfl⟩))
  have nn : ns.Nodup := pn.nodup_iff.mpr n1
  have bd : ∀ s ∈ ns, s ≠ 0 ∧ -8 ≤ s ∧ s ≤ 8 := fun s hs => by
    have := T.one _ (mem s hs)
    omega
  refine ⟨⟨?_, bd, fun k hk hn => n2 k (pn.mem_iff.mp hk) (bd k hk).1 (pn.mem_iff.mp hn), ?_⟩, mem⟩
  · have := List.Pairwise.and so nn
    exact this.imp fun {a b} h => by
      obtain ⟨h1, h2⟩ := h
      omega
  · have l1 := pn.length_eq
    have l2 := pm.length_eq
    rw [List.length_append, List.length_map] at l2
    have := T.len
    omega
theorem ok_clm {f : Addr} {fd : FuncData} {k : Nat} (F : Fun K "_law_sclaim" "_law_sclaim" sClm f fd) (T : Zs mg) (FD : Fun K "_law_sdraw" "_law_sdraw" sDrw fD fdD) (bD : Binds K fdD ["feed", "many"] []) (gD : mg "_law_sdraw" = some (.ref fD)) (GD : FnOk P w K mg base CX0 2 fD fdD ["feed", "many"] spDrw) :
    FnOk P w K mg base CX0 (k + 3) f fd ["feed", "things", "most"] spClm := by
  refine F.ok scClm (fun vs H Q E h => ?_) (fun cdv A outer s H vs Q E hr h => ?_)
  · obtain ⟨f, c, t, m, B, ks, rfl, _⟩ := h
    rfl
  · obtain ⟨f, c, t, m, B, ks, rfl, m0, m8, ht, Tk, hF, hB, q⟩ := h
    have hr2 : Room 2 _ := hr.mono (by omega)
    refine ⟨_, (Evl.pss_cut (ps_set (i := 3) scClm.nd rfl (.inl rfl) (pe_callTy call_list_ofN (by rfl) T.z_list (by decide +kernel) (pa_cons (pv 1) pa_nil)))
      (pss_cons (ps_set (i := 4) scClm.nd rfl (.inl rfl) (pe_lstN pa_nil))
      (Evl.pss_cut (ps_for PassesOwn.never rfl (pi_range1 (by rfl) T.z_range (pa_cons (pe_callB (call_min2 rfl) (by rfl) T.z_min (by decide +kernel) (pa_cons (pe_callB call_len_seq (by rfl) T.z_len (by decide +kernel) (pa_cons (pv 3) pa_nil)) (pa_cons (pe_call GD hr2 (by rfl) gD FD.kp bD .nil pass0 (pa_cons (pv 0) (pa_cons (pe_op op_add (pv 2) pe_int) pa_nil))) pa_nil))) pa_nil)) (pg_name (i := 5) scClm.nd rfl (.inl rfl)) (pss_cons (ps_set (i := 6) scClm.nd rfl (.inl rfl) (pe_bm PySem.F.plainAttrs_list PySem.F.slot_list_pop PySem.F.type_list_pop mt_popAt (pv 3) (pa_cons (pe_call GD hr2 (by rfl) gD FD.kp bD .nil pass0 (pa_cons (pv 0) (pa_cons (pe_callB call_len_seq (by rfl) T.z_len (by decide +kernel) (pa_cons (pv 3) pa_nil)) pa_nil))) pa_nil)))
      (pss_one (ps_expr (pe_bm PySem.F.plainAttrs_list PySem.F.slot_list_append PySem.F.type_list_append mt_append (pv 4) (pa_cons (pe_ix ix_list (pe_lstN (pa_cons (pv 6) (pa_cons (pe_op op_sub pe_int (pv 6)) pa_nil))) (pe_call GD hr2 (by rfl) gD FD.kp bD .nil pass0 (pa_cons (pv 0) (pa_cons pe_int pa_nil))) (fun _ _ => rfl)) pa_nil))))))
      (pss_one (ps_ret (pe_callTy call_tuple_ofN (by rfl) T.z_tuple (by decide +kernel) (pa_cons (pe_callB cr_sortedN (by rfl) T.z_sorted (by decide +kernel) (pa_cons (pv 4) pa_nil)) pa_nil))))))), ?_⟩
    -- left
    refine Evl.q_cut (M := fun σ' H' => ∃ L, σ' = [some (.ref f), some (.ref t), some (.int m), some (.ref L), none, none, none] ∧ H L = none ∧ Same H H' ∧ H' L = some (.lst (ks.map V.int))) ?_ ?_
    · exact ⟨_, rfl, t, _, rfl, .inl (.of ht), fun L H1 nL s1 hL _ => ⟨L, rfl, nL, s1, hL⟩⟩
    rintro σ' H1 ⟨L, rfl, nL, s1, hL⟩
    refine ⟨Nat.zero_le _, fun S H2 nS s2 hS _ => ?_⟩
    have F2 : Feed H2 f c B := hF.same (s1.trans s2)
    have nLf : L ≠ f := hF.nf nL
    have nLc : L ≠ c := hF.nc nL
    have nSL : S ≠ L := Ne.symm (ne_of_none hL nS)
    have nSf : S ≠ f := (hF.same s1).nf nS
    have nSc : S ≠ c := (hF.same s1).nc nS
    have frL : Frs H L := .of nL
    have frS : Frs H S := .of (s1.free nS)
    have hL2 : H2 L = some (.lst (ks.map V.int)) := s2 _ _ hL
    -- the loop
    refine Evl.q_cut (M := fun σ' H' => ∃ (y5 y6 : Option V) (left says : List Int), σ' = [some (.ref f), some (.ref t), some (.int m), some (.ref L), some (.ref S), y5, y6] ∧ Feed H' f c (B + 20) ∧ Ke (· = f) H H' ∧ H' S = some (.lst (says.map V.int)) ∧ (says.length : Int) ≤ m ∧ ((says.map fun s => (s.natAbs : Int)) ++ left).Perm ks) ?_ ?_
    · refine ⟨_, rfl, L, _, rfl, .inl (.of hL2), _, rfl, _, rfl, _, _, rfl, rfl, f, c, _, B, rfl, by omega, by omega, F2, by omega, fun d H3 d0 d1 F3 b3 => ?_⟩
      refine ⟨_, _, rfl, ?_⟩
      generalize hn : (if d < ((ks.map V.int).length : Int) then d else ((ks.map V.int).length : Int)) = n
      have n0 : 0 ≤ n ∧ n ≤ m ∧ n ≤ ks.length := by
        rw [List.length_map] at hn
        split at hn <;> omega
      have tl := Tk.len
      have hL3 : H3 L = some (.lst (ks.map V.int)) := (b3 L nLf).trans hL2
      have hS3 : H3 S = some (.lst (([] : List Int).map V.int)) := (b3 S nSf).trans hS
      have k3 : Ke (· = f) H H3 := (Ke.same (s1.trans s2)).trans (.but F2 b3)
      refine ⟨n, rfl, by omega, by omega, for_range (Pv := fun i σ H' => ∃ (y5 y6 : Option V) (left says : List Int), σ = [some (.ref f), some (.ref t), some (.int m), some (.ref L), some (.ref S), y5, y6] ∧ Feed H' f c (B + 1 + 2 * i) ∧ Ke (· = f) H H' ∧ H' L = some (.lst (left.map V.int)) ∧ H' S = some (.lst (says.map V.int)) ∧
        left.length = ks.length - i ∧ says.length = i ∧ ((says.map fun s => (s.natAbs : Int)) ++ left).Perm ks) ?_ ?_ ?_⟩
      · exact ⟨none, none, ks, [], rfl, F3, k3, hL3, hS3, rfl, rfl, .refl _⟩
      · rintro i σ H' hi ⟨y5, y6, left, says, rfl, F4, k4, hL4, hS4, ll, ls, pm⟩
        have hi : i < n.toNat := hi
        refine ⟨_, rfl, .inl ⟨rfl, _, .of hL4⟩, _, rfl, _, rfl, L, _, rfl, .inl (.of hL4), f, c, _, B + 1 + 2 * i, rfl, ?_, ?_, F4, by omega, fun d H5 d0 d1 F5 b5 => ?_⟩
        · rw [List.length_map]
          omega
        · rw [List.length_map]
          omega
        rw [List.length_map] at d1
        have dl : d.toNat < left.length := by omega
        have hL5 : H5 L = some (.lst (left.map V.int)) := (b5 L nLf).trans hL4
        have hS5 : H5 S = some (.lst (says.map V.int)) := (b5 S nSf).trans hS4
        have k5 : Ke (· = f) H H5 := k4.trans (.but F4 b5)
        refine ⟨L, _, d, d.toNat, .int left[d.toNat], rfl, rfl, hL5, by omega, by omega, by rw [List.length_map]; exact ix_seq d0 d1, by rw [List.getElem?_map, List.getElem?_eq_getElem dl]; rfl, ?_⟩
        have pp := perm_pop (List.getElem?_eq_getElem dl)
        have y1 := Tk.one left[d.toNat] (pm.mem_iff.mp (List.mem_append_right _ (List.getElem_mem dl)))
        generalize left[d.toNat] = y at pp y1
        have F6 : Feed (upd H5 L (.lst ((left.map V.int).eraseIdx d.toNat))) f c (B + 1 + 2 * i + 1) := F5.upd nLf nLc
        have k6 : Ke (· = f) H (upd H5 L (.lst ((left.map V.int).eraseIdx d.toNat))) := k5.write frL hL5
        have hL6 : (upd H5 L (.lst ((left.map V.int).eraseIdx d.toNat))) L = some (.lst ((left.eraseIdx d.toNat).map V.int)) := by rw [upd_same, erase_map]
        have hS6 : (upd H5 L (.lst ((left.map V.int).eraseIdx d.toNat))) S = some (.lst (says.map V.int)) := by rw [upd_ne nSL]; exact hS5
        generalize (upd H5 L (.lst ((left.map V.int).eraseIdx d.toNat))) = H6 at F6 k6 hL6 hS6 ⊢
        -- says.append([thing, 0 - thing][..])
        refine ⟨_, rfl, .inl ⟨rfl, _, .of hS6⟩, _, rfl, _, rfl, _, _, rfl, rfl, by show 2 ≤ sizeLine; decide, fun p H7 np s7 hp _ => ?_⟩
        refine ⟨_, rfl, f, c, 2, B + 1 + 2 * i + 1, rfl, by decide, by decide, F6.same s7, by omega, fun e H8 e0 e1 F8 b8 => ?_⟩
        have npf : p ≠ f := F6.nf np
        have hp8 := (b8 p npf).trans hp
        have hS8 : H8 S = some (.lst (says.map V.int)) := (b8 S nSf).trans (s7 _ _ hS6)
        have hL8 : H8 L = some (.lst ((left.eraseIdx d.toNat).map V.int)) := (b8 L nLf).trans (s7 _ _ hL6)
        have k8 : Ke (· = f) H H8 := (k6.trans (.same s7)).trans (.but (F6.same s7) b8)
        have two : e = 0 ∨ e = 1 := by omega
        have go : ∀ z : Int, (z.natAbs : Int) = y → ((says ++ [z]).map (fun s => (s.natAbs : Int)) ++ left.eraseIdx d.toNat).Perm ks := fun z hz => by
          refine List.Perm.trans ?_ pm
          rw [List.map_append, List.append_assoc, List.map_singleton, hz]
          exact (List.Perm.refl _).append pp
        rcases two with rfl | rfl
        · refine ⟨p, _, 0, .int y, rfl, rfl, .of hp8, rfl, S, _, _, rfl, rfl, hS8, by rw [List.length_map]; exact small1000 (by omega), ?_⟩
          refine ⟨_, _, left.eraseIdx d.toNat, says ++ [y], rfl, (F8.upd nSf nSc).mono (by omega), k8.write frS hS8, by rw [upd_ne (Ne.symm nSL)]; exact hL8, by rw [upd_same, List.map_append]; rfl, by rw [erase_len dl]; omega, by rw [List.length_append, ls]; rfl, go y (by omega)⟩
        · refine ⟨p, _, 1, .int (0 - y), rfl, rfl, .of hp8, rfl, S, _, _, rfl, rfl, hS8, by rw [List.length_map]; exact small1000 (by omega), ?_⟩
          refine ⟨_, _, left.eraseIdx d.toNat, says ++ [0 - y], rfl, (F8.upd nSf nSc).mono (by omega), k8.write frS hS8, by rw [upd_ne (Ne.symm nSL)]; exact hL8, by rw [upd_same, List.map_append]; rfl, by rw [erase_len dl]; omega, by rw [List.length_append, ls]; rfl, go (0 - y) (by omega)⟩
      · rintro σ H' ⟨y5, y6, left, says, rfl, F4, k4, hL4, hS4, ll, ls, pm⟩
        exact ⟨y5, y6, left, says, rfl, F4.mono (by omega), k4, hS4, by omega, pm⟩
    rintro σ' H3 ⟨y5, y6, left, says, rfl, F3, k3, hS3, ls, pm⟩
    refine ⟨_, rfl, S, says, rfl, .of hS3, fun ns pn so p H4 np s4 hp _ => ?_⟩
    refine ⟨p, _, rfl, .of hp, fun p2 H5 np2 s5 hp2 _ => ?_⟩
    obtain ⟨h1, h2⟩ := cl_of Tk pm pn so
    refine q ns p2 H5 (F3.same (s4.trans s5)) (k3.trans (.same (s4.trans s5))) (.ke k3 F3 (.of (s4.free np2))) hp2 h1 h2 ?_
    rw [pn.length_eq]
    exact ls
/-- the claims css are of the things ks -/
def Of (ks : List Int) (cs : List Int) : Prop := IsCl cs ∧ ∀ s ∈ cs, (s.natAbs : Int) ∈ ks
/-- a list of claims as it grows -/
def Ls (H : Hp) (L : Addr) (css : List (List Int)) : Prop := ∃ vs, H L = some (.lst vs) ∧ vs.length = css.length ∧ ∀ (i : Nat) (x : V) (cs : List Int), vs[i]? = some x → css[i]? = some cs → TupI H x cs
theorem ix_append {α β : Type} {R : α → β → Prop} {vs : List α} {ys : List β} {v : α} {y : β} (l : vs.length = ys.length) (h : ∀ (i : Nat) (x : α) (z : β), vs[i]? = some x → ys[i]? = some z → R x z) (r : R v y) :
    ∀ (i : Nat) (x : α) (z : β), (vs ++ [v])[i]? = some x → (ys ++ [y])[i]? = some z → R x z := by
  intro i x z h1 h2
  by_cases hi : i < vs.length
  · rw [List.getElem?_append_left hi] at h1
    rw [List.getElem?_append_left (by omega)] at h2
    exact h i x z h1 h2
  · have e : i = vs.length := by
      have := (List.getElem?_eq_some_iff.mp h1).1
      rw [List.length_append, List.length_singleton] at this
      omega
    subst e
    rw [List.getElem?_append_right (Nat.le_refl _), Nat.sub_self] at h1
    rw [List.getElem?_append_right (by omega), show vs.length - ys.length = 0 by omega] at h2
    cases h1
    cases h2
    exact r
/-- sbook(feed, things, most) -/
def spBok : Sp := fun vs H Q _ => ∃ (f c t : Addr) (m : Int) (B : Nat) (ks : List Int), vs = [.ref f, .ref t, .int m] ∧ 1 ≤ m ∧ m ≤ 16 ∧ H t = some (.lst (ks.map V.int)) ∧ Thg ks ∧ ks ≠ [] ∧ t ≠ f ∧ Feed H f c B ∧ B ≤ 2 ^ 57 ∧
  ∀ (css : List (List Int)) (p : Addr) (H' : Hp), Feed H' f c (B + 500) → Ke (· = f) H H' → Frs H p → Bk H' (.ref p) css → (∀ cs ∈ css, Of ks cs) → 1 ≤ css.length → (css.length : Int) ≤ m → Q (.ref p) H'
theorem ok_bok {f fC : Addr} {fd fdC : FuncData} {k : Nat} (F : Fun K "_law_sbook" "_law_sbook" sBok f fd) (T : Zs mg) (FD : Fun K "_law_sdraw" "_law_sdraw" sDrw fD fdD) (bD : Binds K fdD ["feed", "many"] []) (gD : mg "_law_sdraw" = some (.ref fD)) (GD : FnOk P w K mg base CX0 2 fD fdD ["feed", "many"] spDrw)
    (FC : Fun K "_law_sclaim" "_law_sclaim" sClm fC fdC) (bC : Binds K fdC ["feed", "things", "most"] []) (gC : mg "_law_sclaim" = some (.ref fC)) (GC : FnOk P w K mg base CX0 3 fC fdC ["feed", "things", "most"] spClm) :
    FnOk P w K mg base CX0 (k + 4) f fd ["feed", "things", "most"] spBok := by
  refine F.ok scBok (fun vs H Q E h => ?_) (fun cdv A outer s H vs Q E hr h => ?_)
  · obtain ⟨f, c, t, m, B, ks, rfl, _⟩ := h
    rfl
  · obtain ⟨f, c, t, m, B, ks, rfl, m0, m8, ht, Tk, kn, ntf, hF, hB, q⟩ := h
    have hr2 : Room 2 _ := hr.mono (by omega)
    have hr3 : Room 3 _ := hr.mono (by omega)
    refine ⟨_, (pss_cons (ps_set (i := 3) scBok.nd rfl (.inl rfl) (pe_lstN pa_nil))
      (Evl.pss_cut (ps_for PassesOwn.never rfl (pi_range1 (by rfl) T.z_range (pa_cons (pe_op op_add pe_int (pe_call GD hr2 (by rfl) gD FD.kp bD .nil pass0 (pa_cons (pv 0) (pa_cons (pv 2) pa_nil)))) pa_nil)) (pg_name (i := 4) scBok.nd rfl (.inl rfl)) (Evl.pss_cut (ps_set (i := 5) scBok.nd rfl (.inl rfl) (pe_call GC hr3 (by rfl) gC FC.kp bC .nil pass0 (pa_cons (pv 0) (pa_cons (pv 1) (pa_cons (pe_ix ix_list (pe_lstN (pa_cons pe_int (pa_cons pe_int (pa_cons pe_int (pa_cons pe_int pa_nil))))) (pe_call GD hr2 (by rfl) gD FD.kp bD .nil pass0 (pa_cons (pv 0) (pa_cons pe_int pa_nil))) (fun _ _ => rfl)) pa_nil)))))
      (Evl.pss_cut (ps_if (PW.pt (pw_and (pt_cmpR (op_eqD hr.units) (pv 5) (pe_tupN pa_nil) (nomark _)) (pw_and1 (pt_cmpR op_gt (pe_call GD hr2 (by rfl) gD FD.kp bD .nil pass0 (pa_cons (pv 0) (pa_cons pe_int pa_nil))) pe_int (nomark _))))) (pss_one (ps_set (i := 5) scBok.nd rfl (.inl rfl) (pe_tupN (pa_cons (pe_ix ix_list (pv 1) pe_int (fun _ _ => rfl)) pa_nil)))) pss_nil)
      (pss_one (ps_expr (pe_bm PySem.F.plainAttrs_list PySem.F.slot_list_append PySem.F.type_list_append mt_append (pv 3) (pa_cons (pv 5) pa_nil)))))))
      (pss_one (ps_ret (pe_callTy call_tuple_ofN (by rfl) T.z_tuple (by decide +kernel) (pa_cons (pv 3) pa_nil)))))), ?_⟩
    refine ⟨Nat.zero_le _, fun L H1 nL s1 hL _ => ?_⟩
    have nLf : L ≠ f := hF.nf nL
    have nLc : L ≠ c := hF.nc nL
    have frL : Frs H L := .of nL
    have nLt : L ≠ t := Ne.symm (ne_of_none ht nL)
    obtain ⟨k0, kr, rfl⟩ : ∃ k0 kr, ks = k0 :: kr := by
      cases ks with
      | nil => exact absurd rfl kn
      | cons a r => exact ⟨a, r, rfl⟩
    have hk0 := Tk.one k0 List.mem_cons_self
    have of0 : Of (k0 :: kr) [k0] := by
      refine ⟨⟨.cons (fun _ h => (nomatch h)) .nil, fun k hk => ?_, fun k hk hn => ?_, by show 1 ≤ 8; decide⟩, fun s hs => ?_⟩
      · rw [List.mem_singleton.mp hk]
        omega
      · rw [List.mem_singleton.mp hk] at hn
        have := List.mem_singleton.mp hn
        omega
      · rw [List.mem_singleton.mp hs, show ((k0.natAbs : Nat) : Int) = k0 by omega]
        exact List.mem_cons_self
    refine Evl.q_cut (M := fun σ' H' => ∃ (y4 y5 : Option V) (css : List (List Int)), σ' = [some (.ref f), some (.ref t), some (.int m), some (.ref L), y4, y5] ∧ Feed H' f c (B + 500) ∧ Ke (· = f) H H' ∧ Ls H' L css ∧ (∀ cs ∈ css, Of (k0 :: kr) cs) ∧ 1 ≤ css.length ∧ (css.length : Int) ≤ m) ?_ ?_
    · have F1 : Feed H1 f c B := hF.same s1
      refine ⟨_, rfl, _, rfl, f, c, _, B, rfl, by omega, by omega, F1, by omega, fun d H2 d0 d1 F2 b2 => ?_⟩
      refine ⟨_, _, rfl, rfl, 1 + d, rfl, by omega, by omega, for_range (Pv := fun i σ H' => ∃ (y4 y5 : Option V) (css : List (List Int)), σ = [some (.ref f), some (.ref t), some (.int m), some (.ref L), y4, y5] ∧ Feed H' f c (B + 1 + 30 * i) ∧ Ke (· = f) H H' ∧ Ls H' L css ∧ (∀ cs ∈ css, Of (k0 :: kr) cs) ∧ css.length = i) ?_ ?_ ?_⟩
      · exact ⟨none, none, [], rfl, F2, (Ke.same s1).trans (.but F1 b2), ⟨[], (b2 L nLf).trans hL, rfl, fun i x cs h => by simp at h⟩, fun cs h => (nomatch h), rfl⟩
      · rintro i σ H3 hi ⟨y4, y5, css, rfl, F3, k3, ⟨vs, hL3, lv, hv⟩, oc, lc⟩
        have hi : i < (1 + d).toNat := hi
        have ht3 : H3 t = some (.lst ((k0 :: kr).map V.int)) := k3.lst ht ntf
        refine Evl.q_cut (M := fun σ' H' => ∃ (p : Addr) (cs : List Int), σ' = [some (.ref f), some (.ref t), some (.int m), some (.ref L), some (.int (0 + (i : Int))), some (.ref p)] ∧ Feed H' f c (B + 1 + 30 * i + 21) ∧ Ke (· = f) H3 H' ∧ H' p = some (.tup (cs.map V.int)) ∧ Of (k0 :: kr) cs) ?_ ?_
        · refine ⟨_, rfl, _, rfl, by show 4 ≤ sizeLine; decide, fun p4 H4 np4 s4 hp4 _ => ?_⟩
          have F4 := F3.same s4
          refine ⟨_, rfl, f, c, 4, _, rfl, by decide, by decide, F4, by omega, fun e H5 e0 e1 F5 b5 => ?_⟩
          have k5 : Ke (· = f) H3 H5 := (Ke.same s4).trans (.but F4 b5)
          have np4f : p4 ≠ f := F3.nf np4
          have ht5 : H5 t = some (.lst ((k0 :: kr).map V.int)) := k5.lst ht3 ntf
          have pk : ∃ mm : Int, 0 ≤ mm ∧ mm ≤ 8 ∧ atI [V.int 3, V.int 3, V.int 3, V.int 6] e = some (.int mm) := by
            have four : e = 0 ∨ e = 1 ∨ e = 2 ∨ e = 3 := by omega
            rcases four with rfl | rfl | rfl | rfl
            · exact ⟨3, by decide, by decide, rfl⟩
            · exact ⟨3, by decide, by decide, rfl⟩
            · exact ⟨3, by decide, by decide, rfl⟩
            · exact ⟨6, by decide, by decide, rfl⟩
          obtain ⟨mm, mm0, mm1, ha⟩ := pk
          refine ⟨p4, _, e, .int mm, rfl, rfl, .of ((b5 p4 np4f).trans hp4), ha, f, c, t, mm, _, k0 :: kr, rfl, mm0, mm1, ht5, Tk, F5, by omega, fun cs p H6 F6 k6 _ hp h1 h2 _ => ?_⟩
          exact ⟨p, cs, rfl, F6.mono (by omega), k5.trans k6, hp, h1, h2⟩
        rintro σ' H4 ⟨p, cs, rfl, F4, k4, hp, hc⟩
        -- if claim == () and ..
        refine Evl.q_cut (M := fun σ' H' => ∃ (p : Addr) (cs : List Int), σ' = [some (.ref f), some (.ref t), some (.int m), some (.ref L), some (.int (0 + (i : Int))), some (.ref p)] ∧ Feed H' f c (B + 1 + 30 * i + 22) ∧ Ke (· = f) H3 H' ∧ H' p = some (.tup (cs.map V.int)) ∧ Of (k0 :: kr) cs) ?_ ?_
        · refine ⟨_, rfl, Nat.zero_le _, fun p5 H5 np5 s5 hp5 _ => ?_⟩
          have F5 := F4.same s5
          have k5 : Ke (· = f) H3 H5 := k4.trans (.same s5)
          refine ⟨_, _, .tup (.of (s5 _ _ hp)) (dp_ints cs), .tup (.of hp5) .nil, shaped_tuple (flat_ints _), shaped_tuple rfl, _, rfl, ite2 (fun e => ?_) (fun e => ?_)⟩
          · refine ⟨_, rfl, f, c, 6, _, rfl, by decide, by decide, F5, by omega, fun g H6 g0 g1 F6 b6 => ?_⟩
            have k6 : Ke (· = f) H3 H6 := k5.trans (.but F5 b6)
            refine ⟨_, _, rfl, rfl, _, rfl, ite2 (fun e => ?_) (fun e => ?_)⟩
            · have ht6 : H6 t = some (.lst ((k0 :: kr).map V.int)) := k6.lst ht3 ntf
              refine ⟨_, rfl, t, _, 0, .int k0, rfl, rfl, .of ht6, atI_nat (j := 0) rfl, by show 1 ≤ sizeLine; decide, fun p7 H7 np7 s7 hp7 _ => ?_⟩
              exact ⟨p7, [k0], rfl, (F6.same s7).mono (by omega), k6.trans (.same s7), hp7, of0⟩
            · exact ⟨p, cs, rfl, F6.mono (by omega), k6, (Ke.but F5 b6).tups _ _ (s5 _ _ hp), hc⟩
          · exact ⟨p, cs, rfl, F5.mono (by omega), k5, s5 _ _ hp, hc⟩
        rintro σ' H5 ⟨p, cs, rfl, F5, k5, hp, hc⟩
        -- claims.append(claim)
        have hL5 : H5 L = some (.lst vs) := k5.lst hL3 nLf
        refine ⟨_, rfl, .inl ⟨rfl, _, .of hL5⟩, _, rfl, L, _, _, rfl, rfl, hL5, small1000 (by omega), ?_⟩
        have k6 : Ke (· = f) H (upd H5 L (.lst (vs ++ [.ref p]))) := (k3.trans k5).write frL hL5
        have tp : ∀ {x : V} {ds : List Int}, TupI H5 x ds → TupI (upd H5 L (.lst (vs ++ [.ref p]))) x ds := fun {x ds} ⟨a, e, h⟩ => ⟨a, e, by
          have n : a ≠ L := fun z => by
            rw [z, hL5] at h
            cases h
          rw [upd_ne n]
          exact h⟩
        refine ⟨_, _, css ++ [cs], rfl, (F5.upd nLf nLc).mono (by omega), k6, ⟨vs ++ [.ref p], upd_same, by rw [List.length_append, List.length_append, lv]; rfl, ix_append lv (fun i x ds h1 h2 => tp ((hv i x ds h1 h2).ke k5)) (tp ⟨p, rfl, hp⟩)⟩, fun ds hd => ?_, by rw [List.length_append, lc]; rfl⟩
        rcases List.mem_append.mp hd with z | z
        · exact oc ds z
        · rw [List.mem_singleton.mp z]
          exact hc
      · rintro σ H3 ⟨y4, y5, css, rfl, F3, k3, ls, oc, lc⟩
        have lc' : css.length = (1 + d).toNat := lc
        exact ⟨y4, y5, css, rfl, F3.mono (by omega), k3, ls, oc, by omega, by omega⟩
    rintro σ' H2 ⟨y4, y5, css, rfl, F2, k2, ⟨vs, hL2, lv, hv⟩, oc, l1, l2⟩
    refine ⟨_, rfl, L, vs, rfl, .of hL2, fun p H3 np s3 hp _ => ?_⟩
    have k3 : Ke (· = f) H2 H3 := .same s3
    exact q css p H3 (F2.same s3) (k2.trans k3) (.ke k2 F2 (.of np)) ⟨p, vs, rfl, hp, lv, fun i x cs h1 h2 => (hv i x cs h1 h2).ke k3⟩ oc l1 l2
end
end Cl
namespace Lr
open PySem PySem.Spec PyProof.Rows L2 GxR Nw Dr Kp Ct
/-! ### rows, ladders, their claims -/
inductive Rw where
  | book (n : Nat)
  | cut (i j : Nat) (k : Int)
/-- the row's parts -/
def Rw.vs : Rw → List V
  | .book n => [.str "book", .int (n : Nat)]
  | .cut i j k => [.str "cut", .int (i : Nat), .int (j : Nat), .int k]
def RowAt (H : Hp) (v : V) (r : Rw) : Prop := ∃ a, v = .ref a ∧ H a = some (.tup r.vs)
variable {F : Addr → Prop} {H H' : Hp}
theorem RowAt.ke {v : V} {r : Rw} (h : RowAt H v r) (k : Ke F H H') : RowAt H' v r := by
  obtain ⟨a, e, h⟩ := h
  exact ⟨a, e, k.tups _ _ h⟩
/-- items told one by one -/
def All2 {α β : Type} (R : α → β → Prop) (xs : List α) (ys : List β) : Prop := xs.length = ys.length ∧ ∀ (i : Nat) (x : α) (y : β), xs[i]? = some x → ys[i]? = some y → R x y
theorem All2.imp {α β : Type} {R S : α → β → Prop} {xs : List α} {ys : List β} (h : All2 R xs ys) (f : ∀ x y, R x y → S x y) : All2 S xs ys := ⟨h.1, fun i x y h1 h2 => f x y (h.2 i x y h1 h2)⟩
theorem All2.nil {α β : Type} {R : α → β → Prop} : All2 R ([] : List α) ([] : List β) := ⟨rfl, fun i x y h => by cases h⟩
theorem All2.snoc {α β : Type} {R : α → β → Prop} {xs : List α} {ys : List β} {x : α} {y : β} (h : All2 R xs ys) (r : R x y) : All2 R (xs ++ [x]) (ys ++ [y]) := by
  refine ⟨by rw [List.length_append, List.length_append, h.1]; rfl, fun i x' y' h1 h2 => ?_⟩
  by_cases hi : i < xs.length
  · rw [List.getElem?_append_left hi] at h1
    rw [List.getElem?_append_left (by rw [← h.1]; exact hi)] at h2
    exact h.2 i x' y' h1 h2
  · have e : i = xs.length := by
      have := (List.getElem?_eq_some_iff.mp h1).1
      rw [List.length_append, List.length_singleton] at this
      omega
    subst e
    rw [List.getElem?_append_right (Nat.le_refl _), Nat.sub_self] at h1
    rw [List.getElem?_append_right (by rw [h.1]; exact Nat.le_refl _), show xs.length - ys.length = 0 by rw [h.1]; exact Nat.sub_self _] at h2
    cases h1
    cases h2
    exact r
theorem All2.cat {α β : Type} {R : α → β → Prop} {xs us : List α} {ys ws : List β} (h : All2 R xs ys) (g : All2 R us ws) : All2 R (xs ++ us) (ys ++ ws) := by
  refine ⟨by rw [List.length_append, List.length_append, h.1, g.1], fun i x y h1 h2 => ?_⟩
  by_cases hi : i < xs.length
  · rw [List.getElem?_append_left hi] at h1
    rw [List.getElem?_append_left (by rw [← h.1]; exact hi)] at h2
    exact h.2 i x y h1 h2
  · rw [List.getElem?_append_right (by omega)] at h1
    rw [List.getElem?_append_right (by rw [← h.1]; omega), ← h.1] at h2
    exact g.2 _ x y h1 h2
theorem All2.take {α β : Type} {R : α → β → Prop} {xs : List α} {ys : List β} (h : All2 R xs ys) (n : Nat) : All2 R (xs.take n) (ys.take n) := by
  refine ⟨by rw [List.length_take, List.length_take, h.1], fun i x y h1 h2 => ?_⟩
  rw [List.getElem?_take] at h1 h2
  by_cases l : i < n
  · rw [if_pos l] at h1 h2
    exact h.2 i x y h1 h2
  · rw [if_neg l] at h1
    cases h1
theorem All2.at {α β : Type} {R : α → β → Prop} {xs : List α} {ys : List β} (h : All2 R xs ys) {i : Nat} {x : α} (e : xs[i]? = some x) : ∃ y, ys[i]? = some y ∧ R x y := by
  have l := (List.getElem?_eq_some_iff.mp e).1
  have l2 : i < ys.length := by rw [← h.1]; exact l
  exact ⟨ys[i], List.getElem?_eq_getElem l2, h.2 i x _ e (List.getElem?_eq_getElem l2)⟩
theorem All2.atR {α β : Type} {R : α → β → Prop} {xs : List α} {ys : List β} (h : All2 R xs ys) {i : Nat} {y : β} (e : ys[i]? = some y) : ∃ x, xs[i]? = some x ∧ R x y := by
  have l := (List.getElem?_eq_some_iff.mp e).1
  have l2 : i < xs.length := by rw [h.1]; exact l
  exact ⟨xs[i], List.getElem?_eq_getElem l2, h.2 i _ y (List.getElem?_eq_getElem l2) e⟩
/-- a list of claims, a list of rows -/
def ClL (H : Hp) (L : Addr) (cls : List (List Int)) : Prop := ∃ vs, H L = some (.lst vs) ∧ All2 (TupI H) vs cls
def RwL (H : Hp) (L : Addr) (rows : List Rw) : Prop := ∃ vs, H L = some (.lst vs) ∧ All2 (RowAt H) vs rows
theorem ClL.ke {L : Addr} {cls : List (List Int)} (h : ClL H L cls) (k : Ke F H H') (n : ¬ F L) : ClL H' L cls := by
  obtain ⟨vs, h1, h2⟩ := h
  exact ⟨vs, k.lst h1 n, h2.imp fun x y r => r.ke k⟩
theorem RwL.ke {L : Addr} {rows : List Rw} (h : RwL H L rows) (k : Ke F H H') (n : ¬ F L) : RwL H' L rows := by
  obtain ⟨vs, h1, h2⟩ := h
  exact ⟨vs, k.lst h1 n, h2.imp fun x y r => r.ke k⟩
theorem bk_all {v : V} {css : List (List Int)} (h : Bk H v css) : ∃ a vs, v = .ref a ∧ H a = some (.tup vs) ∧ All2 (TupI H) vs css := by
  obtain ⟨a, vs, e, h, l, t⟩ := h
  exact ⟨a, vs, e, h, l, t⟩
/-- the claim of a row behind rows with the claims cls -/
def RowCl (css cls : List (List Int)) : Rw → List Int → Prop
  | .book n, c => css[n]? = some c
  | .cut i j k, c => ∃ x y, cls[i]? = some x ∧ cls[j]? = some y ∧ Comes x y k c
/-- a ladder by the book, with its claims -/
def Lad (css : List (List Int)) (rows : List Rw) (cls : List (List Int)) : Prop := rows.length = cls.length ∧ ∀ (i : Nat) (r : Rw) (c : List Int), rows[i]? = some r → cls[i]? = some c → RowCl css (cls.take i) r c
theorem Lad.nil (css : List (List Int)) : Lad css [] [] := ⟨rfl, fun i r c h => by cases h⟩
theorem Lad.snoc {css cls : List (List Int)} {rows : List Rw} {r : Rw} {c : List Int} (h : Lad css rows cls) (hr : RowCl css cls r c) : Lad css (rows ++ [r]) (cls ++ [c]) := by
  refine ⟨by rw [List.length_append, List.length_append, h.1]; rfl, fun i r' c' h1 h2 => ?_⟩
  by_cases hi : i < rows.length
  · rw [List.getElem?_append_left hi] at h1
    rw [List.getElem?_append_left (by rw [← h.1]; exact hi)] at h2
    rw [List.take_append_of_le_length (by have := h.1; omega)]
    exact h.2 i r' c' h1 h2
  · have e : i = rows.length := by
      have := (List.getElem?_eq_some_iff.mp h1).1
      rw [List.length_append, List.length_singleton] at this
      omega
    subst e
    rw [List.getElem?_append_right (Nat.le_refl _), Nat.sub_self] at h1
    rw [List.getElem?_append_right (by rw [h.1]; exact Nat.le_refl _), show rows.length - cls.length = 0 by rw [h.1]; exact Nat.sub_self _] at h2
    cases h1
    cases h2
    rw [h.1, List.take_append_of_le_length (Nat.le_refl _), List.take_length]
    exact hr
theorem Lad.take {css cls : List (List Int)} {rows : List Rw} (h : Lad css rows cls) (n : Nat) : Lad css (rows.take n) (cls.take n) := by
  refine ⟨by rw [List.length_take, List.length_take, h.1], fun i r c h1 h2 => ?_⟩
  rw [List.getElem?_take] at h1 h2
  by_cases l : i < n
  · rw [if_pos l] at h1 h2
    rw [List.take_take, Nat.min_eq_left (by omega)]
    exact h.2 i r c h1 h2
  · rw [if_neg l] at h1
    cases h1
/-- what any two tellings of a row's claim tell is one -/
theorem RowCl.one {css cls : List (List Int)} {r : Rw} {c d : List Int} (a : RowCl css cls r c) (b : RowCl css cls r d) : c = d := by
  cases r with
  | book n => exact Option.some.inj (a.symm.trans b)
  | cut i j k =>
    obtain ⟨x, y, h1, h2, h3⟩ := a
    obtain ⟨x', y', h1', h2', h3'⟩ := b
    cases h1.symm.trans h1'
    cases h2.symm.trans h2'
    exact h3.one h3'
theorem RowCl.parts {css cls : List (List Int)} {i j : Nat} {k : Int} {c : List Int} (a : RowCl css cls (.cut i j k) c) : i < cls.length ∧ j < cls.length := by
  obtain ⟨x, y, h1, h2, _⟩ := a
  exact ⟨(List.getElem?_eq_some_iff.mp h1).1, (List.getElem?_eq_some_iff.mp h2).1⟩
theorem len_sub : ∀ (l m : List Int), l.Nodup → (∀ x ∈ l, x ∈ m) → l.length ≤ m.length
  | [], _, _, _ => Nat.zero_le _
  | x :: r, m, nd, h => by
    obtain ⟨h1, h2⟩ := List.nodup_cons.mp nd
    have ih := len_sub r (m.erase x) h2 fun y hy => (List.mem_erase_of_ne (fun e => h1 (by rw [← e]; exact hy))).mpr (h y (List.mem_cons_of_mem _ hy))
    have e := List.length_erase_of_mem (h x List.mem_cons_self)
    have p := List.length_pos_of_mem (h x List.mem_cons_self)
    rw [List.length_cons]
    omega
/-- rising, from -8 to 8, not 0, none opposite: a claim -/
theorem cl_mk {ns : List Int} (up : ns.Pairwise (· < ·)) (says : ∀ k ∈ ns, k ≠ 0 ∧ -8 ≤ k ∧ k ≤ 8) (opp : ∀ k ∈ ns, -k ∉ ns) : IsCl ns := by
  refine ⟨up, says, opp, ?_⟩
  have nd : (ns.map fun s => (s.natAbs : Int)).Nodup := List.pairwise_map.mpr (up.imp_of_mem fun {a b} ha hb hab e => by
    have : a = b ∨ a = -b := by omega
    rcases this with z | z
    · omega
    · have e2 : -b = a := by omega
      exact opp b hb (by rw [e2]; exact ha))
  have := len_sub _ [1, 2, 3, 4, 5, 6, 7, 8] nd fun x hx => by
    obtain ⟨s, hs, rfl⟩ := List.mem_map.mp hx
    have := says s hs
    simp only [List.mem_cons, List.not_mem_nil, or_false]
    omega
  rw [List.length_map] at this
  exact this
theorem cl_comes {cs ds ns : List Int} {k : Int} (hc : IsCl cs) (hd : IsCl ds) (h : Comes cs ds k ns) : IsCl ns := by
  obtain ⟨_, _, _, no, up, me⟩ := h
  refine cl_mk up (fun j hj => ?_) fun j hj hn => no j ((me j).mp hj) ((me (-j)).mp hn)
  rcases ((me j).mp hj).1 with z | z
  · exact hc.says j z
  · exact hd.says j z
theorem RowCl.isCl {css cls : List (List Int)} {r : Rw} {c : List Int} (hb : ∀ c ∈ css, IsCl c) (hc : ∀ c ∈ cls, IsCl c) (h : RowCl css cls r c) : IsCl c := by
  cases r with
  | book n => exact hb c (List.mem_of_getElem? h)
  | cut i j k =>
    obtain ⟨x, y, h1, h2, h3⟩ := h
    exact cl_comes (hc x (List.mem_of_getElem? h1)) (hc y (List.mem_of_getElem? h2)) h3
theorem Lad.isCl {css cls : List (List Int)} {rows : List Rw} (hb : ∀ c ∈ css, IsCl c) (h : Lad css rows cls) : ∀ c ∈ cls, IsCl c := by
  have key : ∀ n, n ≤ cls.length → ∀ c ∈ cls.take n, IsCl c := by
    intro n
    induction n with
    | zero => exact fun _ c hc => by simp at hc
    | succ n ih =>
      intro hn c hc
      rw [List.take_add_one] at hc
      rcases List.mem_append.mp hc with hc | hc
      · exact ih (by omega) c hc
      · have ln : n < cls.length := by omega
        have lr : n < rows.length := by rw [h.1]; exact ln
        rw [List.getElem?_eq_getElem ln] at hc
        obtain rfl : c = cls[n] := List.mem_singleton.mp hc
        exact (h.2 n rows[n] cls[n] (List.getElem?_eq_getElem lr) (List.getElem?_eq_getElem ln)).isCl hb (ih (by omega))
  have := key cls.length (Nat.le_refl _)
  rwa [List.take_length] at this
/-! ### min, max of a tuple of two whole numbers -/
section
variable {X : Cx}
def rT2 (K : PySem.W.Frag) (f : Int → Int → Int) : List V → Hp → VK → Prop := fun vs H Q => ∃ (a : Addr) (i j : Int), vs = [V.ref a] ∧ SqT K H a [.int i, .int j] ∧ Q (.int (f i j)) H
theorem two_of {its : List Value} {i j : Int} (r : Vals [V.int i, V.int j] its) : IntsAre its [i, j] := by
  obtain ⟨t, u, rfl⟩ := Vals.int2 r
  exact .cons _ _ (.cons _ _ .nil)
theorem cr_minT (hc : X.calm = true) (hu : X.A.units + 70 < cLine) : CallR X (.builtin "min") (rT2 X.K fun i j => if j < i then j else i) := by
  intro pins s σ H vs us Q I r h
  obtain ⟨a, i, j, rfl, hs, q⟩ := h
  obtain ⟨its, rv, hl, _⟩ := I.tuple hs
  rw [Vals.ref1 r]
  refine PySem.W.min_tuple_datum (α := Int) (x := i) (xs := [j]) (I.ok.hd hc) hl (PySem.W.HoldAll.of_ints (two_of rv)) (by show X.A.units + 1 + 0 < cLine; omega) fun n v h' tk hv hh hk => ?_
  have e : PySem.W.minOf i [j] = if j < i then j else i := by
    show (if decide (j < i) = true then j else i) = _
    by_cases z : j < i
    · rw [if_pos z, if_pos (decide_eq_true z)]
    · rw [if_neg z, if_neg (by rw [decide_eq_false z]; exact Bool.false_ne_true)]
  rw [e] at hh
  obtain ⟨as, hh⟩ := hh
  cases hh
  exact ⟨.int _, H, I.kept hk, ⟨_, rfl⟩, q⟩
theorem cr_maxT (hc : X.calm = true) (hu : X.A.units + 70 < cLine) : CallR X (.builtin "max") (rT2 X.K fun i j => if i < j then j else i) := by
  intro pins s σ H vs us Q I r h
  obtain ⟨a, i, j, rfl, hs, q⟩ := h
  obtain ⟨its, rv, hl, _⟩ := I.tuple hs
  rw [Vals.ref1 r]
  refine PySem.W.max_tuple_datum (α := Int) (x := i) (xs := [j]) (I.ok.hd hc) hl (PySem.W.HoldAll.of_ints (two_of rv)) (by show X.A.units + 1 + 0 < cLine; omega) fun n v h' tk hv hh hk => ?_
  have e : PySem.W.maxOf i [j] = if i < j then j else i := by
    show (if decide (i < j) = true then j else i) = _
    by_cases z : i < j
    · rw [if_pos z, if_pos (decide_eq_true z)]
    · rw [if_neg z, if_neg (by rw [decide_eq_false z]; exact Bool.false_ne_true)]
  rw [e] at hh
  obtain ⟨as, hh⟩ := hh
  cases hh
  exact ⟨.int _, H, I.kept hk, ⟨_, rfl⟩, q⟩
end
end Lr
namespace Lp
open PySem PySem.Spec PyProof.Rows L2 GxR Nw Dr Kp Se Ct Lr
structure Zp (mg : Str → Option Value) : Prop where
  z_len : mg "len" = none
  z_isinstance : mg "isinstance" = none
  z_tuple : mg "tuple" = none
  z_list : mg "list" = none
  z_max : mg "max" = none
theorem TupI.wr {H : Hp} {D : Addr} {x : V} {ns : List Int} {ys : List V} {o : HO} (h : TupI H x ns) (hD : H D = some (.lst ys)) : TupI (upd H D o) x ns := by
  obtain ⟨a, e, h⟩ := h
  refine ⟨a, e, ?_⟩
  rw [upd_ne (fun z => by rw [z, hD] at h; cases h)]
  exact h
theorem RowAt.wr {H : Hp} {D : Addr} {x : V} {r : Rw} {ys : List V} {o : HO} (h : RowAt H x r) (hD : H D = some (.lst ys)) : RowAt (upd H D o) x r := by
  obtain ⟨a, e, h⟩ := h
  refine ⟨a, e, ?_⟩
  rw [upd_ne (fun z => by rw [z, hD] at h; cases h)]
  exact h
theorem cl_snoc {H : Hp} {D : Addr} {vs : List V} {cls : List (List Int)} {x : V} {c : List Int} (hD : H D = some (.lst vs)) (h : All2 (TupI H) vs cls) (hx : TupI H x c) : ClL (upd H D (.lst (vs ++ [x]))) D (cls ++ [c]) :=
  ⟨_, upd_same, (h.imp fun _ _ r => TupI.wr r hD).snoc (TupI.wr hx hD)⟩
theorem take_snoc {α : Type} {l : List α} {i : Nat} {x : α} (h : l[i]? = some x) : l.take (i + 1) = l.take i ++ [x] := by
  rw [List.take_add_one, h]
  rfl
theorem cut_all {xs : List V} {n : Nat} (h : xs.length ≤ n) : cutV xs none (some (n : Int)) = xs := by
  unfold cutV
  rw [HT.sIx_none, HT.sIx_nat, List.drop_zero, Nat.sub_zero, Nat.min_eq_right h, List.take_length]
section
variable {P : Program} {w : World} {K : PySem.W.Frag} {mg : Str → Option Value} {base : Heap}
theorem num_at {α : Type} {l : List α} {n : Nat} (h : (decide ((0 : Int) ≤ (n : Int)) && decide ((n : Int) < (l.length : Int))) = true) : n < l.length := by
  rw [Bool.and_eq_true] at h
  have := of_decide_eq_true h.2
  omega
theorem num_no {α : Type} {l : List α} {n : Nat} (h : ¬ (decide ((0 : Int) ≤ (n : Int)) && decide ((n : Int) < (l.length : Int))) = true) : l.length ≤ n := by
  rw [Bool.and_eq_true] at h
  by_cases z : n < l.length
  · exact absurd ⟨decide_eq_true (by omega), decide_eq_true (by omega)⟩ h
  · omega
end
end Lp
namespace Tr
open PySem PySem.Spec PyProof.Rows L2 GxR Nw Dr Kp Ct Lr
/-! ### trees -/
inductive T where
  | leaf (n : Nat)
  | cut (t u : T) (k : Int)
def T.depth : T → Nat
  | .leaf _ => 1
  | .cut t u _ => 1 + max t.depth u.depth
def T.pieces : T → Nat
  | .leaf _ => 1
  | .cut t u _ => 1 + t.pieces + u.pieces
def T.cuts : T → Nat
  | .leaf _ => 0
  | .cut t u _ => 1 + t.cuts + u.cuts
def T.isCut : T → Bool
  | .leaf _ => false
  | .cut _ _ _ => true
theorem T.pos : ∀ t : T, 1 ≤ t.depth ∧ 1 ≤ t.pieces
  | .leaf _ => ⟨Nat.le_refl _, Nat.le_refl _⟩
  | .cut t u _ => ⟨Nat.le_add_right _ _, by show 1 ≤ 1 + t.pieces + u.pieces; omega⟩
/-- at v stands the tree -/
def At (H : Hp) : T → V → Prop
  | .leaf n, v => ∃ a, v = .ref a ∧ H a = some (.tup [.str "book", .int (n : Nat)])
  | .cut t u k, v => ∃ a x y, v = .ref a ∧ H a = some (.tup [.str "cut", x, y, .int k]) ∧ At H t x ∧ At H u y
theorem At.ke {F : Addr → Prop} {H H' : Hp} (k : Ke F H H') : ∀ {t : T} {v : V}, At H t v → At H' t v
  | .leaf n, v, h => by
    obtain ⟨a, e, h⟩ := h
    exact ⟨a, e, k.tups _ _ h⟩
  | .cut t u i, v, h => by
    obtain ⟨a, x, y, e, h, h1, h2⟩ := h
    exact ⟨a, x, y, e, k.tups _ _ h, At.ke k h1, At.ke k h2⟩
theorem At.wr {H : Hp} {D : Addr} {ys : List V} {o : HO} (hD : H D = some (.lst ys)) : ∀ {t : T} {v : V}, At H t v → At (upd H D o) t v
  | .leaf n, v, h => by
    obtain ⟨a, e, h⟩ := h
    refine ⟨a, e, ?_⟩
    rw [upd_ne (fun z => by rw [z, hD] at h; cases h)]
    exact h
  | .cut t u i, v, h => by
    obtain ⟨a, x, y, e, h, h1, h2⟩ := h
    refine ⟨a, x, y, e, ?_, At.wr hD h1, At.wr hD h2⟩
    rw [upd_ne (fun z => by rw [z, hD] at h; cases h)]
    exact h
/-- its claim -/
def Cl (css : List (List Int)) : T → List Int → Prop
  | .leaf n, c => css[n]? = some c
  | .cut t u k, c => ∃ x y, Cl css t x ∧ Cl css u y ∧ Comes x y k c
theorem Cl.one {css : List (List Int)} : ∀ {t : T} {c d : List Int}, Cl css t c → Cl css t d → c = d
  | .leaf n, _, _, a, b => Option.some.inj (a.symm.trans b)
  | .cut t u k, _, _, a, b => by
    obtain ⟨x, y, h1, h2, h3⟩ := a
    obtain ⟨x', y', h1', h2', h3'⟩ := b
    cases Cl.one h1 h1'
    cases Cl.one h2 h2'
    exact h3.one h3'
theorem Cl.isCl {css : List (List Int)} (hb : ∀ c ∈ css, IsCl c) : ∀ {t : T} {c : List Int}, Cl css t c → IsCl c
  | .leaf n, c, h => hb c (List.mem_of_getElem? h)
  | .cut t u k, c, h => by
    obtain ⟨x, y, h1, h2, h3⟩ := h
    exact cl_comes (Cl.isCl hb h1) (Cl.isCl hb h2) h3
/-- all pieces, in the order in which they are done -/
def T.all : T → List T
  | .leaf n => [.leaf n]
  | .cut t u k => t.all ++ u.all ++ [.cut t u k]
theorem T.all_len : ∀ t : T, t.all.length = t.pieces
  | .leaf _ => rfl
  | .cut t u k => by
    show (t.all ++ u.all ++ [T.cut t u k]).length = 1 + t.pieces + u.pieces
    rw [List.length_append, List.length_append, T.all_len t, T.all_len u]
    show t.pieces + u.pieces + 1 = _
    omega
theorem T.all_cuts : ∀ t : T, t.all.countP T.isCut = t.cuts
  | .leaf _ => rfl
  | .cut t u k => by
    show (t.all ++ u.all ++ [T.cut t u k]).countP T.isCut = 1 + t.cuts + u.cuts
    rw [List.countP_append, List.countP_append, T.all_cuts t, T.all_cuts u]
    show t.cuts + u.cuts + 1 = _
    omega
theorem T.all_sub {css : List (List Int)} : ∀ {t : T} {c : List Int}, Cl css t c → ∀ s ∈ t.all, s.depth ≤ t.depth ∧ s.pieces ≤ t.pieces ∧ ∃ d, Cl css s d
  | .leaf n, c, h, s, hs => by
    obtain rfl : s = .leaf n := List.mem_singleton.mp hs
    exact ⟨Nat.le_refl _, Nat.le_refl _, c, h⟩
  | .cut t u k, c, h, s, hs => by
    obtain ⟨x, y, h1, h2, h3⟩ := id h
    rcases List.mem_append.mp hs with hs | hs
    · rcases List.mem_append.mp hs with hs | hs
      · obtain ⟨a1, a2, a3⟩ := T.all_sub h1 s hs
        exact ⟨by show s.depth ≤ 1 + max t.depth u.depth; omega, by show s.pieces ≤ 1 + t.pieces + u.pieces; omega, a3⟩
      · obtain ⟨a1, a2, a3⟩ := T.all_sub h2 s hs
        exact ⟨by show s.depth ≤ 1 + max t.depth u.depth; omega, by show s.pieces ≤ 1 + t.pieces + u.pieces; omega, a3⟩
    · rw [List.mem_singleton.mp hs]
      exact ⟨Nat.le_refl _, Nat.le_refl _, c, h⟩
theorem unsnoc {α β : Type} {R : α → β → Prop} {xs : List α} {ys : List β} (h : All2 R xs ys) (ne : xs ≠ []) : ∃ xs0 x ys0 y, xs = xs0 ++ [x] ∧ ys = ys0 ++ [y] ∧ All2 R xs0 ys0 ∧ R x y := by
  have l := h.1
  have lp : 0 < xs.length := by
    cases xs with
    | nil => exact absurd rfl ne
    | cons a t => exact Nat.zero_lt_succ _
  have e1 : xs = xs.take (xs.length - 1) ++ [xs[xs.length - 1]] := by
    have := Lp.take_snoc (List.getElem?_eq_getElem (show xs.length - 1 < xs.length by omega))
    rw [show xs.length - 1 + 1 = xs.length by omega, List.take_length] at this
    exact this
  have e2 : ys = ys.take (xs.length - 1) ++ [ys[xs.length - 1]] := by
    have := Lp.take_snoc (List.getElem?_eq_getElem (show xs.length - 1 < ys.length by omega))
    rw [show xs.length - 1 + 1 = ys.length by omega, List.take_length] at this
    exact this
  exact ⟨_, _, _, _, e1, e2, h.take _, h.2 _ _ _ (List.getElem?_eq_getElem _) (List.getElem?_eq_getElem _)⟩
end Tr
namespace Gx2
open PySem PySem.Spec PyProof.Rows L2
/-! ### promises for calls made while nothing is being shown, with refusals: for defs that show lists or tuples and are called by others -/
structure FnX (P : Program) (w : World) (K : PySem.W.Frag) (mg : Str → Option Value) (base : Heap) (CX : CXT) (k : Nat) (f : Addr) (fd : FuncData) (ps : List Str) (sp : Sp) : Prop where
  len : ∀ us H Q E, sp us H Q E → us.length = ps.length
  run : ∀ (A : Around) (outer : List Env) (s : Shared) (H : Hp) (args : Args) (us : List Value) (vs : List V) (Q : VK) (E : XK), A.guards = some [] → Room k A → Env0 P w K mg base A outer s H → BindsTo s fd args (ps.zip us) → Vals vs us → sp vs H Q E → codeAny (model P w) A (.call (.ref f) args) (CR CX outer P w H s Q E) s
section
variable {P : Program} {w : World} {K : PySem.W.Frag} {mg : Str → Option Value} {base : Heap} {CX : CXT}
theorem of_ok {k : Nat} {f : Addr} {fd : FuncData} {ps : List Str} {sp : Sp} (F : FnOk P w K mg base CX k f fd ps sp) : FnX P w K mg base CX k f fd ps sp := ⟨F.len, fun A outer s H args us vs Q E _ => F.run A outer s H args us vs Q E⟩
theorem okX {x qual : Str} {st : Stmt} {f : Addr} {fd : FuncData} {N ps : List Str} {k : Nat} {sp : Sp} (F : Fun K x qual st f fd) (S : FnScope N ps (defScope st)) (ln : ∀ us H Q E, sp us H Q E → us.length = ps.length)
    (body : ∀ (cdv : Value) (A : Around) (outer : List Env) (s : Shared) (H : Hp) (vs : List V) (Q : VK) (E : XK), A.guards = some [] → Room k (A.deeper (envOfC qual (defScope st) s.heap.objs.size f cdv)) → sp vs H Q E →
      ∃ t, PSs (cxOf CX P w K mg base N qual (defScope st) f cdv A outer s H E) (defBody st) t ∧ t { nx := fun _ H' => Q .non H', rt := Q } (start N vs) H) : FnX P w K mg base CX (k + 1) f fd ps sp := by
  obtain ⟨oc, od, kV, doc, pm, an, cdv, ct, osl, rfl, lk, hcd⟩ := F.ex
  refine ⟨ln, fun A outer s H args us vs Q E gd room env bind rel ask => ?_⟩
  have inS : K.In s.heap := env.mod.kin.keeps fun b o e => (env.bs b o e).1
  have noL : s.heap.NoLimit := env.mod.nolimit.keeps fun b o e => (env.bs b o e).1
  refine codeAny_call_function room.depth (inS _ _ lk) rfl S.co S.gen rfl (PySem.W.codeRec_of inS hcd) (bind _ _ _ _ (wpAny_newFunctionEnv_cells S.kind (fun y hy => ?_) fun env' he s1 z => ?_))
  · rcases S.par y.1 (List.of_mem_zip (a := y.1) (b := y.2) hy).1 with q | q
    · exact Or.inl q
    · exact Or.inr ⟨q, PySem.W.cellsFrom_some _ _ _ (Or.inl q)⟩
  · subst he
    obtain ⟨t, h1, h2⟩ := body cdv A outer s H vs Q E gd (room.deeper _) ask
    have J := inv_start (CX := CX) (E := E) S room.hd env (ln _ _ _ _ ask) rel z
    refine ⟨noL.keeps z.toInCall.keep, codeAny_func (wpAny_mono (h1.run [] s1 _ H _ J h2) (fun fl s' r => ?_) fun _ _ r => r)⟩
    match fl, r with
    | .ret u, r =>
      obtain ⟨v, σ', H', I, rv, q⟩ := r
      exact ⟨v, H', I.os, I.bare, I.base, I.hok, rv, q⟩
    | .next, r =>
      obtain ⟨σ', H', I, q⟩ := r
      exact ⟨.non, H', I.os, I.bare, I.base, I.hok, rfl, q⟩
    | .brk, r =>
      obtain ⟨_, _, _, q⟩ := r
      exact q.elim
    | .cont, r =>
      obtain ⟨_, _, _, q⟩ := r
      exact q.elim
end
section
variable {X : Cx} {CX : CXT} {k : Nat} {f : Addr} {fd : FuncData} {ps : List Str} {sp : Sp} {dvs : List V} {ds : List Value} {E : XK}
theorem runX {pins : List (Addr × Obj)} {σ : L2.St} {H : Hp} {s : Shared} {Q : VK} {us : List Value} {vs : List V} (F : FnX X.prog X.w X.K X.mg X.base CX k f fd ps sp) (gd : X.A.guards = some []) (room : Room k X.A) (bind : Binds X.K fd ps ds) (dv : Vals dvs ds) (pass : Passes CX X E)
    (I : Inv X pins σ H s) (rel : Vals vs us) (ask : sp (vs ++ dvs) H Q E) : wpAny (model X.prog X.w) X.A (call (.ref f) us) (EP X pins σ Q) X.xe s := by
  have r2 : Vals (vs ++ dvs) (us ++ ds) := rel.append dv
  have ll : (us ++ ds).length = ps.length := r2.length.symm.trans (F.len _ _ _ _ ask)
  refine wpAny_call (codeAny_mono (F.run X.A X.stack s H ⟨us, []⟩ _ _ Q E gd room I.env0 (bind s us I.kIn ll) r2 ask) fun r s' z => ?_)
  match r, z with
  | .error e, z => exact pass pins σ H s e s' I z
  | .ok (.ret u), z => exact I.after z
  | .ok .next, z => exact z.elim
  | .ok .brk, z => exact z.elim
  | .ok .cont, z => exact z.elim
/-- f(..) where nothing is being shown -/
theorem pe_callX {x : Str} {p pos : Pos} {e : Expr} {es : List Expr} {t : TA} (F : FnX X.prog X.w X.K X.mg X.base CX k f fd ps sp) (gd : X.A.guards = some []) (room : Room k X.A) (gl : Gl X x) (at_ : X.mg x = some (.ref f)) (kp : PySem.W.keepIn X.K (.ref f) = true) (bind : Binds X.K fd ps ds) (dv : Vals dvs ds) (pass : Passes CX X E)
    (ha : PA X (e :: es) t) (hdb : (x == ("__debug__" : Str)) = false := by decide) (he : starEach (e :: es) X.env = (false, eval e X.env) :: starEach es X.env := by rfl) (hpl : (backTo pos (starEach es X.env)).any (·.1) = false := by rfl) :
    PE X (.Call (.Name x p) (e :: es) [] pos) (tCall sp dvs E t) :=
  ⟨fun pins s σ H Q I h => wpAny_Call_Name_kw (ld_glob I gl at_ (PySem.W.callWith_K (h₀ := X.base) I.ok.mod.kin kp (thn (ha.run pos pins s σ H _ I h) fun us s1 ⟨vs, H1, I1, r, q⟩ => ⟨I1.kIn, runX F gd room bind dv pass I1 r q⟩) he hpl) hdb)⟩
end
end Gx2
namespace Rk
open PySem PySem.Spec PyProof.Rows L2 Nw Ev1 Gx2
/-! ### a call of a value that an expression tells; a caught error kept as a value; count of truths -/
theorem takes0 {X : Cx} : Takes X (fun _ _ _ _ => False) := fun _ _ x => by
  obtain ⟨_, _, _, _, _, _, _, _, _, _, _, _, _, _, _, _, z⟩ := x
  exact z.elim
section
variable {X : Cx} {CX : CXT} {k : Nat} {f : Addr} {fd : FuncData} {ps : List Str} {sp : Sp} {E : L2.St → XK}
theorem runS {pins : List (Addr × Obj)} {σ : L2.St} {H : Hp} {s : Shared} {Q : VK} {us : List Value} {vs : List V} (F : FnX X.prog X.w X.K X.mg X.base CX k f fd ps sp) (gd : X.A.guards = some []) (room : Room k X.A) (bind : Binds X.K fd ps []) (pass : PassesAt CX X σ (E σ))
    (I : Inv X pins σ H s) (rel : Vals vs us) (ask : sp vs H Q (E σ)) : wpAny (model X.prog X.w) X.A (call (.ref f) us) (EP X pins σ Q) X.xe s := by
  have ll : us.length = ps.length := rel.length.symm.trans (F.len _ _ _ _ ask)
  have b := bind s us I.kIn (by rw [List.append_nil]; exact ll)
  rw [List.append_nil] at b
  refine wpAny_call (codeAny_mono (F.run X.A X.stack s H ⟨us, []⟩ us vs Q (E σ) gd room I.env0 b rel ask) fun r s' z => ?_)
  match r, z with
  | .error e, z => exact pass pins H s e s' I z
  | .ok (.ret u), z => exact I.after z
  | .ok .next, z => exact z.elim
  | .ok .brk, z => exact z.elim
  | .ok .cont, z => exact z.elim
/-- g(e, ..), g an expression that tells the def f -/
def tCallV (f : Addr) (tf : TE) (sp : Sp) (E : L2.St → XK) (t : TA) : TE := fun σ H Q => tf σ H fun v H1 => v = .ref f ∧ t σ H1 fun vs H2 => sp vs H2 Q (E σ)
theorem pe_callV {fe e : Expr} {es : List Expr} {tf : TE} {t : TA} {pos : Pos} (F : FnX X.prog X.w X.K X.mg X.base CX k f fd ps sp) (gd : X.A.guards = some []) (room : Room k X.A) (kp : PySem.W.keepIn X.K (.ref f) = true) (bind : Binds X.K fd ps []) (pass : ∀ σ, PassesAt CX X σ (E σ)) (hf : PE X fe tf)
    (ha : PA X (e :: es) t) (hc : eval (.Call fe (e :: es) [] pos) X.env = (do callWith pos (← eval fe X.env) [] (backTo pos (starEach (e :: es) X.env)) (backToKw pos (keywordEach [] X.env))) := by rfl)
    (he : starEach (e :: es) X.env = (false, eval e X.env) :: starEach es X.env := by rfl) (hpl : (backTo pos (starEach es X.env)).any (·.1) = false := by rfl) :
    PE X (.Call fe (e :: es) [] pos) (tCallV f tf sp E t) := by
  refine ⟨fun pins s σ H Q I h => ?_⟩
  rw [hc]
  refine wpAny_bind (thn (hf.run pins s σ H _ I h) fun u s1 ⟨v, H1, I1, r1, e1, q1⟩ => ?_)
  subst e1
  cases r1
  exact PySem.W.callWith_K (h₀ := X.base) I1.ok.mod.kin kp (thn (ha.run pos pins s1 σ H1 _ I1 q1) fun us s2 ⟨vs, H2, I2, r, q⟩ => ⟨I2.kIn, runS F gd room bind (pass σ) I2 r q⟩) he hpl
end
section
variable {X : Cx} {pins : List (Addr × Obj)} {σ : L2.St} {H : Hp} {s : Shared} {a : Addr} {oe : Obj} {cls : Value} {d : Option Addr}
/-- an exception that stands in the heap comes to be known -/
theorem track {vs : Array Value} (I : Inv X pins σ H s) (ha : s.heap.get? a = some oe) (hz : Zc cls d oe) (hd : oe.data = .fields vs) (na : H a = none) (nL : a ≠ X.env.locals) (n0 : X.s_0.heap.get? a = none) (np : ∀ p ∈ X.pn ++ pins, p.1 ≠ a) :
    Inv X pins σ (upd H a (ExV cls d a)) s := by
  have new : ObjOk X.prog X.w (upd H a (ExV cls d a)) s.heap a (ExV cls d a) := ⟨⟨oe, vs, ha, hz, hd⟩, ⟨oe, ha⟩, fun h1 h2 ⟨o, v, y, r⟩ i => ⟨o, v, i o y, r⟩⟩
  have b := I.base
  refine ⟨I.ok, I.os, I.bare, ⟨b.keep, b.slot, fun x o e n m => ?_, b.there, fun x xs e => ?_, fun x o u e => ?_, fun x ps e => ?_⟩, I.loc, I.cell, ?_, fun x c e => ?_, fun p hp => ?_, I.hok.laidN (fun _ _ z => z) na new, I.len⟩
  · rw [upd_ne (fun z => by rw [z, n0] at e; cases e)]
    exact b.free x o e n m
  · rw [upd_ne (ne_of_none (b.tups x xs e) na)]
    exact b.tups x xs e
  · rw [upd_ne (ne_of_none (b.frzs x o u e) na)]
    exact b.frzs x o u e
  · obtain ⟨more, z⟩ := b.tbls x ps e
    exact ⟨more, by rw [upd_ne (ne_of_none z na)]; exact z⟩
  · rw [upd_ne (Ne.symm nL)]
    exact I.free
  · obtain ⟨w, z⟩ := I.cell x c e
    rw [upd_ne (fun y => ?_)]
    · exact I.freeC x c e
    · rw [y] at z
      obtain ⟨o, z1, z2⟩ := z
      rw [ha] at z1
      cases z1
      simp_all
  · obtain ⟨e, n, ne, nf, c⟩ := I.pin p hp
    exact ⟨e, by rw [upd_ne (np p hp)]; exact n, ne, nf, c⟩
end
/-- what «except x as n: suite» wishes of an exception of the body, where the suite ends and the exception is known behind it -/
def wKeep (K : PySem.W.Frag) (c : Value) (i : Nat) (ts : Addr → Value → Option Addr → TS) (Wout : WX) (D : Ends) : WX := fun cls d σ H =>
  ∃ b, PySem.W.exmOne K cls c = some b ∧ (b = true → ∀ a, H a = none → ts a cls d { nx := fun σ' H' => H' a = none → D.nx (σ'.set i none) (upd H' a (ExV cls d a)), rt := fun _ _ => False, bk := fun _ _ => False, ct := fun _ _ => False } (σ.set i (some (.ref a))) H) ∧
    (b = false → Wout cls d σ H)
section
variable {X : Cx} {x n : Str} {c : Value} {i : Nat} {body suite : List Stmt} {b₀ : Stmt} {np pos pos' : Pos} {tb : WX → TS} {ts : Addr → Value → Option Addr → TS} {Wout : WX}
theorem ps_try_keep (hs : X.stack = X.env :: X.outer) (hf : X.env.frame = some X.env.locals) (hex : X.ex = []) (hN : X.N.Nodup) (hi : X.N[i]? = some n) (hln : X.env.kindOf n = some .local) (hc : Names X x c) (tk : Takes X Wout)
    (hb : ∀ (W : WX) (pn : List (Addr × Obj)) (xe : Value → Shared → Prop), Takes (X.tr pn xe) W → PassesOwn (model X.prog X.w) X.A X.env xe → PSs (X.tr pn xe) body (tb W))
    (hsu : ∀ (a : Addr) (oe : Obj) (cls : Value) (d : Option Addr) (pn : List (Addr × Obj)), Zc cls d oe → (∃ vs, oe.data = .fields vs) → PSs (X.suite a ((a, oe) :: pn)) (b₀ :: suite) (ts a cls d)) :
    PS X (.Try body [.ExceptHandler (some (.Name x np)) (some n) (b₀ :: suite) pos'] [] [] pos) (fun D σ H => tb (wKeep X.K c i ts Wout D) D σ H) := by
  refine ⟨fun pins s σ H D I h => ?_⟩
  have ok := I.ok
  have hfr : X.A.frames = some (X.env :: X.outer) := by rw [ok.frames, hs]
  have hloc : Loc X.env.scope n := .inl hln
  refine wpAny_Try_except ?_
  refine wpAny_mono ((hb (wKeep X.K c i ts Wout D) (X.pn ++ pins) (fun e s₁ => wpAny (model X.prog X.w) X.A (noteFrame e X.env) (fun _ s₂ => wpAny (model X.prog X.w) X.A (setFlight e none) (fun _ s₃ =>
    wpAny (model X.prog X.w) X.A (handleBy e X.env [.ExceptHandler (some (.Name x np)) (some n) (b₀ :: suite) pos']) (SP X pins D) X.xe s₃) X.xe s₂) X.xe s₁) (fun u s' xx => ?_) PassesOwn.looking).run [] s σ H D (I.toTry _) h) (fun f s1 hsp => ?_) (fun e s1 he => he)
  · obtain ⟨a, B, sI, pins', σ', H', cls, d, rfl, J', nb, up, sky, na, os, ag, b, hb1, hyes, hno⟩ := xx
    have J : Inv X pins σ' H' sI := J'.ofTry ok
    have sky' : Sky B (X.env :: X.outer) a (Zc cls d) X.env.locals s'.heap := by rw [← hs]; exact sky
    have Ba : B.get? a = none := by
      rcases sky with z | z | z
      · exact z.2.1
      · exact z.2.1
      · exact z.2.1
    show wpAny (model X.prog X.w) X.A (noteFrame (.ref a) X.env) _ _ _
    refine Sky.land Zc.steady hfr hf sky' fun h3 fl3 up3 => ?_
    have J3 : Inv X pins σ' H' { s' with heap := h3 } := J.landed nb fl3.1 (up.trans up3) os ag
    obtain ⟨oe3, vs3, he3, hz3, hd3⟩ := fl3.there
    have notFr : ∀ {h : Heap} {o : Obj} {vs : Array Value}, h.FunFrames B (X.env :: X.outer) → h.get? a = some o → o.data = .fields vs → a ∉ frs (X.env :: X.outer) := fun {h o vs} ff e dd hm => by
      obtain ⟨_, o', e', hnf⟩ := ff.mem hm
      rw [e] at e'; cases e'
      exact hnf _ dd
    have nfr := notFr fl3.2.2.1 he3 hd3
    have nL : a ≠ X.env.locals := fun z => nfr (List.mem_filterMap.mpr ⟨X.env, List.mem_cons_self, by rw [hf, z]⟩)
    have nF : a ∉ X.fs := fun hm => by
      obtain ⟨e, he, q⟩ := List.mem_filterMap.mp hm
      exact nfr (List.mem_filterMap.mpr ⟨e, List.mem_cons_of_mem _ he, q⟩)
    have n0 : X.s_0.heap.get? a = none := by
      cases z : X.s_0.heap.get? a with
      | none => rfl
      | some o =>
        obtain ⟨o', z2⟩ := J.base.there a o z (by rw [hex]; simp)
        rw [nb a o' z2 (by show a ∉ frs X.stack; rw [hs]; exact nfr)] at Ba
        cases Ba
    have npin : ∀ p ∈ X.pn ++ pins, p.1 ≠ a := fun p hp z => by
      have y := (J.pin p hp).1
      rw [z] at y
      rw [nb a _ y (by show a ∉ frs X.stack; rw [hs]; exact nfr)] at Ba
      cases Ba
    have S3 := J3.suite he3 hd3 na nL nF
    refine wpAny_handleBy_cons (codeAny_handlers_test ?_) (by intro q; cases q)
    have LT : PySem.W.Looks (model X.prog X.w) h3 (typeOf (.ref a)) cls := fun A Q E s k q => wpAny_typeOf_ref (k _ _ he3) (by rw [hz3.1]; exact q)
    have LM := PySem.W.exm_one (M := model X.prog X.w) (J3.kIn) LT hb1
    have test : ∀ {Q : Value → Shared → Prop} {E : Value → Shared → Prop}, Q c { s' with heap := h3 } → wpAny (model X.prog X.w) (X.A.mark (some (.ref a))) (eval (.Name x np) X.env) Q E { s' with heap := h3 } := fun {Q E} q => by
      obtain ⟨hg, hdbg, hm | ⟨hm, hv, hnn⟩⟩ := hc
      · exact ld_glob (X := X.suite a ((a, oe3) :: (X.pn ++ pins))) S3 hg hm q hdbg
      · exact ld_blt (X := X.suite a ((a, oe3) :: (X.pn ++ pins))) S3 hg hm hv q hnn hdbg
    refine test (LM.here ?_)
    cases b with
    | true =>
      refine codeAny_handlers_suite_as ?_
      refine HandSPX.lands_againZ fl3 fun h4 fl4 up4 => ?_
      have J4 : Inv X pins σ' H' { s' with heap := h4 } := J.landed nb fl4.1 ((up.trans up3).trans up4) os ag
      obtain ⟨oe4, vs4, he4, hz4, hd4⟩ := fl4.there
      have S4 := J4.suite he4 hd4 na nL nF
      refine store_ok (X := X.suite a ((a, oe4) :: (X.pn ++ pins))) (v := .ref a) S4 hN hi hloc rfl (fun s5 S5 => ?_) (.inr hln)
      refine wpAny_mono ((hsu a oe4 cls d (X.pn ++ pins) hz4 ⟨_, hd4⟩).run [] s5 _ H' _ S5 (hyes rfl a na)) (fun f s6 hsp => ?_) (fun _ _ z => False.elim z)
      cases f with
      | next =>
        obtain ⟨σ6, H6, S6, q6⟩ := hsp
        obtain ⟨p1, p2, _⟩ := S6.pin (a, oe4) (List.mem_append_left _ List.mem_cons_self)
        have J6 : Inv X pins σ6 H6 s6 := S6.unsuite ok
        have J7 : Inv X pins σ6 (upd H6 a (ExV cls d a)) s6 := track J6 p1 hz4 hd4 p2 nL n0 npin
        exact gone_ok J7 hN hi hln fun s7 J8 => ⟨_, _, J8, q6 p2⟩
      | brk =>
        obtain ⟨σ6, H6, S6, q6⟩ := hsp
        exact q6.elim
      | cont =>
        obtain ⟨σ6, H6, S6, q6⟩ := hsp
        exact q6.elim
      | ret u =>
        obtain ⟨v6, σ6, H6, S6, r6, q6⟩ := hsp
        exact q6.elim
    | false =>
      show wpAny _ X.A (handleBy (.ref a) X.env []) _ _ _
      refine wpAny_handleBy_nil ?_
      obtain ⟨k1, k2, k3, oe, vs, T, oT, ts', he, hz, hd, h1, hr⟩ := id fl3
      unfold PySem.passOn
      refine wpAny_bind (wpAny_field he hd h1 ?_)
      rw [if_neg (show ¬ ((Value.ref T == Value.none) = true) from by simp)]
      have fin : wpAny (model X.prog X.w) X.A (setFlight (.ref a) X.env.frame) (fun _ s4 => wpAny (model X.prog X.w) X.A (throw (.ref a) : Sem Flow) (SP X pins D) X.xe s4) X.xe { s' with heap := h3 } := by
        rw [hf]
        refine HandSPX.setFlight_upZ fl3 fun h4 hh4 up4 => wpAny_throw (tk _ _ ?_)
        exact ⟨a, B, sI, pins, σ', H', cls, d, rfl, J, nb, (up.trans up3).trans up4, .inr (.inr (by rw [hs]; exact hh4)), na, os, ag, hno rfl⟩
      first
        | exact wpAny_bind (wpAny_pure (wpAny_bind fin))
        | exact wpAny_bind fin
  · cases f with
    | next =>
      obtain ⟨σ', H', J', q⟩ := hsp
      exact wpAny_execs_nil ⟨σ', H', J'.ofTry ok, q⟩
    | brk =>
      obtain ⟨σ', H', J', q⟩ := hsp
      exact ⟨σ', H', J'.ofTry ok, q⟩
    | cont =>
      obtain ⟨σ', H', J', q⟩ := hsp
      exact ⟨σ', H', J'.ofTry ok, q⟩
    | ret u =>
      obtain ⟨v, σ', H', J', r, q⟩ := hsp
      exact ⟨v, σ', H', J'.ofTry ok, r, q⟩
end
/-- at a a caught exception of the class D -/
def ExW (H : Hp) (a D : Addr) : Prop := H a = some (ExV (.ref D) none a) ∨ ∃ y, ExF H a D y
theorem ExW.same {H H' : Hp} {a D : Addr} (h : ExW H a D) (s : Same H H') : ExW H' a D := by
  rcases h with h | ⟨y, h⟩
  · exact .inl (s _ _ h)
  · exact .inr ⟨y, h.same s⟩
theorem ExW.inst {X : Cx} {pins : List (Addr × Obj)} {σ : L2.St} {H : Hp} {s : Shared} {a D : Addr} (I : Inv X pins σ H s) (h : ExW H a D) : ∃ ox od, PySem.W.InstAt s.heap a ox D od := by
  rcases h with h | ⟨y, h⟩
  · have z1 : ObjOk X.prog X.w H s.heap a (.ext fun h => ∃ (oe : Obj) (vs : Array Value), h.get? a = some oe ∧ Zc (.ref D) none oe ∧ oe.data = .fields vs) := I.hok a _ h
    obtain ⟨⟨oe, vs, ha, ⟨hc, hd⟩, hv⟩, _⟩ := z1
    exact ⟨oe, none, ⟨ha, hc, notCls_of hv, by rw [hd]; exact trivial⟩⟩
  · obtain ⟨ox, od, _, J, _⟩ := h.inst I
    exact ⟨ox, some od, J⟩
/-- isinstance(e, c) of a caught exception -/
def rIsW (K : PySem.W.Frag) : List V → Hp → VK → Prop := fun xs H Q => ∃ (a D : Addr) (c : V) (cv : Value) (b : Bool), xs = [.ref a, c] ∧ ExW H a D ∧ ExcC K D ∧ (∀ u, RelV c u → u = cv) ∧ PySem.W.kitOne K (.ref D) cv = some b ∧ Q (.bl b) H
theorem call_isW {X : Cx} : CallR X (.builtin "isinstance") (rIsW X.K) := by
  intro pins s σ H xs us Q I r h
  obtain ⟨a, D, c, cv, b, rfl, hE, C, hcv, e, q⟩ := h
  cases r with
  | cons rx rr =>
    cases rr with
    | cons rt rr =>
      cases rr
      cases rx
      have ec := hcv _ rt
      subst ec
      obtain ⟨ox, od, J⟩ := hE.inst I
      have cl : (PySem.W.clsIn X.K D).isSome = true := by
        obtain ⟨cd, hc, _⟩ := PySem.W.any_some C.hd
        rw [hc]
        rfl
      exact PySem.W.kia_one (PySem.W.kitx_exc cl C.hg C.hk C.hs C.ha C.hn C.ht C.hm) I.kIn J e (fun z => nomatch z) fun tk => ⟨.bl b, H, I.kept (t' := tk) fun _ _ z => z, rfl, q⟩
theorem count_vals {y : V} : ∀ {ys : List V} {us : List Value}, Vals ys us → ys.all flatV = true → us.countP (eqU y) = ys.countP fun z => eqV z y
  | [], _, .nil, _ => rfl
  | z :: r, u :: us, .cons r1 t, f => by
    rw [List.all_cons, Bool.and_eq_true] at f
    rw [List.countP_cons, List.countP_cons, count_vals t f.2, eqU_of r1 f.1]
/-- xs.count(y), flat items -/
def rCountV (K : PySem.W.Frag) : V → List V → Hp → VK → Prop := fun x xs H Q => ∃ (p : Addr) (ys : List V) (y : V), x = .ref p ∧ xs = [y] ∧ SqL K H p ys ∧ flatV y = true ∧ ys.all flatV = true ∧ Q (.int ((ys.countP fun z => eqV z y : Nat) : Int)) H
theorem mt_countV {X : Cx} : MtR X "list.count" (rCountV X.K) := by
  intro pins s σ H x xs v us Q I rx rxs h
  obtain ⟨p, ys, y, rfl, rfl, hs, fy, fys, q⟩ := h
  cases rx
  obtain ⟨u, rfl, ru⟩ := rxs.one
  obtain ⟨its, rv, ⟨⟨cls, dd, data, sl⟩, n, ho, hc, hdn, hd⟩, hlen⟩ := I.list hs
  simp only at hc hd
  subst hc hd
  refine call_meets PySem.F.slot_list_count ⟨_, ho, rfl⟩ PySem.F.entry_list_count (PySem.F.args_list_count_2 _ _)
    (SeqAt.list_countAt p its.toArray n dd sl u (eqU y)) ⟨ho, fun z hz => mem_eqAt ru fy rv fys z (by simpa using hz), ?_⟩
  have ec : its.toArray.toList.countP (eqU y) = ys.countP fun z => eqV z y := count_vals rv fys
  refine ⟨.int ((ys.countP fun z => eqV z y : Nat) : Int), H, I.tok _, ⟨s.toks, ?_⟩, q⟩
  show Value.int ((its.toArray.toList.countP (eqU y) : Nat) : Int) s.toks = _
  rw [ec]
end Rk
namespace Tl
open PySem PySem.Spec PyProof.Rows L2 GxR Nw Dr Kp Se Cl Ct Lr Lp Tr
structure Zv (mg : Str → Option Value) : Prop where
  z_len : mg "len" = none
  z_range : mg "range" = none
  z_tuple : mg "tuple" = none
  z_sorted : mg "sorted" = none
  z_zip : mg "zip" = none
/-- a tree and its claim -/
def TC (H : Hp) (v : V) (tc : T × List Int) : Prop := ∃ p x y, v = .ref p ∧ H p = some (.tup [x, y]) ∧ At H tc.1 x ∧ TupI H y tc.2
theorem TC.ke {F : Addr → Prop} {H H' : Hp} {v : V} {tc : T × List Int} (h : TC H v tc) (k : Ke F H H') : TC H' v tc := by
  obtain ⟨p, x, y, e, h1, h2, h3⟩ := h
  exact ⟨p, x, y, e, k.tups _ _ h1, h2.ke k, h3.ke k⟩
theorem TC.wr {H : Hp} {D : Addr} {ys : List V} {o : HO} {v : V} {tc : T × List Int} (h : TC H v tc) (hD : H D = some (.lst ys)) : TC (upd H D o) v tc := by
  obtain ⟨p, x, y, e, h1, h2, h3⟩ := h
  refine ⟨p, x, y, e, ?_, h2.wr hD, TupI.wr h3 hD⟩
  rw [upd_ne (fun z => by rw [z, hD] at h1; cases h1)]
  exact h1
/-- a list of ours is written -/
theorem keD {H H1 : Hp} {D : Addr} {xs : List V} {o : HO} (k : Ke (· = D) H H1) (h1 : H1 D = some (.lst xs)) : Ke (· = D) H (upd H1 D o) := by
  refine ⟨fun b x e t m => ?_, fun Q hQ => ?_, fun b ys e => ?_⟩
  · rw [upd_ne m]
    exact k.keep b x e t m
  · obtain ⟨qs, e2, t2⟩ := k.tabs Q hQ
    exact ⟨qs, by rw [upd_ne (fun z => by rw [z, h1] at e2; cases e2)]; exact e2, t2⟩
  · have e2 := k.tups b ys e
    rw [upd_ne (fun z => by rw [z, h1] at e2; cases e2)]
    exact e2
theorem keH {H H1 H2 : Hp} {D : Addr} (a : Ke Nof H H1) (b : Ke (· = D) H1 H2) (n : H D = none) : Ke Nof H H2 :=
  ⟨fun x o e t m => b.keep x o (a.keep x o e t m) t (fun z => by rw [z, n] at e; cases e), fun Q h => b.tabs Q (a.tabs Q h), fun x xs e => b.tups x xs (a.tups x xs e)⟩
/-- a tree as data -/
def dat : T → PyData
  | .leaf n => .tuple [.str "book", .int (n : Nat)]
  | .cut t u k => .tuple [.str "cut", dat t, dat u, .int k]
theorem dp_tree {K : PySem.W.Frag} {H : Hp} : ∀ {t : T} {v : V}, At H t v → Dp K H v (dat t)
  | .leaf n, v, h => by
    obtain ⟨a, rfl, h⟩ := h
    exact .tup (.of h) (.cons (.str _) (.cons (.int _) .nil))
  | .cut t u k, v, h => by
    obtain ⟨a, x, y, rfl, h, h1, h2⟩ := h
    exact .tup (.of h) (.cons (.str _) (.cons (dp_tree h1) (.cons (dp_tree h2) (.cons (.int _) .nil))))
theorem ltree : ∀ t : T, PyData.canLay0 (dat t) = true ∧ PyData.depth (dat t) ≤ t.depth
  | .leaf n => by
    have b1 : PyData.strOk "book" = true := by decide +kernel
    exact ⟨by simp [dat, PyData.canLay0, PyData.canLayAll0, b1], by simp [dat, PyData.depth, PyData.depthAll, T.depth]⟩
  | .cut t u k => by
    have b1 : PyData.strOk "cut" = true := by decide +kernel
    obtain ⟨h1, h2⟩ := ltree t
    obtain ⟨h3, h4⟩ := ltree u
    refine ⟨by simp [dat, PyData.canLay0, PyData.canLayAll0, b1, h1, h3], ?_⟩
    simp [dat, PyData.depth, PyData.depthAll, T.depth]
    omega
def tdat (tc : T × List Int) : PyData := .tuple [dat tc.1, .tuple (tc.2.map PyData.int)]
theorem dp_tcs {K : PySem.W.Frag} {H : Hp} : ∀ {vs : List V} {ms : List (T × List Int)}, All2 (TC H) vs ms → DpAll K H vs (ms.map tdat)
  | [], [], _ => .nil
  | [], r :: t, h => by cases h.1
  | v :: t, [], h => by cases h.1
  | v :: t, m :: u, h => by
    obtain ⟨p, x, y, rfl, hp, h1, q, rfl, hq⟩ := h.2 0 v m rfl rfl
    exact .cons (.tup (.of hp) (.cons (dp_tree h1) (.cons (.tup (.of hq) (dp_ints m.2)) .nil))) (dp_tcs ⟨by have := h.1; simp only [List.length_cons] at this; omega, fun i x y h1 h2 => h.2 (i + 1) x y h1 h2⟩)
theorem lay_tcs : ∀ ms : List (T × List Int), (∀ m ∈ ms, m.1.depth ≤ 45) → PyData.canLayAll0 (ms.map tdat) = true ∧ PyData.depthAll (ms.map tdat) ≤ 47
  | [], _ => ⟨rfl, by decide⟩
  | m :: r, h => by
    obtain ⟨h1, h2⟩ := lay_tcs r fun x hx => h x (List.mem_cons_of_mem _ hx)
    obtain ⟨h3, h4⟩ := ltree m.1
    have h5 := h m List.mem_cons_self
    have h6 : PyData.canLayAll0 (m.2.map PyData.int) = true := flat_lay _ (flat_ints m.2)
    have h7 := flat_depth _ (flat_ints m.2)
    refine ⟨?_, ?_⟩
    · show (PyData.canLay0 (tdat m) && PyData.canLayAll0 (r.map tdat)) = true
      rw [h1]
      simp [tdat, PyData.canLay0, PyData.canLayAll0, h3, h6]
    · show Nat.max (PyData.depth (tdat m)) (PyData.depthAll (r.map tdat)) ≤ 47
      refine Nat.max_le.mpr ⟨?_, h2⟩
      simp [tdat, PyData.depth, PyData.depthAll]
      omega
theorem shaped_tcs {ms : List (T × List Int)} (h : ∀ m ∈ ms, m.1.depth ≤ 45) : SeqAt.shaped (.list (ms.map tdat)) = true := by
  obtain ⟨h1, h2⟩ := lay_tcs ms h
  show (PyData.canLayAll0 (ms.map tdat) && decide (PyData.depthAll (ms.map tdat) + 1 ≤ 64)) = true
  rw [h1, decide_eq_true (by omega)]
  rfl
theorem not_f {H : Hp} {p f c : Addr} {B : Nat} (h : Frs H p) (F : Feed H f c B) : p ≠ f ∧ p ≠ c := by
  obtain ⟨_, _, _, h1, h2, _⟩ := F
  exact ⟨Ne.symm (h f _ h1 fun ps z => by cases z), Ne.symm (h c _ h2 fun ps z => by cases z)⟩
section
variable {P : Program} {w : World} {K : PySem.W.Frag} {mg : Str → Option Value} {base : Heap}
abbrev sStt : Stmt := topS 23
abbrev nStt : List Str := ["feed", "book", "deep", "number", "one", "other", "made", "first", "second", "k", "claim"]
theorem scStt : FnScope nStt ["feed", "book", "deep"] (defScope sStt) := ⟨rfl, rfl, rfl, by decide +kernel, rfl, by decide +kernel, by decide +kernel⟩
/-- a drawn tree -/
def spStt (d : Nat) : Sp := fun vs H Q _ => ∃ (f c : Addr) (b : V) (n B : Nat) (css : List (List Int)), vs = [.ref f, b, .int (n : Nat)] ∧ n < d ∧ d ≤ 10 ∧ Bk H b css ∧ (∀ c ∈ css, IsCl c) ∧ 1 ≤ css.length ∧ css.length ≤ 100 ∧ Feed H f c B ∧ B + 4 ^ (n + 1) ≤ 2 ^ 50 ∧
  ∀ (v : V) (t : T) (ct : List Int) (H' : Hp), Feed H' f c (B + 4 ^ (n + 1)) → Ke (· = f) H H' → TC H' v (t, ct) → Cl css t ct → t.depth ≤ n + 1 → t.pieces + 1 ≤ 2 ^ (n + 1) → Q v H'
theorem pow_le {a b : Nat} (h : a ≤ b) : 4 ^ a ≤ 4 ^ b ∧ 2 ^ a ≤ 2 ^ b := ⟨Nat.pow_le_pow_right (by decide) h, Nat.pow_le_pow_right (by decide) h⟩
theorem ok_stt {f fD fC : Addr} {fd fdD fdC : FuncData} (F : Fun K "_law_stree" "_law_stree" sStt f fd) (T : Zv mg) (bS : Binds K fd ["feed", "book", "deep"] []) (gS : mg "_law_stree" = some (.ref f)) (FD : Fun K "_law_sdraw" "_law_sdraw" sDrw fD fdD) (bD : Binds K fdD ["feed", "many"] []) (gD : mg "_law_sdraw" = some (.ref fD)) (GD : FnOk P w K mg base CX0 2 fD fdD ["feed", "many"] spDrw)
    (FC : Fun K "_law_scut" "_law_scut" sSct fC fdC) (bC : Binds K fdC ["one", "other", "k"] []) (gC : mg "_law_scut" = some (.ref fC)) (GC : FnOk P w K mg base CX0 1 fC fdC ["one", "other", "k"] spSct) :
    ∀ d, FnOk P w K mg base CX0 (d + 3) f fd ["feed", "book", "deep"] (spStt d) := by
  intro d
  induction d with
  | zero =>
    refine F.ok scStt (fun vs H Q E h => ?_) (fun cdv A outer s H vs Q E hr h => ?_)
    · obtain ⟨f, c, b, n, B, css, rfl, _⟩ := h
      rfl
    · obtain ⟨f, c, b, n, B, css, rfl, h0, _⟩ := h
      omega
  | succ d ih =>
    refine F.ok scStt (fun vs H Q E h => ?_) (fun cdv A outer s H vs Q E hr h => ?_)
    · obtain ⟨f, c, b, n, B, css, rfl, _⟩ := h
      rfl
    · obtain ⟨f, c, b, n, B, css, rfl, nd, d10, hb, ib, l1, l2, hF, hB, q⟩ := h
      have hr1 : Room 1 _ := hr.mono (by omega)
      have hr2 : Room 2 _ := hr.mono (by omega)
      have hrd : Room (d + 3) _ := hr
      refine ⟨_, (Evl.pss_cut (ps_if (PW.pt (pw_or (pt_cmpR op_eq (pv 2) pe_int (nomark _)) (pw_or1 (pt_cmpR op_eq (pe_call GD hr2 (by rfl) gD FD.kp bD .nil pass0 (pa_cons (pv 0) (pa_cons pe_int pa_nil))) pe_int (nomark _))))) (Evl.pss_cut (ps_set (i := 3) scStt.nd rfl (.inl rfl) (pe_call GD hr2 (by rfl) gD FD.kp bD .nil pass0 (pa_cons (pv 0) (pa_cons (pe_callB call_len_seq (by rfl) T.z_len (by decide +kernel) (pa_cons (pv 1) pa_nil)) pa_nil))))
      (pss_one (ps_ret (pe_tupN (pa_cons (pe_tupN (pa_cons pe_str (pa_cons (pv 3) pa_nil))) (pa_cons (pe_ix ix_tup (pv 1) (pv 3) (fun _ _ => rfl)) pa_nil)))))) pss_nil)
      (Evl.pss_cut (ps_set (i := 4) scStt.nd rfl (.inl rfl) (pe_call ih hrd (by rfl) gS F.kp bS .nil pass0 (pa_cons (pv 0) (pa_cons (pv 1) (pa_cons (pe_op op_sub (pv 2) pe_int) pa_nil)))))
      (Evl.pss_cut (ps_set (i := 5) scStt.nd rfl (.inl rfl) (pe_call ih hrd (by rfl) gS F.kp bS .nil pass0 (pa_cons (pv 0) (pa_cons (pv 1) (pa_cons (pe_op op_sub (pe_op op_sub (pv 2) pe_int) (pe_call GD hr2 (by rfl) gD FD.kp bD .nil pass0 (pa_cons (pv 0) (pa_cons (pv 2) pa_nil)))) pa_nil)))))
      (Evl.pss_cut (ps_set (i := 6) scStt.nd rfl (.inl rfl) (pe_lstN pa_nil))
      (Evl.pss_cut (ps_for PassesOwn.never rfl (pi_tup (pe_tupN (pa_cons (pe_tupN (pa_cons (pv 4) (pa_cons (pv 5) pa_nil))) (pa_cons (pe_tupN (pa_cons (pv 5) (pa_cons (pv 4) pa_nil))) pa_nil)))) (pg_tup rfl (pgs_cons (pg_name (i := 7) scStt.nd rfl (.inl rfl)) (pgs_cons (pg_name (i := 8) scStt.nd rfl (.inl rfl)) pgs_nil))) (pss_one (ps_for PassesOwn.never rfl (pi_range2 (by rfl) T.z_range (pa_cons pe_int (pa_cons pe_int pa_nil))) (pg_name (i := 9) scStt.nd rfl (.inl rfl)) (pss_cons (ps_set (i := 10) scStt.nd rfl (.inl rfl) (pe_call GC hr1 (by rfl) gC FC.kp bC .nil pass0 (pa_cons (pe_ix ix_tup (pv 7) pe_int (fun _ _ => rfl)) (pa_cons (pe_ix ix_tup (pv 8) pe_int (fun _ _ => rfl)) (pa_cons (pv 9) pa_nil)))))
      (pss_one (ps_if (pt_cmpR op_notN (pv 10) pe_non (nomark _)) (pss_one (ps_expr (pe_bm PySem.F.plainAttrs_list PySem.F.slot_list_append PySem.F.type_list_append mt_append (pv 6) (pa_cons (pe_tupN (pa_cons (pe_tupN (pa_cons pe_str (pa_cons (pe_ix ix_tup (pv 7) pe_int (fun _ _ => rfl)) (pa_cons (pe_ix ix_tup (pv 8) pe_int (fun _ _ => rfl)) (pa_cons (pv 9) pa_nil))))) (pa_cons (pv 10) pa_nil))) pa_nil)))) pss_nil))))))
      (pss_cons (ps_if (pt_cmpR (op_eqD hr.units) (pv 6) (pe_lstN pa_nil) (nomark _)) (pss_one (ps_ret (pe_ix ix_list (pe_lstN (pa_cons (pv 4) (pa_cons (pv 5) pa_nil))) (pe_call GD hr2 (by rfl) gD FD.kp bD .nil pass0 (pa_cons (pv 0) (pa_cons pe_int pa_nil))) (fun _ _ => rfl)))) pss_nil)
      (pss_one (ps_ret (pe_ix ix_list (pv 6) (pe_call GD hr2 (by rfl) gD FD.kp bD .nil pass0 (pa_cons (pv 0) (pa_cons (pe_callB call_len_seq (by rfl) T.z_len (by decide +kernel) (pa_cons (pv 6) pa_nil)) pa_nil))) (fun _ _ => rfl)))))))))), ?_⟩
      obtain ⟨ba, bvs, rfl, hbt, aB⟩ := bk_all hb
      have lb := aB.1
      have n10 : n ≤ 9 := by omega
      have p4 := (pow_le (show n + 1 ≤ 10 by omega)).1
      have big : 4 ^ (n + 1) ≤ 1048576 := p4
      refine Evl.q_cut (M := fun σ' H' => σ' = [some (.ref f), some (.ref ba), some (.int (n : Nat)), none, none, none, none, none, none, none, none] ∧ 1 ≤ n ∧ Feed H' f c (B + 1) ∧ Ke (· = f) H H') ?_ ?_
      · have fin : ∀ (H1 : Hp) (B1 : Nat), Feed H1 f c B1 → B1 ≤ B + 1 → B1 + 1 ≤ B + 4 ^ (n + 1) → Ke (· = f) H H1 → Evl.tCut (tAsg (tCall spDrw [] E0 (tCons (tVar 0) (tCons (tCB (fun xs H Q => ∃ p ys, xs = [V.ref p] ∧ (SqL K H p ys ∨ SqT K H p ys) ∧ Q (V.int (ys.length : Nat)) H) (tCons (tVar 1) tNil)) tNil))) (gName 3)) (tRet (nTup (tCons (nTup (tCons (tC (V.str "book")) (tCons (tVar 3) tNil))) (tCons (tOp (rIxT K) (tVar 1) (tVar 3)) tNil)))) { nx := fun σ' H' => σ' = [some (.ref f), some (.ref ba), some (.int (n : Nat)), none, none, none, none, none, none, none, none] ∧ 1 ≤ n ∧ Feed H' f c (B + 1) ∧ Ke (· = f) H H', rt := Q } [some (.ref f), some (.ref ba), some (.int (n : Nat)), none, none, none, none, none, none, none, none] H1 := fun H1 B1 F1 b1 b2 k1 => by
          refine Evl.q_cut (M := fun σ' H' => ∃ m : Nat, σ' = [some (.ref f), some (.ref ba), some (.int (n : Nat)), some (.int (m : Nat)), none, none, none, none, none, none, none] ∧ m < css.length ∧ Feed H' f c (B1 + 1) ∧ Ke (· = f) H H') ?_ ?_
          · refine ⟨_, rfl, _, rfl, ba, _, rfl, .inr (.of (k1.tups _ _ hbt)), f, c, _, _, rfl, by omega, by omega, F1, by omega, fun d H2 d0 d1 F2 b2 => ?_⟩
            refine ⟨d.toNat, ?_, by omega, F2, k1.trans (.but F1 b2)⟩
            rw [Int.toNat_of_nonneg d0]
            rfl
          rintro σ' H2 ⟨m, rfl, lm, F2, k2⟩
          refine ⟨_, rfl, by show 2 ≤ sizeLine; decide, fun p1 H3 np1 s3 hp1 _ => ?_⟩
          have lmb : m < bvs.length := by omega
          obtain ⟨cm, hcm, p, e, hp⟩ := aB.at (List.getElem?_eq_getElem lmb)
          have k3 : Ke (· = f) H H3 := k2.trans (.same s3)
          refine ⟨_, rfl, _, rfl, ba, bvs, _, bvs[m], rfl, rfl, .of (k3.tups _ _ hbt), at_of (j := m) rfl (List.getElem?_eq_getElem lmb), ?_⟩
          refine ⟨by show 2 ≤ sizeLine; decide, fun p2 H4 np2 s4 hp2 _ => ?_⟩
          have k4 : Ke (· = f) H H4 := k3.trans (.same s4)
          refine q (.ref p2) (.leaf m) cm H4 ((F2.same (s3.trans s4)).mono (by omega)) k4 ⟨p2, _, _, rfl, hp2, ⟨p1, rfl, s4 _ _ hp1⟩, ?_⟩ hcm (by show 1 ≤ n + 1; omega) ?_
          · rw [e]
            exact ⟨p, rfl, k4.tups _ _ hp⟩
          · have := (pow_le (show 1 ≤ n + 1 by omega)).2
            show 1 + 1 ≤ _
            omega
        have f4 := (pow_le (show 1 ≤ n + 1 by omega)).1
        refine ⟨_, rfl, rfl, _, rfl, ite2 (fun y => ?_) (fun y => ?_)⟩
        · exact fin H B hF (by omega) (by omega) (.refl _ _)
        · have n1 : 1 ≤ n := by
            by_cases z : n = 0
            · subst z
              exact absurd (decide_eq_true rfl) y
            · omega
          have f5 := (pow_le (show 2 ≤ n + 1 by omega)).1
          refine ⟨_, rfl, f, c, 6, _, rfl, by decide, by decide, hF, by omega, fun d H1 d0 d1 F1 b1 => ⟨rfl, _, rfl, ite2 (fun y => ?_) (fun y => ?_)⟩⟩
          · exact fin H1 (B + 1) F1 (by omega) (by omega) (.but hF b1)
          · exact ⟨rfl, n1, F1, .but hF b1⟩
      rintro σ' H1 ⟨rfl, n1, F1, k1⟩
      obtain ⟨n', rfl⟩ : ∃ n', n = n' + 1 := ⟨n - 1, by omega⟩
      have e4 : 4 ^ (n' + 1 + 1) = 4 * 4 ^ (n' + 1) := by rw [Nat.pow_succ]; omega
      have e2 : 2 ^ (n' + 1 + 1) = 2 * 2 ^ (n' + 1) := by rw [Nat.pow_succ]; omega
      have f4 := (pow_le (show 1 ≤ n' + 1 by omega)).1
      -- one
      refine Evl.q_cut (M := fun σ' H' => ∃ (v1 : V) (t1 : Tr.T) (c1 : List Int), σ' = [some (.ref f), some (.ref ba), some (.int ((n' + 1 : Nat) : Int)), none, some v1, none, none, none, none, none, none] ∧ Feed H' f c (B + 1 + 4 ^ (n' + 1)) ∧ Ke (· = f) H H' ∧ TC H' v1 (t1, c1) ∧ Tr.Cl css t1 c1 ∧ t1.depth ≤ n' + 1 ∧ t1.pieces + 1 ≤ 2 ^ (n' + 1)) ?_ ?_
      · refine ⟨_, rfl, _, rfl, _, rfl, _, _, rfl, rfl, f, c, .ref ba, n', _, css, ?_, by omega, by omega, hb.ke k1, ib, l1, l2, F1, by omega, fun v t ct H2 F2 k2 tc cl dp pc => ?_⟩
        · show [V.ref f, V.ref ba, V.int (((n' + 1 : Nat) : Int) - 1)] = _
          rw [show ((n' + 1 : Nat) : Int) - 1 = (n' : Int) by omega]
        · exact ⟨v, t, ct, rfl, F2, k1.trans k2, tc, cl, dp, pc⟩
      rintro σ' H2 ⟨v1, t1, c1, rfl, F2, k2, tc1, cl1, dp1, pc1⟩
      -- other
      refine Evl.q_cut (M := fun σ' H' => ∃ (v2 : V) (t2 : Tr.T) (c2 : List Int), σ' = [some (.ref f), some (.ref ba), some (.int ((n' + 1 : Nat) : Int)), none, some v1, some v2, none, none, none, none, none] ∧ Feed H' f c (B + 2 + 4 ^ (n' + 1) + 4 ^ (n' + 1)) ∧ Ke (· = f) H H' ∧ TC H' v1 (t1, c1) ∧ TC H' v2 (t2, c2) ∧ Tr.Cl css t2 c2 ∧ t2.depth ≤ n' + 1 ∧ t2.pieces + 1 ≤ 2 ^ (n' + 1)) ?_ ?_
      · refine ⟨_, rfl, _, rfl, _, rfl, _, _, rfl, rfl, _, rfl, _, rfl, f, c, _, _, rfl, by omega, by omega, F2, by omega, fun d H3 d0 d1 F3 b3 => ?_⟩
        have k3 : Ke (· = f) H2 H3 := .but F2 b3
        have k03 := k2.trans k3
        have d1 : d < ((n' + 1 : Nat) : Int) := d1
        have g := pow_le (show n' - d.toNat + 1 ≤ n' + 1 by omega)
        refine ⟨_, _, rfl, rfl, f, c, .ref ba, n' - d.toNat, _, css, ?_, by omega, by omega, hb.ke k03, ib, l1, l2, F3, by omega, fun v t ct H4 F4 k4 tc cl dp pc => ?_⟩
        · show [V.ref f, V.ref ba, V.int (((n' + 1 : Nat) : Int) - 1 - d)] = _
          rw [show ((n' + 1 : Nat) : Int) - 1 - d = ((n' - d.toNat : Nat) : Int) by omega]
        · exact ⟨v, t, ct, rfl, F4.mono (by omega), k03.trans k4, (tc1.ke k3).ke k4, tc, cl, by omega, by omega⟩
      clear tc1
      rintro σ' H3 ⟨v2, t2, c2, rfl, F3, k3, tc1, tc2, cl2, dp2, pc2⟩
      have i1 := cl1.isCl ib
      have i2 := cl2.isCl ib
      have z1 := i1.len
      have z2 := i2.len
      -- made
      refine Evl.q_cut (M := fun σ' H' => ∃ D : Addr, σ' = [some (.ref f), some (.ref ba), some (.int ((n' + 1 : Nat) : Int)), none, some v1, some v2, some (.ref D), none, none, none, none] ∧ H3 D = none ∧ Same H3 H' ∧ H' D = some (.lst [])) ?_ ?_
      · exact ⟨Nat.zero_le _, fun D H4 nD s4 hD _ => ⟨D, rfl, nD, s4, hD⟩⟩
      rintro σ' H4 ⟨D, rfl, nD, s4, hD⟩
      have nDf : D ≠ f := F3.nf nD
      let okM : Tr.T × List Int → Prop := fun m => Tr.Cl css m.1 m.2 ∧ m.1.depth ≤ n' + 2 ∧ m.1.pieces + 1 ≤ 2 ^ (n' + 1 + 1)
      refine Evl.q_cut (M := fun σ' H' => ∃ (y7 y8 y9 y10 : Option V) (vs : List V) (ms : List (Tr.T × List Int)), σ' = [some (.ref f), some (.ref ba), some (.int ((n' + 1 : Nat) : Int)), none, some v1, some v2, some (.ref D), y7, y8, y9, y10] ∧ Ke Nof H3 H' ∧ H' D = some (.lst vs) ∧ All2 (TC H') vs ms ∧ ms.length ≤ 16 ∧ ∀ m ∈ ms, okM m) ?_ ?_
      · refine ⟨_, rfl, _, rfl, by show 2 ≤ sizeLine; decide, fun p1 H5 np1 s5 hp1 _ => ?_⟩
        refine ⟨_, rfl, _, rfl, by show 2 ≤ sizeLine; decide, fun p2 H6 np2 s6 hp2 _ => ?_⟩
        refine ⟨by show 2 ≤ sizeLine; decide, fun p3 H7 np3 s7 hp3 _ => ?_⟩
        have k37 : Ke Nof H3 H7 := .same (s4.trans (s5.trans (s6.trans s7)))
        have hD7 : H7 D = some (.lst []) := s7 _ _ (s6 _ _ (s5 _ _ hD))
        have pair : ∀ (m : Nat) (x : V), [V.ref p1, V.ref p2][m]? = some x → ∃ (p : Addr) (va vb : V) (ta tb : Tr.T) (ca cb : List Int), x = .ref p ∧ H7 p = some (.tup [va, vb]) ∧ TC H7 va (ta, ca) ∧ TC H7 vb (tb, cb) ∧ Tr.Cl css ta ca ∧ Tr.Cl css tb cb ∧ ta.depth ≤ n' + 1 ∧ tb.depth ≤ n' + 1 ∧ ta.pieces + 1 ≤ 2 ^ (n' + 1) ∧ tb.pieces + 1 ≤ 2 ^ (n' + 1) ∧ ca.length ≤ 20 ∧ cb.length ≤ 20 := fun m x hx => by
          have hm := List.mem_of_getElem? hx
          simp only [List.mem_cons, List.not_mem_nil, or_false] at hm
          rcases hm with rfl | rfl
          · exact ⟨p1, v1, v2, t1, t2, c1, c2, rfl, s7 _ _ (s6 _ _ hp1), tc1.ke k37, tc2.ke k37, cl1, cl2, dp1, dp2, pc1, pc2, by omega, by omega⟩
          · exact ⟨p2, v2, v1, t2, t1, c2, c1, rfl, s7 _ _ hp2, tc2.ke k37, tc1.ke k37, cl2, cl1, dp2, dp1, pc2, pc1, by omega, by omega⟩
        refine ⟨p3, rfl, ⟨_, .of hp3⟩, for_tup (K := K) (a := p3) (xs := [V.ref p1, V.ref p2]) (Pv := fun m σ H' => ∃ (y7 y8 y9 y10 : Option V) (vs : List V) (ms : List (Tr.T × List Int)), σ = [some (.ref f), some (.ref ba), some (.int ((n' + 1 : Nat) : Int)), none, some v1, some v2, some (.ref D), y7, y8, y9, y10] ∧ Ke (· = D) H7 H' ∧ H' D = some (.lst vs) ∧ All2 (TC H') vs ms ∧ ms.length ≤ 8 * m ∧ ∀ m ∈ ms, okM m) ?_ (fun m σ H' _ z => ?_) ?_ ?_⟩
        · exact ⟨none, none, none, none, [], [], rfl, .refl _ _, hD7, .nil, Nat.le_refl _, fun m h => nomatch h⟩
        · obtain ⟨_, _, _, _, _, _, _, kt, _⟩ := z
          exact .of (kt.tups _ _ hp3)
        · rintro m x σ J1 hx ⟨y7, y8, y9, y10, vs, ms, rfl, kt, hDj, am, lm, okm⟩
          have m2 : m < 2 := (List.getElem?_eq_some_iff.mp hx).1
          obtain ⟨p, va, vb, ta, tb, ca, cb, rfl, hp, tca, tcb, cla, clb, da, db, pa', pb', la, lb'⟩ := pair m x hx
          refine ⟨p, _, rfl, .of (kt.tups _ _ hp), rfl, _, _, rfl, _, _, rfl, rfl, ?_⟩
          refine ⟨1, 9, rfl, ⟨by decide, by decide, by decide, by decide⟩, for_range (Pv := fun k σ H' => ∃ (y9 y10 : Option V) (vs : List V) (ms : List (Tr.T × List Int)), σ = [some (.ref f), some (.ref ba), some (.int ((n' + 1 : Nat) : Int)), none, some v1, some v2, some (.ref D), some va, some vb, y9, y10] ∧ Ke (· = D) H7 H' ∧ H' D = some (.lst vs) ∧ All2 (TC H') vs ms ∧ ms.length ≤ 8 * m + k ∧ ∀ m ∈ ms, okM m) ?_ ?_ ?_⟩
          · exact ⟨y9, y10, vs, ms, rfl, kt, hDj, am, by omega, okm⟩
          · clear hDj am lm okm kt
            clear y9 y10 vs ms
            rintro k σ J2 hk ⟨y9, y10, vs, ms, rfl, kt, hDj, am, lm, okm⟩
            have hk : k < 8 := hk
            obtain ⟨pa1, xa, ya, rfl, hpa, hxa, hya⟩ := tca.ke kt
            obtain ⟨pb1, xb, yb, rfl, hpb, hxb, hyb⟩ := tcb.ke kt
            have hxa : At J2 ta xa := hxa
            have hxb : At J2 tb xb := hxb
            have hya : TupI J2 ya ca := hya
            have hyb : TupI J2 yb cb := hyb
            have lv := am.1
            refine ⟨_, rfl, pa1, _, 1, ya, rfl, rfl, .of hpa, rfl, _, rfl, pb1, _, 1, yb, rfl, rfl, .of hpb, rfl, _, rfl, ya, yb, _, ca, cb, rfl, hya, hyb, la, lb', fun J3 s3 no => ?_, fun ns pn J3 s3 a1 a2 a3 a4 up me hpn => ?_⟩
            · refine ⟨_, rfl, rfl, false, rfl, ?_⟩
              have k3 : Ke (· = D) J2 J3 := .same s3
              exact ⟨_, _, vs, ms, rfl, kt.trans k3, s3 _ _ hDj, am.imp fun _ _ h => h.ke k3, by omega, okm⟩
            · refine ⟨_, rfl, rfl, true, rfl, ?_⟩
              have hDj3 := s3 _ _ hDj
              refine ⟨_, rfl, .inl ⟨rfl, _, .of hDj3⟩, _, rfl, pa1, _, 0, xa, rfl, rfl, .of (s3 _ _ hpa), rfl, _, rfl, pb1, _, 0, xb, rfl, rfl, .of (s3 _ _ hpb), rfl, _, rfl, by show 4 ≤ sizeLine; decide, fun q1 J4 nq1 s4' hq1 _ => ?_⟩
              refine ⟨_, rfl, by show 2 ≤ sizeLine; decide, fun q2 J5 nq2 s5' hq2 _ => ?_⟩
              have s25 := s3.trans (s4'.trans s5')
              have k25 : Ke (· = D) J2 J5 := .same s25
              have hDj5 := s25 _ _ hDj
              refine ⟨D, _, _, rfl, rfl, hDj5, small1000 (by omega), ?_⟩
              have tcn : TC J5 (.ref q2) (.cut ta tb (1 + (k : Int)), ns) := ⟨q2, _, _, rfl, hq2, ⟨q1, xa, xb, rfl, s5' _ _ hq1, hxa.ke k25, hxb.ke k25⟩, ⟨pn, rfl, (s4'.trans s5') _ _ hpn⟩⟩
              refine ⟨_, _, _, ms ++ [(.cut ta tb (1 + (k : Int)), ns)], rfl, keD (kt.trans k25) hDj5, upd_same, (am.imp fun _ _ h => (h.ke k25).wr hDj5).snoc (tcn.wr hDj5), by rw [List.length_append]; show ms.length + 1 ≤ _; omega, fun m' hm' => ?_⟩
              rcases List.mem_append.mp hm' with z | z
              · exact okm m' z
              · rw [List.mem_singleton.mp z]
                exact ⟨⟨ca, cb, cla, clb, a1, a2, a3, a4, up, me⟩, by show 1 + max ta.depth tb.depth ≤ n' + 2; omega, by show 1 + ta.pieces + tb.pieces + 1 ≤ _; omega⟩
          · rintro σ J2 ⟨z9, z10, vs', ms', rfl, kt', hD', am', lm', ok'⟩
            exact ⟨_, _, _, _, vs', ms', rfl, kt', hD', am', by have : ms'.length ≤ 8 * m + 8 := lm'; omega, ok'⟩
        · rintro σ J1 ⟨y7, y8, y9, y10, vs, ms, rfl, kt, hDj, am, lm, okm⟩
          exact ⟨y7, y8, y9, y10, vs, ms, rfl, keH k37 kt nD, hDj, am, by have : ms.length ≤ 8 * 2 := lm; omega, okm⟩
      rintro σ' H5 ⟨y7, y8, y9, y10, vs, ms, rfl, k5, hD5, am, lm, okm⟩
      have F5 := k5.feed F3
      have k05 := k3.trans k5.all
      refine ⟨_, rfl, Nat.zero_le _, fun p H6 np s6 hp _ => ?_⟩
      have k6 : Ke Nof H3 H6 := k5.trans (.same s6)
      have k06 : Ke (· = f) H H6 := k3.trans k6.all
      have F6 := k6.feed F3
      have hD6 := s6 _ _ hD5
      have am6 : All2 (TC H6) vs ms := am.imp fun _ _ h => h.ke (Ke.same (F := Nof) s6)
      have dpm : ∀ m ∈ ms, m.1.depth ≤ 45 := fun m hm => by
        have := (okm m hm).2.1
        omega
      match ms, vs, am6, hD6, okm, lm, dpm with
      | [], [], _, hD6, _, _, _ =>
        refine ⟨_, _, .lst (.of hD6) .nil, .lst (.of hp) .nil, rfl, rfl, true, rfl, ?_⟩
        refine ⟨_, rfl, _, rfl, by show 2 ≤ sizeLine; decide, fun p2 H7 np2 s7 hp2 _ => ?_⟩
        refine ⟨_, rfl, f, c, 2, _, rfl, by decide, by decide, F6.same s7, by omega, fun d H8 d0 d1 F8 b8 => ?_⟩
        have k8 : Ke (· = f) H6 H8 := (Ke.same s7).trans (.but (F6.same s7) b8)
        have hp8 : H8 p2 = some (.lst [v1, v2]) := (b8 p2 (F6.nf np2)).trans hp2
        have k08 := k06.trans k8
        have k38 : Ke (· = f) H3 H8 := k6.all.trans k8
        have two : d = 0 ∨ d = 1 := by omega
        rcases two with rfl | rfl
        · refine ⟨p2, _, 0, v1, rfl, rfl, .of hp8, rfl, ?_⟩
          exact q v1 t1 c1 H8 (F8.mono (by omega)) k08 (tc1.ke k38) cl1 (by omega) (by omega)
        · refine ⟨p2, _, 1, v2, rfl, rfl, .of hp8, rfl, ?_⟩
          exact q v2 t2 c2 H8 (F8.mono (by omega)) k08 (tc2.ke k38) cl2 (by omega) (by omega)
      | [], _ :: _, am6, _, _, _, _ => cases am6.1
      | _ :: _, [], am6, _, _, _, _ => cases am6.1
      | m0 :: mt, w0 :: wt, am6, hD6, okm, lm, dpm =>
        refine ⟨_, _, .lst (.of hD6) (dp_tcs am6), .lst (.of hp) .nil, shaped_tcs dpm, rfl, false, rfl, ?_⟩
        have lw := am6.1
        refine ⟨_, rfl, _, rfl, _, rfl, D, _, rfl, .inl (.of hD6), f, c, _, _, rfl, by rw [lw, List.length_cons]; omega, by rw [lw]; omega, F6, by omega, fun d H8 d0 d1 F8 b8 => ?_⟩
        have k8 : Ke (· = f) H6 H8 := .but F6 b8
        have dl : d.toNat < (w0 :: wt).length := by omega
        obtain ⟨⟨tm, cm⟩, hm', tcm⟩ := am6.at (List.getElem?_eq_getElem dl)
        obtain ⟨o1, o2, o3⟩ := okm _ (List.mem_of_getElem? hm')
        refine ⟨D, _, d, _, rfl, rfl, .of ((b8 D nDf).trans hD6), at_of (j := d.toNat) (by omega) (List.getElem?_eq_getElem dl), ?_⟩
        exact q _ tm cm H8 (F8.mono (by omega)) (k06.trans k8) (tcm.ke k8) o1 o2 o3
abbrev sSpc : Stmt := topS 24
theorem scSpc : FnScope ["tree"] ["tree"] (defScope sSpc) := ⟨rfl, rfl, rfl, by decide +kernel, rfl, by decide +kernel, by decide +kernel⟩
def spSpc (d : Nat) : Sp := fun vs H Q _ => ∃ (v : V) (t : Tr.T), vs = [v] ∧ At H t v ∧ t.depth ≤ d ∧ t.pieces ≤ 1000 ∧ ∀ p vs H', H p = none → Same H H' → H' p = some (.lst vs) → All2 (fun v s => At H' s v) vs t.all → Q (.ref p) H'
theorem ok_spc {f : Addr} {fd : FuncData} (F : Fun K "_law_spieces" "_law_spieces" sSpc f fd) (bS : Binds K fd ["tree"] []) (gS : mg "_law_spieces" = some (.ref f)) : ∀ d, FnOk P w K mg base CX0 (d + 1) f fd ["tree"] (spSpc d) := by
  intro d
  induction d with
  | zero =>
    refine F.ok scSpc (fun vs H Q E h => ?_) (fun cdv A outer s H vs Q E hr h => ?_)
    · obtain ⟨v, t, rfl, _⟩ := h
      rfl
    · obtain ⟨v, t, rfl, _, h0, _⟩ := h
      have := t.pos
      omega
  | succ d ih =>
    refine F.ok scSpc (fun vs H Q E h => ?_) (fun cdv A outer s H vs Q E hr h => ?_)
    · obtain ⟨v, t, rfl, _⟩ := h
      rfl
    · obtain ⟨v, t, rfl, ht, hd, hp, q⟩ := h
      have hrd : Room (d + 1) _ := hr
      refine ⟨_, (pss_cons (ps_if (pt_cmpR op_eq (pe_ix ix_tup (pv 0) pe_int (fun _ _ => rfl)) pe_str (nomark _)) (pss_one (ps_ret (pe_lstN (pa_cons (pv 0) pa_nil)))) pss_nil)
      (pss_one (ps_ret (pe_op op_catN (pe_op op_catN (pe_call ih hrd (by rfl) gS F.kp bS .nil pass0 (pa_cons (pe_ix ix_tup (pv 0) pe_int (fun _ _ => rfl)) pa_nil)) (pe_call ih hrd (by rfl) gS F.kp bS .nil pass0 (pa_cons (pe_ix ix_tup (pv 0) pe_int (fun _ _ => rfl)) pa_nil))) (pe_lstN (pa_cons (pv 0) pa_nil)))))), ?_⟩
      cases t with
      | leaf n =>
        obtain ⟨a, rfl, ha⟩ := id ht
        refine ⟨_, rfl, a, _, 0, .str "book", rfl, rfl, .of ha, rfl, rfl, true, by simp, ?_⟩
        refine ⟨_, rfl, by show 1 ≤ sizeLine; decide, fun p H1 np s1 hp1 _ => ?_⟩
        exact q p _ H1 np s1 hp1 (All2.nil.snoc (At.ke (Ke.same (F := Nof) s1) ht))
      | cut tl tr k0 =>
        obtain ⟨a, x, y, rfl, ha, h1, h2⟩ := id ht
        have dp : (Tr.T.cut tl tr k0).depth = 1 + max tl.depth tr.depth := rfl
        have pp : (Tr.T.cut tl tr k0).pieces = 1 + tl.pieces + tr.pieces := rfl
        refine ⟨_, rfl, a, _, 0, .str "cut", rfl, rfl, .of ha, rfl, rfl, false, by simp; decide, ?_⟩
        refine ⟨_, rfl, a, _, 1, x, rfl, rfl, .of ha, rfl, x, tl, rfl, h1, by omega, by omega, fun p1 vs1 H1 np1 s1 hp1 a1 => ?_⟩
        refine ⟨_, rfl, a, _, 2, y, rfl, rfl, .of (s1 _ _ ha), rfl, y, tr, rfl, h2.ke (Ke.same (F := Nof) s1), by omega, by omega, fun p2 vs2 H2 np2 s2 hp2 a2 => ?_⟩
        have l1 := a1.1
        have l2 := a2.1
        rw [T.all_len] at l1 l2
        refine ⟨p1, p2, _, _, rfl, rfl, s2 _ _ hp1, hp2, Nat.le_trans (by omega : _ ≤ 1000) (by decide), fun p3 H3 np3 s3 hp3 _ => ?_⟩
        refine ⟨_, rfl, by show 1 ≤ sizeLine; decide, fun p4 H4 np4 s4 hp4 _ => ?_⟩
        refine ⟨p3, p4, _, _, rfl, rfl, s4 _ _ hp3, hp4, ?_, fun p5 H5 np5 s5 hp5 _ => ?_⟩
        · rw [List.length_append]
          show vs1.length + vs2.length + 1 ≤ sizeLine
          exact Nat.le_trans (by omega : _ ≤ 1000) (by decide)
        have s25 := s3.trans (s4.trans s5)
        have s15 := s2.trans s25
        have s05 := s1.trans s15
        refine q p5 _ H5 (s1.free (s2.free ((s3.trans s4).free np5))) s05 hp5 ?_
        exact ((a1.imp fun _ _ h => At.ke (Ke.same (F := Nof) s15) h).cat (a2.imp fun _ _ h => At.ke (Ke.same (F := Nof) s25) h)).snoc (At.ke (Ke.same (F := Nof) s05) ht)
abbrev sStc : Stmt := topS 25
abbrev nStc : List Str := ["book", "tree", "one", "other"]
theorem scStc : FnScope nStc ["book", "tree"] (defScope sStc) := ⟨rfl, rfl, rfl, by decide +kernel, rfl, by decide +kernel, by decide +kernel⟩
def spStc (d : Nat) : Sp := fun vs H Q _ => ∃ (b v : V) (css : List (List Int)) (t : Tr.T) (c : List Int), vs = [b, v] ∧ Bk H b css ∧ (∀ c ∈ css, IsCl c) ∧ At H t v ∧ t.depth ≤ d ∧ Tr.Cl css t c ∧ ∀ p H', Same H H' → H' p = some (.tup (c.map V.int)) → Q (.ref p) H'
theorem ok_stc {f fC : Addr} {fd fdC : FuncData} (F : Fun K "_law_stree_claim" "_law_stree_claim" sStc f fd) (bS : Binds K fd ["book", "tree"] []) (gS : mg "_law_stree_claim" = some (.ref f)) (FC : Fun K "_law_scut" "_law_scut" sSct fC fdC) (bC : Binds K fdC ["one", "other", "k"] []) (gC : mg "_law_scut" = some (.ref fC)) (GC : FnOk P w K mg base CX0 1 fC fdC ["one", "other", "k"] spSct) :
    ∀ d, FnOk P w K mg base CX0 (d + 2) f fd ["book", "tree"] (spStc d) := by
  intro d
  induction d with
  | zero =>
    refine F.ok scStc (fun vs H Q E h => ?_) (fun cdv A outer s H vs Q E hr h => ?_)
    · obtain ⟨b, v, css, t, c, rfl, _⟩ := h
      rfl
    · obtain ⟨b, v, css, t, c, rfl, _, _, _, h0, _⟩ := h
      have := t.pos
      omega
  | succ d ih =>
    refine F.ok scStc (fun vs H Q E h => ?_) (fun cdv A outer s H vs Q E hr h => ?_)
    · obtain ⟨b, v, css, t, c, rfl, _⟩ := h
      rfl
    · obtain ⟨b, v, css, t, c, rfl, hb, ib, ht, hd, hc, q⟩ := h
      have hr1 : Room 1 _ := hr.mono (by omega)
      have hrd : Room (d + 2) _ := hr
      refine ⟨_, (pss_cons (ps_if (pt_cmpR op_eq (pe_ix ix_tup (pv 1) pe_int (fun _ _ => rfl)) pe_str (nomark _)) (pss_one (ps_ret (pe_ix ix_tup (pv 0) (pe_ix ix_tup (pv 1) pe_int (fun _ _ => rfl)) (fun _ _ => rfl)))) pss_nil)
      (Evl.pss_cut (ps_set (i := 2) scStc.nd rfl (.inl rfl) (pe_call ih hrd (by rfl) gS F.kp bS .nil pass0 (pa_cons (pv 0) (pa_cons (pe_ix ix_tup (pv 1) pe_int (fun _ _ => rfl)) pa_nil))))
      (Evl.pss_cut (ps_set (i := 3) scStc.nd rfl (.inl rfl) (pe_call ih hrd (by rfl) gS F.kp bS .nil pass0 (pa_cons (pv 0) (pa_cons (pe_ix ix_tup (pv 1) pe_int (fun _ _ => rfl)) pa_nil))))
      (pss_cons (ps_if (PW.pt (pw_or (pt_cmpR op_isN (pv 2) pe_non (nomark _)) (pw_or1 (pt_cmpR op_isN (pv 3) pe_non (nomark _))))) pss_never pss_nil)
      (pss_one (ps_ret (pe_call GC hr1 (by rfl) gC FC.kp bC .nil pass0 (pa_cons (pv 2) (pa_cons (pv 3) (pa_cons (pe_ix ix_tup (pv 1) pe_int (fun _ _ => rfl)) pa_nil)))))))))), ?_⟩
      obtain ⟨ba, bvs, rfl, hbt, aB⟩ := bk_all hb
      cases t with
      | leaf n =>
        obtain ⟨a, rfl, ha⟩ := id ht
        obtain ⟨x, hx, p, rfl, hp⟩ := aB.atR hc
        refine ⟨_, rfl, a, _, 0, .str "book", rfl, rfl, .of ha, rfl, rfl, true, by simp, ?_⟩
        refine ⟨_, rfl, _, rfl, a, _, 1, .int (n : Nat), rfl, rfl, .of ha, rfl, ba, bvs, _, .ref p, rfl, rfl, .of hbt, at_of (j := n) rfl hx, ?_⟩
        exact q p H (Same.refl _) hp
      | cut tl tr k0 =>
        obtain ⟨a, x, y, rfl, ha, h1, h2⟩ := id ht
        obtain ⟨cx, cy, hx, hy, cm⟩ := hc
        have dp : (Tr.T.cut tl tr k0).depth = 1 + max tl.depth tr.depth := rfl
        have lx := (hx.isCl ib).len
        have ly := (hy.isCl ib).len
        refine ⟨_, rfl, a, _, 0, .str "cut", rfl, rfl, .of ha, rfl, rfl, false, by simp; decide, ?_⟩
        refine Evl.q_cut (M := fun σ' H' => ∃ p1 : Addr, σ' = [some (.ref ba), some (.ref a), some (.ref p1), none] ∧ Same H H' ∧ H' p1 = some (.tup (cx.map V.int))) ?_ ?_
        · exact ⟨_, rfl, _, rfl, a, _, 1, x, rfl, rfl, .of ha, rfl, .ref ba, x, css, tl, cx, rfl, hb, ib, h1, by omega, hx, fun p H1 s1 hp => ⟨p, rfl, s1, hp⟩⟩
        rintro σ' H1 ⟨p1, rfl, s1, hp1⟩
        have k1 : Ke Nof H H1 := .same s1
        refine Evl.q_cut (M := fun σ' H' => ∃ p2 : Addr, σ' = [some (.ref ba), some (.ref a), some (.ref p1), some (.ref p2)] ∧ Same H H' ∧ H' p1 = some (.tup (cx.map V.int)) ∧ H' p2 = some (.tup (cy.map V.int))) ?_ ?_
        · exact ⟨_, rfl, _, rfl, a, _, 2, y, rfl, rfl, .of (s1 _ _ ha), rfl, .ref ba, y, css, tr, cy, rfl, hb.ke k1, ib, h2.ke k1, by omega, hy, fun p H2 s2 hp => ⟨p, rfl, s1.trans s2, s2 _ _ hp1, hp⟩⟩
        clear hp1
        rintro σ' H2 ⟨p2, rfl, s2, hp1, hp2⟩
        refine ⟨_, rfl, rfl, false, rfl, ?_⟩
        refine ⟨_, rfl, rfl, false, rfl, ?_⟩
        refine ⟨_, rfl, _, rfl, _, rfl, a, _, 3, .int k0, rfl, rfl, .of (s2 _ _ ha), rfl, .ref p1, .ref p2, k0, cx, cy, rfl, ⟨p1, rfl, hp1⟩, ⟨p2, rfl, hp2⟩, by omega, by omega, fun H3 s3 no => ?_, fun ns p H3 s3 a1 a2 a3 a4 up me hp => ?_⟩
        · exact (cm.no no).elim
        · obtain rfl := cm.one ⟨a1, a2, a3, a4, up, me⟩
          exact q p H3 (s2.trans s3) hp
end
end Tl
namespace Tl
open PySem PySem.Spec PyProof.Rows L2 GxR Nw Dr Kp Se Cl Ct Lr Lp Tr
section
variable {P : Program} {w : World} {K : PySem.W.Frag} {mg : Str → Option Value} {base : Heap}
/-- a book and a tree by it -/
def spTree (B0 : Nat) : Sp := fun vs H Q _ => ∃ (f c : Addr) (B : Nat), vs = [.ref f] ∧ Feed H f c B ∧ B ≤ 2 ^ 40 ∧
  ∀ (p : Addr) (b x : V) (css : List (List Int)) (t : Tr.T) (ct : List Int) (H' : Hp), Feed H' f c (B + B0) → Ke (· = f) H H' → H' p = some (.tup [b, x]) → Bk H' b css → (∀ c ∈ css, IsCl c) → At H' t x → Tr.Cl css t ct → t.depth ≤ 40 → t.pieces ≤ 100 → Q (.ref p) H'
/-! ### a ring -/
theorem two_cl {a b : Int} {ns : List Int} (ha : a ≠ 0 ∧ -8 ≤ a ∧ a ≤ 8) (hb : b ≠ 0 ∧ -8 ≤ b ∧ b ≤ 8) (ne : a.natAbs ≠ b.natAbs) (pn : ns.Perm [0 - a, b]) (so : ns.Pairwise (· ≤ ·)) : IsCl ns ∧ ∀ j, j ∈ ns ↔ j = -a ∨ j = b := by
  have mem : ∀ j, j ∈ ns ↔ j = -a ∨ j = b := fun j => by
    rw [pn.mem_iff, List.mem_cons, List.mem_singleton, show 0 - a = -a by omega]
  have nd : ns.Nodup := pn.nodup_iff.mpr (by
    refine List.nodup_cons.mpr ⟨fun h => ?_, by simp⟩
    have := List.mem_singleton.mp h
    omega)
  refine ⟨cl_mk ((List.Pairwise.and so nd).imp fun {x y} h => ?_) (fun k hk => ?_) fun k hk hn => ?_, mem⟩
  · obtain ⟨h1, h2⟩ := h
    omega
  · rcases (mem k).mp hk with h | h <;> omega
  · rcases (mem k).mp hk with h | h <;> rcases (mem (-k)).mp hn with h2 | h2 <;> omega
theorem ring_pos {a b : Int} {ns : List Int} (ha : 0 < a) (hb : b ≠ 0) (ne : a.natAbs ≠ b.natAbs) (mem : ∀ j, j ∈ ns ↔ j = -a ∨ j = b) : Comes [a] ns a [b] := by
  have bes : ∀ j, Bes [a] ns a j ↔ j = b := fun j => by
    unfold Bes
    rw [List.mem_singleton, mem]
    constructor
    · rintro ⟨h | h | h, h2⟩
      · omega
      · omega
      · exact h
    · rintro rfl
      exact ⟨.inr (.inr rfl), by omega⟩
  refine ⟨by omega, List.mem_singleton.mpr rfl, (mem _).mpr (.inl rfl), fun j h1 h2 => ?_, List.pairwise_singleton _ _, fun j => by rw [List.mem_singleton, bes]⟩
  have := (bes j).mp h1
  have := (bes (-j)).mp h2
  omega
theorem ring_neg {a b : Int} {ns : List Int} (ha : a < 0) (hb : b ≠ 0) (ne : a.natAbs ≠ b.natAbs) (mem : ∀ j, j ∈ ns ↔ j = -a ∨ j = b) : Comes ns [a] (0 - a) [b] := by
  have bes : ∀ j, Bes ns [a] (0 - a) j ↔ j = b := fun j => by
    unfold Bes
    rw [List.mem_singleton, mem]
    constructor
    · rintro ⟨(h | h) | h, h2⟩
      · omega
      · exact h
      · omega
    · rintro rfl
      exact ⟨.inl (.inr rfl), by omega⟩
  refine ⟨by omega, (mem _).mpr (.inl (by omega)), List.mem_singleton.mpr (by omega), fun j h1 h2 => ?_, List.pairwise_singleton _ _, fun j => by rw [List.mem_singleton, bes]⟩
  have := (bes j).mp h1
  have := (bes (-j)).mp h2
  omega
abbrev sSrg : Stmt := topS 28
abbrev nSrg : List Str := ["feed", "says", "k", "claims", "one", "other", "tree", "step", "at", "part"]
theorem scSrg : FnScope nSrg ["feed"] (defScope sSrg) := ⟨rfl, rfl, rfl, by decide +kernel, rfl, by decide +kernel, by decide +kernel⟩
theorem ok_srg {f fD fT : Addr} {fd fdD fdT : FuncData} {k : Nat} (F : Fun K "_law_sring" "_law_sring" sSrg f fd) (T : Zv mg) (FD : Fun K "_law_sdraw" "_law_sdraw" sDrw fD fdD) (bD : Binds K fdD ["feed", "many"] []) (gD : mg "_law_sdraw" = some (.ref fD)) (GD : FnOk P w K mg base CX0 2 fD fdD ["feed", "many"] spDrw)
    (FT : Fun K "_law_sthings" "_law_sthings" sThg fT fdT) (bT : Binds K fdT ["feed", "least", "most"] []) (gT : mg "_law_sthings" = some (.ref fT)) (GT : FnOk P w K mg base CX0 3 fT fdT ["feed", "least", "most"] spThg) :
    FnOk P w K mg base CX0 (k + 4) f fd ["feed"] (spTree 20000) := by
  refine F.ok scSrg (fun vs H Q E h => ?_) (fun cdv A outer s H vs Q E hr h => ?_)
  · obtain ⟨f, c, B, rfl, _⟩ := h
    rfl
  · obtain ⟨f, c, B, rfl, hF, hB, q⟩ := h
    have hr2 : Room 2 _ := hr.mono (by omega)
    have hr3 : Room 3 _ := hr.mono (by omega)
    refine ⟨_, (Evl.pss_cut (ps_setLc (i := 1) (own := [("k", 2)]) (g := (gName 2)) (tt := tYes) rfl scSrg.nd rfl rfl (sw_true rfl rfl rfl (by decide +kernel)) (pi_list (pe_call GT hr3 (by rfl) gT FT.kp bT .nil pass0 (pa_cons (pv 0) (pa_cons pe_int (pa_cons pe_int pa_nil))))) (blkOk_by (N := nSrg) (sc := defScope sSrg) (by decide +kernel)) (fun _ _ _ _ _ => (pg_name (i := 2) scSrg.nd rfl (.inl rfl))) (fun _ _ _ _ _ => pts_nil) (fun _ _ _ _ _ => (pe_ix (ix_listB (K := K) rfl) (pe_lstN (pa_cons (pv 2) (pa_cons (pe_op op_sub pe_int (pv 2)) pa_nil))) (pe_call GD hr2 (by rfl) gD FD.kp bD .nil pass0 (pa_cons (pv 0) (pa_cons pe_int pa_nil))) (fun _ _ => rfl))))
      (Evl.pss_cut (ps_set (i := 3) scSrg.nd rfl (.inl rfl) (pe_lstN (pa_cons (pe_tupN (pa_cons (pe_ix ix_list (pv 1) pe_int (fun _ _ => rfl)) pa_nil)) pa_nil)))
      (Evl.pss_cut (ps_for PassesOwn.never rfl (pi_zip (by rfl) T.z_zip (pa_cons (pv 1) (pa_cons (pe_op op_catN (pe_slice sl_listN (pv 1) (po_some pe_int) po_none) (pe_slice sl_listN (pv 1) po_none (po_some pe_int))) pa_nil))) (pg_tup rfl (pgs_cons (pg_name (i := 4) scSrg.nd rfl (.inl rfl)) (pgs_cons (pg_name (i := 5) scSrg.nd rfl (.inl rfl)) pgs_nil))) (pss_one (ps_expr (pe_bm PySem.F.plainAttrs_list PySem.F.slot_list_append PySem.F.type_list_append mt_append (pv 3) (pa_cons (pe_callTy call_tuple_ofN (by rfl) T.z_tuple (by decide +kernel) (pa_cons (pe_callB St.cr_sortedT (by rfl) T.z_sorted (by decide +kernel) (pa_cons (pe_tupN (pa_cons (pe_op op_sub pe_int (pv 4)) (pa_cons (pv 5) pa_nil))) pa_nil)) pa_nil)) pa_nil)))))
      (Evl.pss_cut (ps_set (i := 6) scSrg.nd rfl (.inl rfl) (pe_tupN (pa_cons pe_str (pa_cons pe_int pa_nil))))
      (Evl.pss_cut (ps_for PassesOwn.never rfl (pi_range1 (by rfl) T.z_range (pa_cons (pe_call GD hr2 (by rfl) gD FD.kp bD .nil pass0 (pa_cons (pv 0) (pa_cons pe_int pa_nil))) pa_nil)) (pg_name (i := 7) scSrg.nd rfl (.inl rfl)) (Evl.pss_cut (ps_set (i := 8) scSrg.nd rfl (.inl rfl) (pe_op op_mod (pv 7) (pe_callB call_len_seq (by rfl) T.z_len (by decide +kernel) (pa_cons (pv 1) pa_nil))))
      (Evl.pss_cut (ps_set (i := 9) scSrg.nd rfl (.inl rfl) (pe_tupN (pa_cons pe_str (pa_cons (pe_op op_add pe_int (pv 8)) pa_nil))))
      (pss_one (ps_if (pt_cmpR op_gt (pe_ix ix_list (pv 1) (pv 8) (fun _ _ => rfl)) pe_int (nomark _)) (pss_one (ps_set (i := 6) scSrg.nd rfl (.inl rfl) (pe_tupN (pa_cons pe_str (pa_cons (pv 6) (pa_cons (pv 9) (pa_cons (pe_ix ix_list (pv 1) (pv 8) (fun _ _ => rfl)) pa_nil))))))) (pss_one (ps_set (i := 6) scSrg.nd rfl (.inl rfl) (pe_tupN (pa_cons pe_str (pa_cons (pv 9) (pa_cons (pv 6) (pa_cons (pe_op op_sub pe_int (pe_ix ix_list (pv 1) (pv 8) (fun _ _ => rfl))) pa_nil))))))))))))
      (pss_one (ps_ret (pe_tupN (pa_cons (pe_callTy call_tuple_ofN (by rfl) T.z_tuple (by decide +kernel) (pa_cons (pv 3) pa_nil)) (pa_cons (pv 6) pa_nil)))))))))), ?_⟩
    -- says
    refine Evl.q_cut (M := fun σ' H' => ∃ (S : Addr) (ss ks : List Int), σ' = [some (.ref f), some (.ref S), none, none, none, none, none, none, none, none] ∧ Feed H' f c (B + 20) ∧ Ke (· = f) H H' ∧ H' S = some (.lst (ss.map V.int)) ∧ S ≠ f ∧ Thg ks ∧ 3 ≤ ks.length ∧ (ss.map fun s => (s.natAbs : Int)) = ks) ?_ ?_
    · refine ⟨_, rfl, f, c, 3, 8, B, rfl, by decide, by decide, by decide, hF, by omega, fun ks t H1 F1 k1 fr ht Tk l1 l2 => ?_⟩
      have tl := Tk.len
      refine ⟨t, rfl, ⟨_, .of ht⟩, fun D nD => ?_⟩
      have nDf : D ≠ f := F1.nf nD
      have nDc : D ≠ c := F1.nc nD
      have ntf := (not_f fr hF).1
      refine lc_list (xs := ks.map V.int) (Pv := fun j H' => ∃ ss : List Int, Feed H' f c (B + 10 + j) ∧ Ke (· = f) H1 H' ∧ H' D = some (.lst (ss.map V.int)) ∧ (ss.map fun s => (s.natAbs : Int)) = ks.take j) ⟨[], F1.same (same_new nD), .same (same_new nD), upd_same, rfl⟩ (fun j H' _ z => ?_) ?_ ?_
      · obtain ⟨_, _, kk, _⟩ := z
        exact .of (kk.lst ht ntf)
      · rintro j x H2 hx ⟨ss, F2, k2, hD2, es⟩
        obtain ⟨z, hz, rfl⟩ := Ct.at_int hx
        have lj := (List.getElem?_eq_some_iff.mp hz).1
        have z1 := Tk.one z (List.mem_of_getElem? hz)
        have ls : ss.length = j := by
          have := congrArg List.length es
          rw [List.length_map, List.length_take] at this
          omega
        refine ⟨rfl, _, rfl, _, rfl, _, _, rfl, rfl, by show 2 ≤ sizeLine; decide, fun p H3 np s3 hp _ => ?_⟩
        have F3 := F2.same s3
        refine ⟨_, rfl, f, c, 2, _, rfl, by decide, by decide, F3, by omega, fun d H4 d0 d1 F4 b4 => ?_⟩
        have hp4 := (b4 p (F2.nf np)).trans hp
        have hD4 : H4 D = some (.lst (ss.map V.int)) := (b4 D nDf).trans (s3 _ _ hD2)
        have k4 : Ke (· = f) H1 H4 := (k2.trans (.same s3)).trans (.but F3 b4)
        have fin : ∀ y : Int, (y.natAbs : Int) = z → ∃ acc, H4 D = some (.lst acc) ∧ acc.length < sizeLine ∧ ∃ ss' : List Int, Feed (upd H4 D (.lst (acc ++ [.int y]))) f c (B + 10 + (j + 1)) ∧ Ke (· = f) H1 (upd H4 D (.lst (acc ++ [.int y]))) ∧ (upd H4 D (.lst (acc ++ [.int y]))) D = some (.lst (ss'.map V.int)) ∧ (ss'.map fun s => (s.natAbs : Int)) = ks.take (j + 1) := fun y hy => by
          refine ⟨_, hD4, by rw [List.length_map]; exact small1000 (by omega), ss ++ [y], F4.upd nDf nDc, k4.upd nD, ?_, ?_⟩
          · rw [upd_same, List.map_append]
            rfl
          · rw [List.map_append, es, take_snoc hz, List.map_singleton, hy]
        have two : d = 0 ∨ d = 1 := by omega
        rcases two with rfl | rfl
        · exact ⟨p, _, 0, .int z, rfl, rfl, .of hp4, rfl, fin z (by omega)⟩
        · exact ⟨p, _, 1, .int (0 - z), rfl, rfl, .of hp4, rfl, fin (0 - z) (by omega)⟩
      · rintro H2 ⟨ss, F2, k2, hD2, es⟩
        rw [List.length_map] at F2 es
        rw [List.take_length] at es
        exact ⟨D, ss, ks, rfl, F2.mono (by omega), k1.trans k2, hD2, nDf, Tk, by omega, es⟩
    rintro σ' H1 ⟨S, ss, ks, rfl, F1, k1, hS, nSf, Tk, l3, es⟩
    have tl := Tk.len
    have lss : ss.length = ks.length := by
      have := congrArg List.length es
      rwa [List.length_map] at this
    have bd : ∀ i (h : i < ss.length), ss[i] ≠ 0 ∧ -8 ≤ ss[i] ∧ ss[i] ≤ 8 := fun i h => by
      have hm : ((ss[i].natAbs : Int)) ∈ ks := by rw [← es]; exact List.mem_map.mpr ⟨_, List.getElem_mem h, rfl⟩
      have := Tk.one _ hm
      omega
    have ndist : ∀ i j (hi : i < ss.length) (hj : j < ss.length), i ≠ j → ss[i].natAbs ≠ ss[j].natAbs := fun i j hi hj ne e => by
      have nd := Tk.nd
      rw [← es] at nd
      have hij : (ss.map fun s => (s.natAbs : Int))[i]'(by rw [List.length_map]; exact hi) = (ss.map fun s => (s.natAbs : Int))[j]'(by rw [List.length_map]; exact hj) := by
        rw [List.getElem_map, List.getElem_map, e]
      exact ne ((List.getElem_inj nd).mp hij)
    have nx : ∀ i, i < ss.length → (i + 1) % ss.length < ss.length ∧ (i + 1) % ss.length ≠ i := fun i h => by
      refine ⟨Nat.mod_lt _ (by omega), fun e => ?_⟩
      by_cases z : i + 1 < ss.length
      · rw [Nat.mod_eq_of_lt z] at e
        omega
      · rw [show i + 1 = ss.length by omega, Nat.mod_self] at e
        omega
    have rot : ∀ i, i < ss.length → (ss.drop 1 ++ ss.take 1)[i]? = ss[(i + 1) % ss.length]? := fun i h => by
      by_cases z : i + 1 < ss.length
      · rw [Nat.mod_eq_of_lt z, List.getElem?_append_left (by rw [List.length_drop]; omega), List.getElem?_drop, Nat.add_comm]
      · rw [show i + 1 = ss.length by omega, Nat.mod_self, List.getElem?_append_right (by rw [List.length_drop]; omega), List.length_drop, show i - (ss.length - 1) = 0 by omega, List.getElem?_take, if_pos (by decide)]
    -- claims
    have l0 : 0 < ss.length := by omega
    refine Evl.q_cut (M := fun σ' H' => ∃ C : Addr, σ' = [some (.ref f), some (.ref S), none, some (.ref C), none, none, none, none, none, none] ∧ H1 C = none ∧ Same H1 H' ∧ ClL H' C [[ss[0]]]) ?_ ?_
    · refine ⟨_, rfl, S, _, 0, .int ss[0], rfl, rfl, .of hS, ?_, by show 1 ≤ sizeLine; decide, fun p H2 np s2 hp _ => ?_⟩
      · exact at_of (j := 0) rfl (by rw [List.getElem?_map, List.getElem?_eq_getElem l0]; rfl)
      refine ⟨by show 1 ≤ sizeLine; decide, fun C H3 nC s3 hC _ => ?_⟩
      exact ⟨C, rfl, s2.free nC, s2.trans s3, _, hC, All2.nil.snoc ⟨p, rfl, s3 _ _ hp⟩⟩
    rintro σ' H2 ⟨C, rfl, nC, s2, hC⟩
    have nCf : C ≠ f := F1.nf nC
    have nCS : C ≠ S := fun z => by
      rw [z, hS] at nC
      cases nC
    refine Evl.q_cut (M := fun σ' H' => ∃ (y4 y5 : Option V) (cs : List (List Int)), σ' = [some (.ref f), some (.ref S), none, some (.ref C), y4, y5, none, none, none, none] ∧ Ke Nof H1 H' ∧ ClL H' C ([ss[0]] :: cs) ∧ cs.length = ss.length ∧ ∀ (i : Nat) (c : List Int) (h : i < ss.length) (h2 : (i + 1) % ss.length < ss.length), cs[i]? = some c → IsCl c ∧ ∀ j, j ∈ c ↔ j = -ss[i] ∨ j = ss[(i + 1) % ss.length]) ?_ ?_
    · refine ⟨_, rfl, _, rfl, _, rfl, S, _, rfl, .of (s2 _ _ hS), fun p1 H3 np1 s3 hp1 _ => ?_⟩
      have ec1 : cutV (ss.map V.int) (some 1) none = (ss.drop 1).map V.int := by
        unfold cutV
        have e : (1 : Int) = ((1 : Nat) : Int) := rfl
        rw [HT.sIx_none, e, HT.sIx_nat, List.length_map, Nat.min_eq_left (by omega), ← List.map_drop]
        exact List.take_of_length_le (by rw [List.length_map, List.length_drop]; omega)
      rw [ec1] at hp1
      refine ⟨_, rfl, _, rfl, S, _, rfl, .of (s3 _ _ (s2 _ _ hS)), fun p2 H4 np2 s4 hp2 _ => ?_⟩
      have ec2 : cutV (ss.map V.int) none (some 1) = (ss.take 1).map V.int := by
        unfold cutV
        have e : (1 : Int) = ((1 : Nat) : Int) := rfl
        rw [HT.sIx_none, e, HT.sIx_nat, List.length_map, Nat.min_eq_left (by omega), List.drop_zero, Nat.sub_zero, List.map_take]
      rw [ec2] at hp2
      refine ⟨p1, p2, _, _, rfl, rfl, s4 _ _ hp1, hp2, ?_, fun p3 H5 np3 s5 hp3 _ => ?_⟩
      · rw [List.length_map, List.length_map, List.length_drop, List.length_take]
        exact Nat.le_trans (by omega : _ ≤ 1000) (by decide)
      rw [← List.map_append] at hp3
      have s15 := s2.trans (s3.trans (s4.trans s5))
      have hS5 := s15 _ _ hS
      have np3C : p3 ≠ C := fun z => by
        obtain ⟨_, hC2, _⟩ := hC
        rw [z, (s3.trans s4) _ _ hC2] at np3
        cases np3
      have lr : (ss.drop 1 ++ ss.take 1).length = ss.length := by
        rw [List.length_append, List.length_drop, List.length_take]
        omega
      refine ⟨S, p3, ss.map V.int, (ss.drop 1 ++ ss.take 1).map V.int, rfl, .of hS5, .of hp3, RZ.for_zipL (K := K) (a := S) (b := p3) (xs := ss.map V.int) (ys := (ss.drop 1 ++ ss.take 1).map V.int) (by rw [List.length_map, List.length_map, lr]) (Pv := fun i σ H' => ∃ (y4 y5 : Option V) (cs : List (List Int)), σ = [some (.ref f), some (.ref S), none, some (.ref C), y4, y5, none, none, none, none] ∧ Ke (· = C) H5 H' ∧ ClL H' C ([ss[0]] :: cs) ∧ cs.length = i ∧ ∀ (i : Nat) (c : List Int) (h : i < ss.length) (h2 : (i + 1) % ss.length < ss.length), cs[i]? = some c → IsCl c ∧ ∀ j, j ∈ c ↔ j = -ss[i] ∨ j = ss[(i + 1) % ss.length]) ?_ (fun i σ H' z => ?_) ?_ ?_⟩
      · exact ⟨none, none, [], rfl, .refl _ _, hC.ke (Ke.same (F := Nof) (s3.trans (s4.trans s5))) (fun z => z), rfl, fun i c _ _ h => by cases h⟩
      · obtain ⟨_, _, _, _, kk, _⟩ := z
        exact ⟨.of (kk.lst hS5 (Ne.symm nCS)), .of (kk.lst hp3 np3C)⟩
      · rintro i x y T' σ H6 hx hy ⟨y4, y5, cs, rfl, k6, ⟨cvs, hC6, aC⟩, lc, ok⟩ nT
        obtain ⟨a, ha, rfl⟩ := Ct.at_int hx
        obtain ⟨b, hb, rfl⟩ := Ct.at_int hy
        obtain ⟨li, ea⟩ := List.getElem?_eq_some_iff.mp ha
        rw [rot i li] at hb
        obtain ⟨lj, eb⟩ := List.getElem?_eq_some_iff.mp hb
        have b1 := bd i li
        have b2 := bd _ lj
        have ne := ndist i _ li lj (fun z => (nx i li).2 z.symm)
        rw [ea] at b1 ne
        rw [eb] at b2 ne
        refine ⟨T', _, rfl, .of upd_same, rfl, _, _, rfl, _, _, rfl, rfl, ?_⟩
        have s6 := same_new (H := H6) (o := .tup [.int a, .int b]) nT
        generalize upd H6 T' (.tup [.int a, .int b]) = H7 at s6
        have k67 : Ke (· = C) H6 H7 := .same s6
        have hC7 := s6 _ _ hC6
        refine ⟨_, rfl, .inl ⟨rfl, _, .of hC7⟩, _, rfl, _, _, rfl, rfl, _, rfl, by show 2 ≤ sizeLine; decide, fun q1 H8 nq1 s8 hq1 _ => ?_⟩
        refine ⟨q1, [0 - a, b], rfl, .of hq1, fun ns pn so q2 H9 nq2 s9 hq2 _ => ?_⟩
        refine ⟨q2, _, rfl, .of hq2, fun q3 H10 nq3 s10 hq3 _ => ?_⟩
        have s710 := s8.trans (s9.trans s10)
        have hC10 := s710 _ _ hC7
        have k10 : Ke (· = C) H6 H10 := k67.trans (.same s710)
        have lcv := aC.1
        rw [List.length_cons] at lcv
        refine ⟨C, _, _, rfl, rfl, hC10, small1000 (by omega), ?_⟩
        obtain ⟨i1, i2⟩ := two_cl b1 b2 ne pn so
        refine ⟨_, _, cs ++ [ns], rfl, keD (k6.trans k10) hC10, ?_, by rw [List.length_append, lc]; rfl, fun i' c' h h2 hc' => ?_⟩
        · exact cl_snoc hC10 (aC.imp fun _ _ h => h.ke k10) ⟨q3, rfl, hq3⟩
        · by_cases z : i' < cs.length
          · rw [List.getElem?_append_left z] at hc'
            exact ok i' c' h h2 hc'
          · have e : i' = i := by
              have := (List.getElem?_eq_some_iff.mp hc').1
              rw [List.length_append, List.length_singleton] at this
              omega
            subst e
            rw [List.getElem?_append_right (by omega), show i' - cs.length = 0 by omega] at hc'
            cases hc'
            rw [ea, eb]
            exact ⟨i1, i2⟩
      · rintro σ H6 ⟨y4, y5, cs, rfl, k6, hC6, lc, ok⟩
        rw [List.length_map] at lc
        exact ⟨y4, y5, cs, rfl, keH (.same s15) k6 nC, hC6, lc, ok⟩
    rintro σ' H3 ⟨y4, y5, cs, rfl, k3, hC3, lcs, okc⟩
    have F3 := k3.feed F1
    have hS3 := k3.lst hS fun z => z
    let css : List (List Int) := [ss[0]] :: cs
    have ib : ∀ c ∈ css, IsCl c := fun c hc => by
      rcases List.mem_cons.mp hc with rfl | hc
      · have b0 := bd 0 l0
        exact cl_mk (List.pairwise_singleton _ _) (fun k hk => by rw [List.mem_singleton.mp hk]; exact b0) fun k hk hn => by
          have e1 := List.mem_singleton.mp hk
          have e2 := List.mem_singleton.mp hn
          omega
      · obtain ⟨i, hi, e⟩ := List.getElem_of_mem hc
        exact (okc i c (by omega) (Nat.mod_lt _ (by omega)) (by rw [List.getElem?_eq_getElem hi, e])).1
    -- tree
    refine Evl.q_cut (M := fun σ' H' => ∃ tv : V, σ' = [some (.ref f), some (.ref S), none, some (.ref C), y4, y5, some tv, none, none, none] ∧ Same H3 H' ∧ At H' (.leaf 0) tv) ?_ ?_
    · refine ⟨by show 2 ≤ sizeLine; decide, fun p H4 np s4 hp _ => ?_⟩
      exact ⟨_, rfl, s4, p, rfl, hp⟩
    rintro σ' H4 ⟨tv, rfl, s4, htv⟩
    have F4 := F3.same s4
    refine Evl.q_cut (M := fun σ' H' => ∃ (tv : V) (t : Tr.T) (ct : List Int) (y7 y8 y9 : Option V), σ' = [some (.ref f), some (.ref S), none, some (.ref C), y4, y5, some tv, y7, y8, y9] ∧ Feed H' f c (B + 100) ∧ Ke (· = f) H3 H' ∧ At H' t tv ∧ Tr.Cl css t ct ∧ t.depth ≤ 40 ∧ t.pieces ≤ 100) ?_ ?_
    · refine ⟨_, rfl, f, c, 40, _, rfl, by decide, by decide, F4, by omega, fun d H5 d0 d1 F5 b5 => ?_⟩
      have k45 : Ke (· = f) H4 H5 := .but F4 b5
      have k35 : Ke (· = f) H3 H5 := (Ke.same s4).trans k45
      refine ⟨d, rfl, by omega, by omega, for_range (Pv := fun i σ H' => ∃ (tv : V) (t : Tr.T) (y7 y8 y9 : Option V), σ = [some (.ref f), some (.ref S), none, some (.ref C), y4, y5, some tv, y7, y8, y9] ∧ Ke Nof H5 H' ∧ At H' t tv ∧ (∀ h : i % ss.length < ss.length, Tr.Cl css t [ss[i % ss.length]]) ∧ t.depth ≤ i + 1 ∧ t.pieces = 2 * i + 1) ?_ ?_ ?_⟩
      · refine ⟨tv, .leaf 0, none, none, none, rfl, .refl _ _, htv.ke k45, fun h => ?_, Nat.le_refl _, rfl⟩
        show css[0]? = some [ss[0 % ss.length]]
        simp only [Nat.zero_mod]
        rfl
      · rintro i σ H6 hi ⟨tv, t, y7, y8, y9, rfl, k6, ht, cl, dp, pc⟩
        have hi : i < d.toNat := hi
        have hS6 : H6 S = some (.lst (ss.map V.int)) := k6.lst (k35.lst hS3 nSf) fun z => z
        have la : i % ss.length < ss.length := Nat.mod_lt _ (by omega)
        -- at
        refine Evl.q_cut (M := fun σ' H' => σ' = [some (.ref f), some (.ref S), none, some (.ref C), y4, y5, some tv, some (.int (0 + (i : Int))), some (.int ((i % ss.length : Nat) : Int)), y9] ∧ H' = H6) ?_ ?_
        · refine ⟨_, rfl, _, rfl, S, _, rfl, .inl (.of hS6), _, _, rfl, rfl, ?_, ?_, rfl⟩
          · rw [List.length_map]
            omega
          · rw [List.length_map, show (0 + (i : Int)) = ((i : Nat) : Int) by omega]
            rfl
        rintro σ' H6' ⟨rfl, rfl⟩
        -- part
        refine Evl.q_cut (M := fun σ' H' => ∃ pv : V, σ' = [some (.ref f), some (.ref S), none, some (.ref C), y4, y5, some tv, some (.int (0 + (i : Int))), some (.int ((i % ss.length : Nat) : Int)), some pv] ∧ Same H6' H' ∧ At H' (.leaf (1 + i % ss.length)) pv) ?_ ?_
        · refine ⟨_, rfl, _, _, rfl, rfl, by show 2 ≤ sizeLine; decide, fun p H7 np s7 hp _ => ?_⟩
          refine ⟨_, rfl, s7, p, rfl, ?_⟩
          rw [hp, show ((1 + i % ss.length : Nat) : Int) = 1 + ((i % ss.length : Nat) : Int) by omega]
        rintro σ' H7 ⟨pv, rfl, s7, hpv⟩
        have hS7 := s7 _ _ hS6
        have ht7 := ht.ke (Ke.same (F := Nof) s7)
        have cl' := cl la
        obtain ⟨n1, n2⟩ := nx _ la
        have lcsi : i % ss.length < cs.length := by omega
        obtain ⟨ic, mem⟩ := okc _ cs[i % ss.length] la n1 (List.getElem?_eq_getElem lcsi)
        have clp : Tr.Cl css (.leaf (1 + i % ss.length)) cs[i % ss.length] := by
          show css[1 + i % ss.length]? = some _
          rw [Nat.add_comm]
          exact List.getElem?_eq_getElem lcsi
        have ne := ndist _ _ la n1 (fun z => n2 z.symm)
        have b1 := bd _ la
        have b2 := bd _ n1
        have em : (i + 1) % ss.length = (i % ss.length + 1) % ss.length := by rw [Nat.mod_add_mod]
        have nxt : ∀ (h : (i + 1) % ss.length < ss.length), ss[(i + 1) % ss.length] = ss[(i % ss.length + 1) % ss.length] := fun h => by simp only [em]
        have hat : atI (ss.map V.int) ((i % ss.length : Nat) : Int) = some (.int ss[i % ss.length]) := at_of (j := i % ss.length) rfl (by rw [List.getElem?_map, List.getElem?_eq_getElem la]; rfl)
        refine ⟨_, rfl, _, rfl, S, _, _, .int ss[i % ss.length], rfl, rfl, .of hS7, hat, _, _, rfl, rfl, _, rfl, ite2 (fun y => ?_) (fun y => ?_)⟩
        · have y : 0 < ss[i % ss.length] := of_decide_eq_true y
          refine ⟨_, rfl, _, rfl, _, rfl, _, rfl, S, _, _, .int ss[i % ss.length], rfl, rfl, .of hS7, hat, by show 4 ≤ sizeLine; decide, fun p H8 np s8 hp _ => ?_⟩
          have k8 : Ke Nof H7 H8 := .same s8
          refine ⟨_, .cut t (.leaf (1 + i % ss.length)) ss[i % ss.length], _, _, _, rfl, k6.trans (.same (s7.trans s8)), ⟨p, _, _, rfl, hp, ht7.ke k8, hpv.ke k8⟩, fun h => ?_, ?_, ?_⟩
          · rw [nxt h]
            exact ⟨_, _, cl', clp, ring_pos y b2.1 ne mem⟩
          · show 1 + max t.depth 1 ≤ i + 1 + 1
            have := t.pos
            omega
          · show 1 + t.pieces + 1 = 2 * (i + 1) + 1
            omega
        · have y : ¬ 0 < ss[i % ss.length] := of_decide_eq_false (Bool.eq_false_iff.mpr y)
          refine ⟨_, rfl, _, rfl, _, rfl, _, rfl, S, _, _, .int ss[i % ss.length], rfl, rfl, .of hS7, hat, _, _, rfl, rfl, by show 4 ≤ sizeLine; decide, fun p H8 np s8 hp _ => ?_⟩
          have k8 : Ke Nof H7 H8 := .same s8
          refine ⟨_, .cut (.leaf (1 + i % ss.length)) t (0 - ss[i % ss.length]), _, _, _, rfl, k6.trans (.same (s7.trans s8)), ⟨p, _, _, rfl, hp, hpv.ke k8, ht7.ke k8⟩, fun h => ?_, ?_, ?_⟩
          · rw [nxt h]
            exact ⟨_, _, clp, cl', ring_neg (by omega) b2.1 ne mem⟩
          · show 1 + max 1 t.depth ≤ i + 1 + 1
            have := t.pos
            omega
          · show 1 + 1 + t.pieces = 2 * (i + 1) + 1
            omega
      · rintro σ H6 ⟨tv, t, y7, y8, y9, rfl, k6, ht, cl, dp, pc⟩
        have la : d.toNat % ss.length < ss.length := Nat.mod_lt _ (by omega)
        exact ⟨tv, t, _, y7, y8, y9, rfl, (k6.feed F5).mono (by omega), k35.trans k6.all, ht, cl la, by omega, by omega⟩
    rintro σ' H5 ⟨tv, t, ct, y7, y8, y9, rfl, F5, k5, ht, cl, dp, pc⟩
    obtain ⟨cvs, hC5, aC5⟩ := hC3.ke k5 nCf
    refine ⟨_, rfl, C, _, rfl, .of hC5, fun bp H6 nbp s6 hbp _ => ?_⟩
    refine ⟨_, rfl, by show 2 ≤ sizeLine; decide, fun p H7 np s7 hp _ => ?_⟩
    have k57 : Ke (· = f) H5 H7 := .same (s6.trans s7)
    have a7 := aC5.imp fun _ _ h => h.ke k57
    exact q p (.ref bp) tv css t ct H7 ((F5.same (s6.trans s7)).mono (by omega)) ((k1.trans k3.all).trans (k5.trans k57)) hp ⟨bp, cvs, rfl, s7 _ _ hbp, a7.1, a7.2⟩ ib (ht.ke k57) cl dp pc
end
end Tl
namespace Ct
open PySem PySem.Spec PyProof.Rows L2 Kp
/-- where two says are opposite and no two of the others are, a claim comes -/
theorem comes_ex {c1 c2 : List Int} {k : Int} (i1 : IsCl c1) (i2 : IsCl c2) (k1 : 1 ≤ k) (m1 : k ∈ c1) (m2 : -k ∈ c2) (no : ∀ j, Bes c1 c2 k j → ¬ Bes c1 c2 k (-j)) : ∃ ns, Comes c1 c2 k ns := by
  let all : List Int := (List.range 17).map fun n : Nat => (n : Int) - 8
  let ns := all.filter fun j => decide ((j ∈ c1 ∨ j ∈ c2) ∧ (j.natAbs : Int) ≠ k)
  have up : all.Pairwise (· < ·) := (by decide : ((List.range 17).map fun n : Nat => (n : Int) - 8).Pairwise (· < ·))
  refine ⟨ns, k1, m1, m2, no, up.filter _, fun j => ?_⟩
  unfold Bes
  show j ∈ all.filter _ ↔ _
  rw [List.mem_filter, decide_eq_true_iff]
  constructor
  · exact fun h => h.2
  · refine fun h => ⟨?_, h⟩
    have b : -8 ≤ j ∧ j ≤ 8 := by
      rcases h.1 with z | z
      · exact (i1.says j z).2
      · exact (i2.says j z).2
    exact List.mem_map.mpr ⟨(j + 8).toNat, List.mem_range.mpr (by omega), by omega⟩
end Ct
namespace Rg
open PySem PySem.Spec PyProof.Rows L2 GxR Nw Dr Kp Se Cl Ct Lr Lp Tr Tl
/-! ### regular trees -/
def reg (A : List Int) : Tr.T → Bool
  | .leaf _ => true
  | .cut t u k => !(inV (.int k) (A.map V.int)) && (reg (A ++ [k]) t && reg (A ++ [k]) u)
section
variable {P : Program} {w : World} {K : PySem.W.Frag} {mg : Str → Option Value} {base : Heap}
abbrev sIru : Stmt := topS 8
theorem scIru : FnScope ["tree", "things", "things_cut"] ["tree", "things"] (defScope sIru) := ⟨rfl, rfl, rfl, by decide +kernel, rfl, by decide +kernel, by decide +kernel⟩
def spIru (d : Nat) : Sp := fun vs H Q _ => ∃ (v : V) (L : Addr) (t : Tr.T) (A : List Int), vs = [v, .ref L] ∧ At H t v ∧ t.depth ≤ d ∧ H L = some (.lst (A.map V.int)) ∧ A.length + d ≤ 1000 ∧ ∀ H', Same H H' → Q (.bl (reg A t)) H'
theorem ok_iru {f : Addr} {fd : FuncData} (F : Fun K "is_regular_under" "is_regular_under" sIru f fd) (bS : Binds K fd ["tree", "things"] []) (gS : mg "is_regular_under" = some (.ref f)) : ∀ d, FnOk P w K mg base CX0 (d + 1) f fd ["tree", "things"] (spIru d) := by
  intro d
  induction d with
  | zero =>
    refine F.ok scIru (fun vs H Q E h => ?_) (fun cdv A outer s H vs Q E hr h => ?_)
    · obtain ⟨v, L, t, A, rfl, _⟩ := h
      rfl
    · obtain ⟨v, L, t, A, rfl, _, h0, _⟩ := h
      have := t.pos
      omega
  | succ d ih =>
    refine F.ok scIru (fun vs H Q E h => ?_) (fun cdv A' outer s H vs Q E hr h => ?_)
    · obtain ⟨v, L, t, A, rfl, _⟩ := h
      rfl
    · obtain ⟨v, L, t, A, rfl, ht, hd, hL, lA, q⟩ := h
      have hrd : Room (d + 1) _ := hr
      refine ⟨_, (pss_cons (ps_if (pt_cmpR op_eq (pe_ix ix_tup (pv 0) pe_int (fun _ _ => rfl)) pe_str (nomark _)) (pss_one (ps_ret pe_bl)) pss_nil)
      (pss_cons (ps_if (pt_cmpR op_in_seq (pe_ix ix_tup (pv 0) pe_int (fun _ _ => rfl)) (pv 1) (by rfl)) (pss_one (ps_ret pe_bl)) pss_nil)
      (Evl.pss_cut (ps_set (i := 2) scIru.nd rfl (.inl rfl) (pe_op op_catN (pv 1) (pe_lstN (pa_cons (pe_ix ix_tup (pv 0) pe_int (fun _ _ => rfl)) pa_nil))))
      (pss_one (ps_ret (pe_and (pe_call ih hrd (by rfl) gS F.kp bS .nil pass0 (pa_cons (pe_ix ix_tup (pv 0) pe_int (fun _ _ => rfl)) (pa_cons (pv 2) pa_nil))) (pe_one (pe_call ih hrd (by rfl) gS F.kp bS .nil pass0 (pa_cons (pe_ix ix_tup (pv 0) pe_int (fun _ _ => rfl)) (pa_cons (pv 2) pa_nil)))))))))), ?_⟩
      cases t with
      | leaf n =>
        obtain ⟨a, rfl, ha⟩ := id ht
        exact ⟨_, rfl, a, _, 0, .str "book", rfl, rfl, .of ha, rfl, rfl, true, by simp, q H (Same.refl _)⟩
      | cut tl tr k0 =>
        obtain ⟨a, x, y, rfl, ha, h1, h2⟩ := id ht
        have dp : (Tr.T.cut tl tr k0).depth = 1 + max tl.depth tr.depth := rfl
        refine ⟨_, rfl, a, _, 0, .str "cut", rfl, rfl, .of ha, rfl, rfl, false, by simp; decide, ?_⟩
        have q : ∀ H', Same H H' → Q (.bl (!(inV (.int k0) (A.map V.int)) && (reg (A ++ [k0]) tl && reg (A ++ [k0]) tr))) H' := q
        refine ⟨_, rfl, a, _, 3, .int k0, rfl, rfl, .of ha, rfl, _, rfl, L, _, rfl, .inl (.of hL), rfl, ints_flat A, _, rfl, ?_⟩
        show (if inV (.int k0) (A.map V.int) = true then _ else _)
        cases e : inV (.int k0) (A.map V.int) with
        | true =>
          have := q H (Same.refl _)
          rw [e] at this
          exact this
        | false =>
          rw [e] at q
          rw [if_neg Bool.false_ne_true]
          refine Evl.q_cut (M := fun σ' H' => ∃ D : Addr, σ' = [some (.ref a), some (.ref L), some (.ref D)] ∧ Same H H' ∧ H' D = some (.lst ((A ++ [k0]).map V.int))) ?_ ?_
          · refine ⟨_, rfl, _, rfl, a, _, 3, .int k0, rfl, rfl, .of ha, rfl, by show 1 ≤ sizeLine; decide, fun p1 H1 np1 s1 hp1 _ => ?_⟩
            refine ⟨L, p1, _, _, rfl, rfl, s1 _ _ hL, hp1, ?_, fun D H2 nD s2 hD _ => ?_⟩
            · rw [List.length_map]
              exact Nat.le_trans (by show A.length + 1 ≤ 1000; omega) (by decide)
            refine ⟨D, rfl, s1.trans s2, ?_⟩
            rw [hD, List.map_append]
            rfl
          rintro σ' H1 ⟨D, rfl, s1, hD⟩
          have k1 : Ke Nof H H1 := .same s1
          have lA2 : (A ++ [k0]).length + d ≤ 1000 := by
            rw [List.length_append]
            show A.length + 1 + d ≤ 1000
            omega
          refine ⟨_, rfl, a, _, 1, x, rfl, rfl, .of (s1 _ _ ha), rfl, _, rfl, x, D, tl, A ++ [k0], rfl, h1.ke k1, by omega, hD, lA2, fun H2 s2 => ⟨_, rfl, ?_⟩⟩
          cases e1 : reg (A ++ [k0]) tl with
          | false =>
            have := q H2 (s1.trans s2)
            rw [e1] at this
            exact this
          | true =>
            rw [e1] at q
            refine ⟨_, rfl, a, _, 2, y, rfl, rfl, .of (s2 _ _ (s1 _ _ ha)), rfl, _, rfl, y, D, tr, A ++ [k0], rfl, (h2.ke k1).ke (Ke.same (F := Nof) s2), by omega, s2 _ _ hD, lA2, fun H3 s3 => ?_⟩
            exact q H3 (s1.trans (s2.trans s3))
abbrev sIrg : Stmt := topS 9
theorem scIrg : FnScope ["tree"] ["tree"] (defScope sIrg) := ⟨rfl, rfl, rfl, by decide +kernel, rfl, by decide +kernel, by decide +kernel⟩
def spIrg : Sp := fun vs H Q _ => ∃ (v : V) (t : Tr.T), vs = [v] ∧ At H t v ∧ t.depth ≤ 40 ∧ ∀ H', Same H H' → Q (.bl (reg [] t)) H'
theorem ok_irg {f fU : Addr} {fd fdU : FuncData} (F : Fun K "is_regular" "is_regular" sIrg f fd) (FU : Fun K "is_regular_under" "is_regular_under" sIru fU fdU) (bU : Binds K fdU ["tree", "things"] []) (gU : mg "is_regular_under" = some (.ref fU)) (GU : FnOk P w K mg base CX0 41 fU fdU ["tree", "things"] (spIru 40)) :
    FnOk P w K mg base CX0 42 f fd ["tree"] spIrg := by
  refine F.ok scIrg (fun vs H Q E h => ?_) (fun cdv A outer s H vs Q E hr h => ?_)
  · obtain ⟨v, t, rfl, _⟩ := h
    rfl
  · obtain ⟨v, t, rfl, ht, hd, q⟩ := h
    have hrd : Room 41 _ := hr
    refine ⟨_, (pss_one (ps_ret (pe_call GU hrd (by rfl) gU FU.kp bU .nil pass0 (pa_cons (pv 0) (pa_cons (pe_lstN pa_nil) pa_nil))))), ?_⟩
    refine ⟨_, rfl, Nat.zero_le _, fun L H1 nL s1 hL _ => ?_⟩
    exact ⟨v, L, t, [], rfl, ht.ke (Ke.same (F := Nof) s1), hd, hL, by decide, fun H2 s2 => q H2 (s1.trans s2)⟩
/-! ### made regular -/
/-- what a tree is made to, below the says -/
structure Good (css : List (List Int)) (says : List Int) (t : Tr.T) (c : List Int) (t' : Tr.T) (c' : List Int) : Prop where
  cl : Tr.Cl css t' c'
  sub : ∀ j ∈ c', j ∈ c ∨ j ∈ says
  reg : ∀ A : List Int, (∀ a ∈ A, a ∈ says ∨ -a ∈ says) → Rg.reg A t' = true
  dp : t'.depth ≤ t.depth
  pc : t'.pieces ≤ t.pieces
abbrev sJnd : Stmt := topS 10
theorem scJnd : FnScope ["one", "other", "k"] ["one", "other", "k"] (defScope sJnd) := ⟨rfl, rfl, rfl, by decide +kernel, rfl, by decide +kernel, by decide +kernel⟩
def spJnd (Po : Addr) : Sp := fun vs H Q _ => ∃ (v1 v2 : V) (k : Int) (t1 t2 : Tr.T) (c1 c2 : List Int), vs = [v1, v2, .int k] ∧ TC H v1 (t1, c1) ∧ TC H v2 (t2, c2) ∧ IsCl c1 ∧ IsCl c2 ∧ TabG H Po ∧
  (k ∉ c1 → Q v1 H) ∧ (k ∈ c1 → -k ∉ c2 → Q v2 H) ∧ (k ∈ c1 → -k ∈ c2 → ∃ ns, Comes c1 c2 k ns ∧ ∀ (v : V) (H' : Hp), Ke Nof H H' → TC H' v (.cut t1 t2 k, ns) → Q v H')
theorem ok_jnd {f fC Po : Addr} {fd fdC : FuncData} {kk : Nat} (F : Fun K "joined" "joined" sJnd f fd) (FC : Fun K "cut_or_none" "cut_or_none" sCon fC fdC) (bC : Binds K fdC ["one", "other", "k"] []) (gC : mg "cut_or_none" = some (.ref fC)) (GC : FnOk P w K mg base CX0 4 fC fdC ["one", "other", "k"] (spCon Po)) :
    FnOk P w K mg base CX0 (kk + 5) f fd ["one", "other", "k"] (spJnd Po) := by
  refine F.ok scJnd (fun vs H Q E h => ?_) (fun cdv A outer s H vs Q E hr h => ?_)
  · obtain ⟨v1, v2, k, t1, t2, c1, c2, rfl, _⟩ := h
    rfl
  · obtain ⟨v1, v2, k, t1, t2, c1, c2, rfl, tc1, tc2, i1, i2, tg, q1, q2, q3⟩ := h
    have hr4 : Room 4 _ := hr.mono (by omega)
    have z1 := i1.len
    have z2 := i2.len
    refine ⟨_, (pss_cons (ps_if (pt_cmpR op_notIn_seq (pv 2) (pe_ix ix_tup (pv 0) pe_int (fun _ _ => rfl)) (by rfl)) (pss_one (ps_ret (pv 0))) pss_nil)
      (pss_cons (ps_if (pt_cmpR op_notIn_seq (pe_un un_neg (pv 2)) (pe_ix ix_tup (pv 1) pe_int (fun _ _ => rfl)) (by rfl)) (pss_one (ps_ret (pv 1))) pss_nil)
      (pss_one (ps_ret (pe_tupN (pa_cons (pe_tupN (pa_cons pe_str (pa_cons (pe_ix ix_tup (pv 0) pe_int (fun _ _ => rfl)) (pa_cons (pe_ix ix_tup (pv 1) pe_int (fun _ _ => rfl)) (pa_cons (pv 2) pa_nil))))) (pa_cons (pe_call GC hr4 (by rfl) gC FC.kp bC .nil pass0 (pa_cons (pe_ix ix_tup (pv 0) pe_int (fun _ _ => rfl)) (pa_cons (pe_ix ix_tup (pv 1) pe_int (fun _ _ => rfl)) (pa_cons (pv 2) pa_nil)))) pa_nil))))))), ?_⟩
    obtain ⟨p1, x1, y1, rfl, hp1, hx1, hy1⟩ := id tc1
    obtain ⟨p2, x2, y2, rfl, hp2, hx2, hy2⟩ := id tc2
    obtain ⟨a1, rfl, ha1⟩ := id hy1
    obtain ⟨a2, rfl, ha2⟩ := id hy2
    have ha1 : H a1 = some (.tup (c1.map V.int)) := ha1
    have ha2 : H a2 = some (.tup (c2.map V.int)) := ha2
    refine ⟨_, rfl, _, rfl, p1, _, 1, .ref a1, rfl, rfl, .of hp1, rfl, a1, _, rfl, .inr (.of ha1), rfl, ints_flat c1, _, rfl, ?_⟩
    show (if (!inV (.int k) (c1.map V.int)) = true then _ else _)
    cases e1 : inV (.int k) (c1.map V.int) with
    | false =>
      refine ⟨_, rfl, q1 fun z => ?_⟩
      rw [(in_ints k c1).mpr z] at e1
      cases e1
    | true =>
      have m1 := (in_ints k c1).mp e1
      rw [if_neg (by decide)]
      refine ⟨_, rfl, _, rfl, _, rfl, p2, _, 1, .ref a2, rfl, rfl, .of hp2, rfl, a2, _, rfl, .inr (.of ha2), rfl, ints_flat c2, _, rfl, ?_⟩
      show (if (!inV (.int (-k)) (c2.map V.int)) = true then _ else _)
      cases e2 : inV (.int (-k)) (c2.map V.int) with
      | false =>
        refine ⟨_, rfl, q2 m1 fun z => ?_⟩
        rw [(in_ints (-k) c2).mpr z] at e2
        cases e2
      | true =>
        have m2 := (in_ints (-k) c2).mp e2
        rw [if_neg (by decide)]
        obtain ⟨ns, cm, q3⟩ := q3 m1 m2
        refine ⟨_, rfl, p1, _, 0, x1, rfl, rfl, .of hp1, rfl, _, rfl, p2, _, 0, x2, rfl, rfl, .of hp2, rfl, _, rfl, by show 4 ≤ sizeLine; decide, fun q1' H1 nq1 s1 hq1 _ => ?_⟩
        have k1 : Ke Nof H H1 := .same s1
        refine ⟨_, rfl, p1, _, 1, .ref a1, rfl, rfl, .of (s1 _ _ hp1), rfl, _, rfl, p2, _, 1, .ref a2, rfl, rfl, .of (s1 _ _ hp2), rfl, _, rfl, .ref a1, .ref a2, k, c1, c2, rfl, ⟨a1, rfl, s1 _ _ ha1⟩, ⟨a2, rfl, s1 _ _ ha2⟩, by omega, by omega, k1.tabs _ tg, fun H2 k2 no => (cm.no (nocome_of i1 i2 no)).elim, fun ns' p H2 k2 m o up me hp => ?_⟩
        obtain rfl := cm.one (comes_of i1 i2 m o up me)
        refine ⟨by show 2 ≤ sizeLine; decide, fun pp H3 np s3 hpp _ => ?_⟩
        have k03 : Ke Nof H H3 := (k1.trans k2).trans (.same s3)
        have hx1' : At H t1 x1 := hx1
        have hx2' : At H t2 x2 := hx2
        exact q3 _ H3 k03 ⟨pp, _, _, rfl, hpp, ⟨q1', _, _, rfl, (k2.trans (.same s3)).tups _ _ hq1, hx1'.ke k03, hx2'.ke k03⟩, p, rfl, s3 _ _ hp⟩
abbrev sRgu : Stmt := topS 11
theorem scRgu : FnScope ["book", "tree", "says", "k", "one", "other"] ["book", "tree", "says"] (defScope sRgu) := ⟨rfl, rfl, rfl, by decide +kernel, rfl, by decide +kernel, by decide +kernel⟩
def spRgu (Po : Addr) (d : Nat) : Sp := fun vs H Q _ => ∃ (b v : V) (L : Addr) (css : List (List Int)) (t : Tr.T) (c says : List Int), vs = [b, v, .ref L] ∧ Bk H b css ∧ (∀ c ∈ css, IsCl c) ∧ At H t v ∧ t.depth ≤ d ∧ Tr.Cl css t c ∧ H L = some (.lst (says.map V.int)) ∧ says.length + d ≤ 1000 ∧ (∀ s ∈ says, -s ∉ says ∧ -s ∉ c) ∧ TabG H Po ∧
  ∀ (u : V) (t' : Tr.T) (c' : List Int) (H' : Hp), Ke Nof H H' → TC H' u (t', c') → Good css says t c t' c' → Q u H'
theorem ok_rgu {f fJ Po : Addr} {fd fdJ : FuncData} (F : Fun K "regular_under" "regular_under" sRgu f fd) (bS : Binds K fd ["book", "tree", "says"] []) (gS : mg "regular_under" = some (.ref f)) (FJ : Fun K "joined" "joined" sJnd fJ fdJ) (bJ : Binds K fdJ ["one", "other", "k"] []) (gJ : mg "joined" = some (.ref fJ)) (GJ : FnOk P w K mg base CX0 5 fJ fdJ ["one", "other", "k"] (spJnd Po)) :
    ∀ d, FnOk P w K mg base CX0 (d + 6) f fd ["book", "tree", "says"] (spRgu Po d) := by
  intro d
  induction d with
  | zero =>
    refine F.ok scRgu (fun vs H Q E h => ?_) (fun cdv A outer s H vs Q E hr h => ?_)
    · obtain ⟨b, v, L, css, t, c, says, rfl, _⟩ := h
      rfl
    · obtain ⟨b, v, L, css, t, c, says, rfl, _, _, _, h0, _⟩ := h
      have := t.pos
      omega
  | succ d ih =>
    refine F.ok scRgu (fun vs H Q E h => ?_) (fun cdv A outer s H vs Q E hr h => ?_)
    · obtain ⟨b, v, L, css, t, c, says, rfl, _⟩ := h
      rfl
    · obtain ⟨b, v, L, css, t, c, says, rfl, hb, ib, ht, hd, hc, hL, ls, ho, tg, q⟩ := h
      have hr5 : Room 5 _ := hr.mono (by omega)
      have hrd : Room (d + 6) _ := hr
      refine ⟨_, (pss_cons (ps_if (pt_cmpR op_eq (pe_ix ix_tup (pv 1) pe_int (fun _ _ => rfl)) pe_str (nomark _)) (pss_one (ps_ret (pe_tupN (pa_cons (pv 1) (pa_cons (pe_ix ix_tup (pv 0) (pe_ix ix_tup (pv 1) pe_int (fun _ _ => rfl)) (fun _ _ => rfl)) pa_nil))))) pss_nil)
      (Evl.pss_cut (ps_set (i := 3) scRgu.nd rfl (.inl rfl) (pe_ix ix_tup (pv 1) pe_int (fun _ _ => rfl)))
      (pss_cons (ps_if (pt_cmpR op_in_seq (pv 3) (pv 2) (by rfl)) (pss_one (ps_ret (pe_call ih hrd (by rfl) gS F.kp bS .nil pass0 (pa_cons (pv 0) (pa_cons (pe_ix ix_tup (pv 1) pe_int (fun _ _ => rfl)) (pa_cons (pv 2) pa_nil)))))) pss_nil)
      (pss_cons (ps_if (pt_cmpR op_in_seq (pe_un un_neg (pv 3)) (pv 2) (by rfl)) (pss_one (ps_ret (pe_call ih hrd (by rfl) gS F.kp bS .nil pass0 (pa_cons (pv 0) (pa_cons (pe_ix ix_tup (pv 1) pe_int (fun _ _ => rfl)) (pa_cons (pv 2) pa_nil)))))) pss_nil)
      (Evl.pss_cut (ps_set (i := 4) scRgu.nd rfl (.inl rfl) (pe_call ih hrd (by rfl) gS F.kp bS .nil pass0 (pa_cons (pv 0) (pa_cons (pe_ix ix_tup (pv 1) pe_int (fun _ _ => rfl)) (pa_cons (pe_op op_catN (pv 2) (pe_lstN (pa_cons (pv 3) pa_nil))) pa_nil)))))
      (Evl.pss_cut (ps_set (i := 5) scRgu.nd rfl (.inl rfl) (pe_call ih hrd (by rfl) gS F.kp bS .nil pass0 (pa_cons (pv 0) (pa_cons (pe_ix ix_tup (pv 1) pe_int (fun _ _ => rfl)) (pa_cons (pe_op op_catN (pv 2) (pe_lstN (pa_cons (pe_un un_neg (pv 3)) pa_nil))) pa_nil)))))
      (pss_one (ps_ret (pe_call GJ hr5 (by rfl) gJ FJ.kp bJ .nil pass0 (pa_cons (pv 4) (pa_cons (pv 5) (pa_cons (pv 3) pa_nil)))))))))))), ?_⟩
      obtain ⟨ba, bvs, rfl, hbt, aB⟩ := bk_all hb
      cases t with
      | leaf n =>
        obtain ⟨a, rfl, ha⟩ := id ht
        obtain ⟨x, hx, p, rfl, hp⟩ := aB.atR hc
        refine ⟨_, rfl, a, _, 0, .str "book", rfl, rfl, .of ha, rfl, rfl, true, by simp, ?_⟩
        refine ⟨_, rfl, _, rfl, _, rfl, a, _, 1, .int (n : Nat), rfl, rfl, .of ha, rfl, ba, bvs, _, .ref p, rfl, rfl, .of hbt, at_of (j := n) rfl hx, ?_⟩
        refine ⟨by show 2 ≤ sizeLine; decide, fun pp H1 np s1 hpp _ => ?_⟩
        have k1 : Ke Nof H H1 := .same s1
        exact q _ (.leaf n) c H1 k1 ⟨pp, _, _, rfl, hpp, ht.ke k1, p, rfl, s1 _ _ hp⟩ ⟨hc, fun j hj => .inl hj, fun _ _ => rfl, Nat.le_refl _, Nat.le_refl _⟩
      | cut tl tr k0 =>
        obtain ⟨a, x, y, rfl, ha, h1, h2⟩ := id ht
        obtain ⟨cx, cy, hx, hy, cm⟩ := id hc
        have dp : (Tr.T.cut tl tr k0).depth = 1 + max tl.depth tr.depth := rfl
        have pp : (Tr.T.cut tl tr k0).pieces = 1 + tl.pieces + tr.pieces := rfl
        have ix := hx.isCl ib
        have iy := hy.isCl ib
        have icc := hc.isCl ib
        obtain ⟨k1', kx, ky, _, _, me⟩ := id cm
        -- the parts' says are the whole's, but for k
        have subx : ∀ j ∈ cx, j ∈ c ∨ j = k0 := fun j hj => by
          by_cases z : j = k0
          · exact .inr z
          · refine .inl ((me j).mpr ⟨.inl hj, fun z2 => ?_⟩)
            have e : j = -k0 := by omega
            rw [e] at hj
            exact ix.opp k0 kx hj
        have suby : ∀ j ∈ cy, j ∈ c ∨ j = -k0 := fun j hj => by
          by_cases z : j = -k0
          · exact .inr z
          · refine .inl ((me j).mpr ⟨.inr hj, fun z2 => ?_⟩)
            have e : j = k0 := by omega
            rw [e] at hj
            exact iy.opp k0 hj ky
        refine ⟨_, rfl, a, _, 0, .str "cut", rfl, rfl, .of ha, rfl, rfl, false, by simp; decide, ?_⟩
        refine Evl.q_cut (M := fun σ' H' => σ' = [some (.ref ba), some (.ref a), some (.ref L), some (.int k0), none, none] ∧ H' = H) ?_ ?_
        · exact ⟨_, rfl, a, _, 3, .int k0, rfl, rfl, .of ha, rfl, rfl, rfl⟩
        rintro σ' H0 ⟨rfl, rfl⟩
        refine ⟨_, rfl, _, rfl, L, _, rfl, .inl (.of hL), rfl, ints_flat says, _, rfl, ?_⟩
        show (if inV (.int k0) (says.map V.int) = true then _ else _)
        cases e1 : inV (.int k0) (says.map V.int) with
        | true =>
          have m1 := (in_ints k0 says).mp e1
          rw [if_pos rfl]
          refine ⟨_, rfl, _, rfl, a, _, 1, x, rfl, rfl, .of ha, rfl, _, rfl, .ref ba, x, L, css, tl, cx, says, rfl, hb, ib, h1, by omega, hx, hL, by omega, fun s hs => ⟨(ho s hs).1, fun z => ?_⟩, tg, fun u t' c' H1 k1 tc g => ?_⟩
          · rcases subx _ z with z2 | z2
            · exact (ho s hs).2 z2
            · have e : s = -k0 := by omega
              rw [e] at hs
              exact (ho k0 m1).1 hs
          · refine q u t' c' H1 k1 tc ⟨g.cl, fun j hj => ?_, g.reg, by have := g.dp; omega, by have := g.pc; omega⟩
            rcases g.sub j hj with z | z
            · rcases subx j z with z | z
              · exact .inl z
              · rw [z]
                exact .inr m1
            · exact .inr z
        | false =>
          have n1 : k0 ∉ says := fun z => by
            rw [(in_ints k0 says).mpr z] at e1
            cases e1
          rw [if_neg Bool.false_ne_true]
          refine ⟨_, rfl, _, rfl, _, rfl, L, _, rfl, .inl (.of hL), rfl, ints_flat says, _, rfl, ?_⟩
          show (if inV (.int (-k0)) (says.map V.int) = true then _ else _)
          cases e2 : inV (.int (-k0)) (says.map V.int) with
          | true =>
            have m2 := (in_ints (-k0) says).mp e2
            rw [if_pos rfl]
            refine ⟨_, rfl, _, rfl, a, _, 2, y, rfl, rfl, .of ha, rfl, _, rfl, .ref ba, y, L, css, tr, cy, says, rfl, hb, ib, h2, by omega, hy, hL, by omega, fun s hs => ⟨(ho s hs).1, fun z => ?_⟩, tg, fun u t' c' H1 k1 tc g => ?_⟩
            · rcases suby _ z with z2 | z2
              · exact (ho s hs).2 z2
              · have e : s = k0 := by omega
                rw [e] at hs
                exact n1 hs
            · refine q u t' c' H1 k1 tc ⟨g.cl, fun j hj => ?_, g.reg, by have := g.dp; omega, by have := g.pc; omega⟩
              rcases g.sub j hj with z | z
              · rcases suby j z with z | z
                · exact .inl z
                · rw [z]
                  exact .inr m2
              · exact .inr z
          | false =>
            have n2 : -k0 ∉ says := fun z => by
              rw [(in_ints (-k0) says).mpr z] at e2
              cases e2
            rw [if_neg Bool.false_ne_true]
            -- one
            refine Evl.q_cut (M := fun σ' H' => ∃ (v1 : V) (t1 : Tr.T) (c1 : List Int), σ' = [some (.ref ba), some (.ref a), some (.ref L), some (.int k0), some v1, none] ∧ Ke Nof H0 H' ∧ TC H' v1 (t1, c1) ∧ Good css (says ++ [k0]) tl cx t1 c1) ?_ ?_
            · refine ⟨_, rfl, _, rfl, a, _, 1, x, rfl, rfl, .of ha, rfl, _, rfl, _, rfl, by show 1 ≤ sizeLine; decide, fun p1 H1 np1 s1 hp1 _ => ?_⟩
              refine ⟨L, p1, _, _, rfl, rfl, s1 _ _ hL, hp1, ?_, fun D H2 nD s2 hD _ => ?_⟩
              · rw [List.length_map]
                exact Nat.le_trans (by show says.length + 1 ≤ 1000; omega) (by decide)
              have k2 : Ke Nof H0 H2 := .same (s1.trans s2)
              have hD' : H2 D = some (.lst ((says ++ [k0]).map V.int)) := by rw [hD, List.map_append]; rfl
              refine ⟨.ref ba, x, D, css, tl, cx, says ++ [k0], rfl, hb.ke k2, ib, h1.ke k2, by omega, hx, hD', by rw [List.length_append]; show says.length + 1 + d ≤ 1000; omega, fun s hs => ?_, k2.tabs _ tg, fun u t' c' H3 k3 tc g => ⟨u, t', c', rfl, k2.trans k3, tc, g⟩⟩
              rcases List.mem_append.mp hs with hs | hs
              · refine ⟨fun z => ?_, fun z => ?_⟩
                · rcases List.mem_append.mp z with z | z
                  · exact (ho s hs).1 z
                  · have e : s = -k0 := by
                      have := List.mem_singleton.mp z
                      omega
                    rw [e] at hs
                    exact n2 hs
                · rcases subx _ z with z | z
                  · exact (ho s hs).2 z
                  · have e : s = -k0 := by omega
                    rw [e] at hs
                    exact n2 hs
              · rw [List.mem_singleton.mp hs]
                refine ⟨fun z => ?_, ix.opp k0 kx⟩
                rcases List.mem_append.mp z with z | z
                · exact n2 z
                · have := List.mem_singleton.mp z
                  omega
            rintro σ' H1 ⟨v1, t1, c1, rfl, kk1, tc1, g1⟩
            -- other
            refine Evl.q_cut (M := fun σ' H' => ∃ (v2 : V) (t2 : Tr.T) (c2 : List Int), σ' = [some (.ref ba), some (.ref a), some (.ref L), some (.int k0), some v1, some v2] ∧ Ke Nof H0 H' ∧ TC H' v1 (t1, c1) ∧ TC H' v2 (t2, c2) ∧ Good css (says ++ [-k0]) tr cy t2 c2) ?_ ?_
            · refine ⟨_, rfl, _, rfl, a, _, 2, y, rfl, rfl, .of (kk1.tups _ _ ha), rfl, _, rfl, _, rfl, _, rfl, by show 1 ≤ sizeLine; decide, fun p1 H2 np1 s1 hp1 _ => ?_⟩
              refine ⟨L, p1, _, _, rfl, rfl, s1 _ _ (kk1.lst hL fun z => z), hp1, ?_, fun D H3 nD s2 hD _ => ?_⟩
              · rw [List.length_map]
                exact Nat.le_trans (by show says.length + 1 ≤ 1000; omega) (by decide)
              have k13 : Ke Nof H1 H3 := .same (s1.trans s2)
              have k3 : Ke Nof H0 H3 := kk1.trans k13
              have hD' : H3 D = some (.lst ((says ++ [-k0]).map V.int)) := by rw [hD, List.map_append]; rfl
              refine ⟨.ref ba, y, D, css, tr, cy, says ++ [-k0], rfl, hb.ke k3, ib, h2.ke k3, by omega, hy, hD', by rw [List.length_append]; show says.length + 1 + d ≤ 1000; omega, fun s hs => ?_, k3.tabs _ tg, fun u t' c' H4 k4 tc g => ⟨u, t', c', rfl, k3.trans k4, (tc1.ke k13).ke k4, tc, g⟩⟩
              rcases List.mem_append.mp hs with hs | hs
              · refine ⟨fun z => ?_, fun z => ?_⟩
                · rcases List.mem_append.mp z with z | z
                  · exact (ho s hs).1 z
                  · have e : s = k0 := by
                      have := List.mem_singleton.mp z
                      omega
                    rw [e] at hs
                    exact n1 hs
                · rcases suby _ z with z | z
                  · exact (ho s hs).2 z
                  · have e : s = k0 := by omega
                    rw [e] at hs
                    exact n1 hs
              · rw [List.mem_singleton.mp hs, Int.neg_neg]
                refine ⟨fun z => ?_, fun z => iy.opp k0 z ky⟩
                rcases List.mem_append.mp z with z | z
                · exact n1 z
                · have := List.mem_singleton.mp z
                  omega
            clear tc1
            rintro σ' H2 ⟨v2, t2, c2, rfl, kk2, tc1, tc2, g2⟩
            have i1 := g1.cl.isCl ib
            have i2 := g2.cl.isCl ib
            have s1' : ∀ j ∈ c1, j ≠ k0 → j ∈ c ∨ j ∈ says := fun j hj ne => by
              rcases g1.sub j hj with z | z
              · rcases subx j z with z | z
                · exact .inl z
                · exact absurd z ne
              · rcases List.mem_append.mp z with z | z
                · exact .inr z
                · exact absurd (List.mem_singleton.mp z) ne
            have s2' : ∀ j ∈ c2, j ≠ -k0 → j ∈ c ∨ j ∈ says := fun j hj ne => by
              rcases g2.sub j hj with z | z
              · rcases suby j z with z | z
                · exact .inl z
                · exact absurd z ne
              · rcases List.mem_append.mp z with z | z
                · exact .inr z
                · exact absurd (List.mem_singleton.mp z) ne
            have r1 : ∀ A : List Int, (∀ b ∈ A, b ∈ says ∨ -b ∈ says) → reg A t1 = true := fun A hA => g1.reg A fun b hb => by
              rcases hA b hb with z | z
              · exact .inl (List.mem_append_left _ z)
              · exact .inr (List.mem_append_left _ z)
            have r2 : ∀ A : List Int, (∀ b ∈ A, b ∈ says ∨ -b ∈ says) → reg A t2 = true := fun A hA => g2.reg A fun b hb => by
              rcases hA b hb with z | z
              · exact .inl (List.mem_append_left _ z)
              · exact .inr (List.mem_append_left _ z)
            have dd1 := g1.dp
            have dd2 := g2.dp
            have pp1 := g1.pc
            have pp2 := g2.pc
            refine ⟨_, rfl, _, rfl, _, rfl, v1, v2, k0, t1, t2, c1, c2, rfl, tc1, tc2, i1, i2, kk2.tabs _ tg, fun no => ?_, fun _ no => ?_, fun m1 m2 => ?_⟩
            · exact q v1 t1 c1 H2 kk2 tc1 ⟨g1.cl, fun j hj => s1' j hj (fun z => no (z ▸ hj)), r1, by omega, by omega⟩
            · exact q v2 t2 c2 H2 kk2 tc2 ⟨g2.cl, fun j hj => s2' j hj (fun z => no (z ▸ hj)), r2, by omega, by omega⟩
            · have bes : ∀ j, Bes c1 c2 k0 j → j ∈ c ∨ j ∈ says := fun j hj => by
                obtain ⟨z, ne⟩ := hj
                rcases z with z | z
                · exact s1' j z (fun e => ne (by omega))
                · exact s2' j z (fun e => ne (by omega))
              have noo : ∀ j, Bes c1 c2 k0 j → ¬ Bes c1 c2 k0 (-j) := fun j b1 b2 => by
                rcases bes j b1 with z | z
                · rcases bes _ b2 with z2 | z2
                  · exact icc.opp j z z2
                  · have := (ho _ z2).2
                    rw [Int.neg_neg] at this
                    exact this z
                · rcases bes _ b2 with z2 | z2
                  · exact (ho j z).2 z2
                  · exact (ho j z).1 z2
              obtain ⟨ns, hns⟩ := comes_ex i1 i2 k1' m1 m2 noo
              refine ⟨ns, hns, fun u H3 k3 tc => ?_⟩
              refine q u (.cut t1 t2 k0) ns H3 (kk2.trans k3) tc ⟨⟨c1, c2, g1.cl, g2.cl, hns⟩, fun j hj => bes j ((hns.2.2.2.2.2 j).mp hj), fun A hA => ?_, by show 1 + max t1.depth t2.depth ≤ _; omega, by show 1 + t1.pieces + t2.pieces ≤ _; omega⟩
              have nA : inV (.int k0) (A.map V.int) = false := by
                cases e : inV (.int k0) (A.map V.int) with
                | false => rfl
                | true =>
                  rcases hA k0 ((in_ints _ _).mp e) with z | z
                  · exact absurd z n1
                  · exact absurd z n2
              show (!(inV (.int k0) (A.map V.int)) && (reg (A ++ [k0]) t1 && reg (A ++ [k0]) t2)) = true
              rw [nA, g1.reg (A ++ [k0]) fun b hb => ?_, g2.reg (A ++ [k0]) fun b hb => ?_]
              · rfl
              · rcases List.mem_append.mp hb with z | z
                · rcases hA b z with z | z
                  · exact .inl (List.mem_append_left _ z)
                  · exact .inr (List.mem_append_left _ z)
                · rw [List.mem_singleton.mp z]
                  exact .inr (List.mem_append_right _ List.mem_cons_self)
              · rcases List.mem_append.mp hb with z | z
                · rcases hA b z with z | z
                  · exact .inl (List.mem_append_left _ z)
                  · exact .inr (List.mem_append_left _ z)
                · rw [List.mem_singleton.mp z]
                  exact .inl (List.mem_append_right _ List.mem_cons_self)
abbrev sMrg : Stmt := topS 12
theorem scMrg : FnScope ["book", "tree"] ["book", "tree"] (defScope sMrg) := ⟨rfl, rfl, rfl, by decide +kernel, rfl, by decide +kernel, by decide +kernel⟩
def spMrg (Po : Addr) : Sp := fun vs H Q _ => ∃ (b v : V) (css : List (List Int)) (t : Tr.T) (c : List Int), vs = [b, v] ∧ Bk H b css ∧ (∀ c ∈ css, IsCl c) ∧ At H t v ∧ t.depth ≤ 40 ∧ Tr.Cl css t c ∧ TabG H Po ∧
  ∀ (u : V) (t' : Tr.T) (c' : List Int) (H' : Hp), Ke Nof H H' → At H' t' u → Good css [] t c t' c' → Q u H'
theorem ok_mrg {f fU Po : Addr} {fd fdU : FuncData} (F : Fun K "made_regular" "made_regular" sMrg f fd) (FU : Fun K "regular_under" "regular_under" sRgu fU fdU) (bU : Binds K fdU ["book", "tree", "says"] []) (gU : mg "regular_under" = some (.ref fU)) (GU : FnOk P w K mg base CX0 46 fU fdU ["book", "tree", "says"] (spRgu Po 40)) :
    FnOk P w K mg base CX0 47 f fd ["book", "tree"] (spMrg Po) := by
  refine F.ok scMrg (fun vs H Q E h => ?_) (fun cdv A outer s H vs Q E hr h => ?_)
  · obtain ⟨b, v, css, t, c, rfl, _⟩ := h
    rfl
  · obtain ⟨b, v, css, t, c, rfl, hb, ib, ht, hd, hc, tg, q⟩ := h
    have hrd : Room 46 _ := hr
    refine ⟨_, (pss_one (ps_ret (pe_ix ix_tup (pe_call GU hrd (by rfl) gU FU.kp bU .nil pass0 (pa_cons (pv 0) (pa_cons (pv 1) (pa_cons (pe_lstN pa_nil) pa_nil)))) pe_int (fun _ _ => rfl)))), ?_⟩
    refine ⟨_, rfl, _, rfl, Nat.zero_le _, fun L H1 nL s1 hL _ => ?_⟩
    have k1 : Ke Nof H H1 := .same s1
    refine ⟨b, v, L, css, t, c, [], rfl, hb.ke k1, ib, ht.ke k1, hd, hc, hL, by decide, (fun s h => nomatch h), k1.tabs _ tg, fun u t' c' H2 k2 tc g => ?_⟩
    obtain ⟨p, x, y, rfl, hp, hx, hy⟩ := tc
    exact ⟨p, _, 0, x, rfl, rfl, .of hp, rfl, q x t' c' H2 (k1.trans k2) hx g⟩
end
end Rg
namespace Sl
open PySem PySem.Spec PyProof.Rows L2
theorem filter_take {α : Type} {f : α → Bool} {l : List α} {i : Nat} {x : α} (h : l[i]? = some x) : (l.take (i + 1)).filter f = (l.take i).filter f ++ (if f x = true then [x] else []) := by
  rw [List.take_add_one, h, List.filter_append]
  congr 1
  show List.filter f [x] = _
  cases e : f x with
  | true => rw [List.filter_cons_of_pos e]; rfl
  | false => rw [List.filter_cons_of_neg (by rw [e]; decide)]; rfl
theorem filter_all {α : Type} (f : α → Bool) (l : List α) : decide (V.int ((l.filter (fun x => !f x)).length : Int) = V.int 0) = l.all f := by
  cases e : l.all f with
  | true =>
    have z : l.filter (fun x => !f x) = [] := List.filter_eq_nil_iff.mpr fun x hx h => by
      have := List.all_eq_true.mp e x hx
      rw [this] at h
      cases h
    rw [z]
    rfl
  | false =>
    obtain ⟨x, hx, h⟩ := List.all_eq_false.mp e
    have := List.length_pos_of_mem (List.mem_filter (p := fun x => !f x).mpr ⟨hx, (by cases g : f x with | true => exact absurd g h | false => rfl : (!f x) = true)⟩)
    exact decide_eq_false fun z => by
      have := V.int.inj z
      omega
end Sl
namespace L2
open PySem PySem.Spec PyProof.Rows
theorem pg_tupB {X : Cx} {K : PySem.W.Frag} {es : List Expr} {k : Nat} {t : TGs} {n : Nat} {pos : Pos} (hK : X.K = K) (hc : X.calm = true) (h : PGs X es t) (hn : (assignEach es X.env).length = n := by rfl) (hst : (assignEach es X.env).findIdx? (·.1) = none := by rfl) : PG X (.Tuple es k pos) (gTup K n t) := by
  subst hK
  exact pg_tup hc h hn hst
end L2
namespace Sl
end Sl
namespace En
end En
namespace Wd
open PySem PySem.Spec PyProof.Rows L2 GxR Nw Dr Kp Se Sl En
structure Zw (mg : Str → Option Value) : Prop where
  z_len : mg "len" = none
  z_all : mg "all" = none
  z_tuple : mg "tuple" = none
  z_range : mg "range" = none
  z_enumerate : mg "enumerate" = none
abbrev sSwd : Stmt := topS 22
abbrev nSwd : List Str := ["one", "other", "say"]
theorem scSwd : FnScope nSwd ["one", "other"] (defScope sSwd) := ⟨rfl, rfl, rfl, by decide +kernel, rfl, by decide +kernel, by decide +kernel⟩
theorem ints_flat (cs : List Int) : (cs.map V.int).all flatV = true := by
  rw [List.all_map, List.all_eq_true]
  exact fun _ _ => rfl
theorem at_int {ks : List Int} {i : Nat} {x : V} (hx : (ks.map V.int)[i]? = some x) : ∃ z, ks[i]? = some z ∧ x = V.int z := by
  rw [List.getElem?_map] at hx
  cases e : ks[i]? with
  | none =>
    rw [e] at hx
    cases hx
  | some z =>
    rw [e] at hx
    exact ⟨z, rfl, (Option.some.inj hx).symm⟩
/-- each of cs is one of ds -/
def wideB (cs ds : List Int) : Bool := cs.all fun s => inV (.int s) (ds.map V.int)
theorem take_all {α : Type} {f : α → Bool} {l : List α} {i : Nat} {x : α} (h : l[i]? = some x) (p : (l.take i).all f = true) : (f x = false → l.all f = false) ∧ (f x = true → (l.take (i + 1)).all f = true) := by
  refine ⟨fun z => List.all_eq_false.mpr ⟨x, List.mem_of_getElem? h, by rw [z]; decide⟩, fun z => ?_⟩
  rw [List.take_add_one, h, List.all_append, p]
  show (f x && true) = true
  rw [z]
  rfl
section
variable {P : Program} {w : World} {K : PySem.W.Frag} {mg : Str → Option Value} {base : Heap}
def spSwd : Sp := fun vs H Q _ => ∃ (v u : V) (cs ds : List Int), vs = [v, u] ∧ TupI H v cs ∧ TupI H u ds ∧ cs.length ≤ 20 ∧ ∀ H', Same H H' → Q (.bl (wideB cs ds)) H'
theorem ok_swd {f : Addr} {fd : FuncData} {k : Nat} (F : Fun K "_law_swide" "_law_swide" sSwd f fd) (T : Zw mg) : FnOk P w K mg base CX0 (k + 1) f fd ["one", "other"] spSwd := by
  refine F.ok scSwd (fun vs H Q E h => ?_) (fun cdv A outer s H vs Q E hr h => ?_)
  · obtain ⟨v, u, cs, ds, rfl, _⟩ := h
    rfl
  · obtain ⟨v, u, cs, ds, rfl, ⟨a, rfl, ha⟩, ⟨b, rfl, hb⟩, lc, q⟩ := h
    refine ⟨_, (pss_one (ps_ret (pe_cmpR op_eq (pe_callB call_len_seq (by rfl) T.z_len (by decide +kernel) (pa_cons (pe_lc (own := [("say", 2)]) (g := (gName 2))  rfl scSwd.nd (pi_tup (pv 0)) (blkOk_by (N := nSwd) (sc := defScope sSwd) (by decide +kernel)) (fun _ _ _ _ _ => (pg_name (i := 2) scSwd.nd rfl (.inl rfl))) (fun _ _ _ _ _ => (pts_one (pt_cmpR (op_notIn_seqB (K := K) rfl) (pv 2) (pv 1) (by rfl)))) (fun _ _ _ _ _ => (pv 2))) pa_nil)) pe_int (nomark _)))), ?_⟩
    refine ⟨_, rfl, a, rfl, ⟨_, .of ha⟩, fun D nD => ?_⟩
    refine lc_tup (xs := cs.map V.int) (Pv := fun i H' => Same H H' ∧ H' D = some (.lst (((cs.take i).filter fun s => !inV (.int s) (ds.map V.int)).map V.int))) ⟨same_new nD, upd_same⟩ (fun i H' _ p => .of (p.1 _ _ ha)) ?_ ?_
    · rintro i x H' hx ⟨s1, hD⟩
      obtain ⟨z, hz, rfl⟩ := at_int hx
      have ft := filter_take (f := fun s => !inV (.int s) (ds.map V.int)) hz
      refine ⟨rfl, _, rfl, _, rfl, b, _, rfl, .inr (.of (s1 _ _ hb)), rfl, ints_flat ds, _, rfl, ite2 (fun y1 => ?_) (fun y1 => ?_)⟩
      · have y1 : (!inV (.int z) (ds.map V.int)) = true := y1
        refine ⟨_, rfl, _, hD, ?_, fun c o y => ?_, ?_⟩
        · rw [List.length_map]
          exact small1000 (Nat.le_trans (List.length_filter_le _ _) (by rw [List.length_take]; omega))
        · rw [upd_ne (ne_of_none y nD)]
          exact s1 _ _ y
        · rw [upd_same, ft, if_pos y1, List.map_append]
          rfl
      · have y1 : ¬ (!inV (.int z) (ds.map V.int)) = true := y1
        refine ⟨s1, ?_⟩
        rw [ft, if_neg y1, List.append_nil]
        exact hD
    · rintro H' ⟨s1, hD⟩
      rw [List.length_map, List.take_length] at hD
      refine ⟨D, _, rfl, .inl (.of hD), rfl, ?_⟩
      rw [List.length_map]
      have := q H' s1
      unfold wideB at this
      rw [← Sl.filter_all] at this
      exact this
end
end Wd
namespace Tg
open PySem PySem.Spec PyProof.Rows L2 GxR Nw Dr Kp Se Cl Ct Lr Lp Tr Tl Rg Wd
structure Zg (mg : Str → Option Value) : Prop where
  z_len : mg "len" = none
  z_isinstance : mg "isinstance" = none
  z_tuple : mg "tuple" = none
  z_int : mg "int" = none
  z_bool : mg "bool" = none
  z_all : mg "all" = none
theorem cut_13 (x : V) (a b c : V) : cutV [x, a, b, c] (some 1) (some 3) = [a, b] := by
  unfold cutV
  have e : (1 : Int) = ((1 : Nat) : Int) := rfl
  have e3 : (3 : Int) = ((3 : Nat) : Int) := rfl
  rw [e, e3, HT.sIx_nat, HT.sIx_nat]
  rfl
section
variable {P : Program} {w : World} {K : PySem.W.Frag} {mg : Str → Option Value} {base : Heap}
abbrev sSwh : Stmt := topS 17
theorem scSwh : FnScope ["thing"] ["thing"] (defScope sSwh) := ⟨rfl, rfl, rfl, by decide +kernel, rfl, by decide +kernel, by decide +kernel⟩
theorem ok_swh {f : Addr} {fd : FuncData} {k : Nat} (F : Fun K "_law_swhole" "_law_swhole" sSwh f fd) (T : Zg mg) : FnOk P w K mg base CX0 (k + 1) f fd ["thing"] spWho := by
  refine F.ok scSwh (fun vs H Q E h => ?_) (fun cdv A outer s H vs Q E hr h => ?_)
  · obtain ⟨k, rfl, _⟩ := h
    rfl
  · obtain ⟨k, rfl, q⟩ := h
    refine ⟨_, (pss_one (ps_ret (pe_and (pe_callB call_isi (by rfl) T.z_isinstance (by decide +kernel) (pa_cons (pv 0) (pa_cons (pe_bltn (v := .ty "int") (u := .type "int") (by rfl) T.z_int (by decide +kernel) rfl) pa_nil))) (pe_one (pe_not (pe_callB call_isi (by rfl) T.z_isinstance (by decide +kernel) (pa_cons (pv 0) (pa_cons (pe_bltn (v := .ty "bool") (u := .type "bool") (by rfl) T.z_bool (by decide +kernel) rfl) pa_nil)))))))), ?_⟩
    refine ⟨_, rfl, .int k, .ty "int", .type "int", .type "int", true, rfl, .ty _, .base (.int k), kit_ty (by decide +kernel), _, rfl, ?_⟩
    refine ⟨_, rfl, .int k, .ty "bool", .type "int", .type "bool", false, rfl, .ty _, .base (.int k), kit_ty (by decide +kernel), _, rfl, q⟩
abbrev sSit : Stmt := topS 26
abbrev nSit : List Str := ["book", "thing", "left", "part"]
theorem scSit : FnScope nSit ["book", "thing", "left"] (defScope sSit) := ⟨rfl, rfl, rfl, by decide +kernel, rfl, by decide +kernel, by decide +kernel⟩
def spSit (d : Nat) : Sp := fun vs H Q _ => ∃ (b v : V) (n : Nat) (css : List (List Int)) (t : Tr.T) (c : List Int), vs = [b, v, .int (n : Nat)] ∧ Bk H b css ∧ At H t v ∧ t.depth ≤ d ∧ t.depth ≤ n ∧ Tr.Cl css t c ∧ ∀ H', Same H H' → Q (.bl true) H'
theorem ok_sit {f fW : Addr} {fd fdW : FuncData} (F : Fun K "_law_sis_tree" "_law_sis_tree" sSit f fd) (T : Zg mg) (bS : Binds K fd ["book", "thing", "left"] []) (gS : mg "_law_sis_tree" = some (.ref f)) (FW : Fun K "_law_swhole" "_law_swhole" sSwh fW fdW) (bW : Binds K fdW ["thing"] []) (gW : mg "_law_swhole" = some (.ref fW)) (GW : FnOk P w K mg base CX0 1 fW fdW ["thing"] spWho) :
    ∀ d, FnOk P w K mg base CX0 (d + 2) f fd ["book", "thing", "left"] (spSit d) := by
  intro d
  induction d with
  | zero =>
    refine F.ok scSit (fun vs H Q E h => ?_) (fun cdv A outer s H vs Q E hr h => ?_)
    · obtain ⟨b, v, n, css, t, c, rfl, _⟩ := h
      rfl
    · obtain ⟨b, v, n, css, t, c, rfl, _, _, h0, _⟩ := h
      have := t.pos
      omega
  | succ d ih =>
    refine F.ok scSit (fun vs H Q E h => ?_) (fun cdv A outer s H vs Q E hr h => ?_)
    · obtain ⟨b, v, n, css, t, c, rfl, _⟩ := h
      rfl
    · obtain ⟨b, v, n, css, t, c, rfl, hb, ht, hd, hn, hc, q⟩ := h
      have hr1 : Room 1 _ := hr.mono (by omega)
      have hrd : Room (d + 2) _ := hr
      refine ⟨_, (pss_cons (ps_if (PW.pt (pw_or (pt_not (pt_val (pe_callB call_isi (by rfl) T.z_isinstance (by decide +kernel) (pa_cons (pv 1) (pa_cons (pe_bltn (v := .ty "tuple") (u := .type "tuple") (by rfl) T.z_tuple (by decide +kernel) rfl) pa_nil))))) (pw_or (pt_cmpR op_lt (pe_callB call_len_seq (by rfl) T.z_len (by decide +kernel) (pa_cons (pv 1) pa_nil)) pe_int (nomark _)) (pw_or (pt_cmpR op_eq (pv 2) pe_int (nomark _)) (pw_or1 (pt_not (pt_val (pe_call GW hr1 (by rfl) gW FW.kp bW .nil pass0 (pa_cons (pe_ix ix_tup (pv 1) (pe_un un_neg pe_int) (fun _ _ => rfl)) pa_nil))))))))) pss_never pss_nil)
      (pss_cons (ps_if (PW.pt (pw_and (pt_cmpR op_eq (pe_ix ix_tup (pv 1) pe_int (fun _ _ => rfl)) pe_str (nomark _)) (pw_and1 (pt_cmpR op_eq (pe_callB call_len_seq (by rfl) T.z_len (by decide +kernel) (pa_cons (pv 1) pa_nil)) pe_int (nomark _))))) (pss_one (ps_ret (pe_chain op_le op_lt pe_int (pe_ix ix_tup (pv 1) pe_int (fun _ _ => rfl)) (pe_callB call_len_seq (by rfl) T.z_len (by decide +kernel) (pa_cons (pv 0) pa_nil))))) pss_nil)
      (pss_cons (ps_if (PW.pt (pw_or (pt_cmpR op_ne (pe_ix ix_tup (pv 1) pe_int (fun _ _ => rfl)) pe_str (nomark _)) (pw_or1 (pt_cmpR op_ne (pe_callB call_len_seq (by rfl) T.z_len (by decide +kernel) (pa_cons (pv 1) pa_nil)) pe_int (nomark _))))) pss_never pss_nil)
      (pss_one (ps_ret (pe_callB (cr_all rfl) (by rfl) T.z_all (by decide +kernel) (pa_cons (pe_lc (own := [("part", 3)]) (g := (gName 3)) (tt := tYes) rfl scSit.nd (pi_tup (pe_slice sl_tupN (pv 1) (po_some pe_int) (po_some pe_int))) (blkOk_by (N := nSit) (sc := defScope sSit) (by decide +kernel)) (fun _ _ _ _ _ => (pg_name (i := 3) scSit.nd rfl (.inl rfl))) (fun _ _ _ _ _ => pts_nil) (fun _ _ _ _ _ => (pe_call ih hrd (by rfl) gS F.kp bS .nil pass0 (pa_cons (pv 0) (pa_cons (pv 3) (pa_cons (pe_op op_sub (pv 2) pe_int) pa_nil)))))) pa_nil))))))), ?_⟩
      obtain ⟨ba, bvs, rfl, hbt, aB⟩ := bk_all hb
      have tp := t.pos
      cases t with
      | leaf m =>
        obtain ⟨a, rfl, ha⟩ := id ht
        obtain ⟨x, hx, _⟩ := aB.atR hc
        have lm := (List.getElem?_eq_some_iff.mp hx).1
        refine ⟨_, rfl, .ref a, .ty "tuple", .type "tuple", .type "tuple", true, rfl, .ty _, .base (.tup ha), kit_ty (by decide +kernel), _, rfl, ?_⟩
        refine ⟨_, rfl, a, _, rfl, .inr (.of ha), _, _, rfl, rfl, false, rfl, ?_⟩
        refine ⟨_, rfl, rfl, false, ?_, ?_⟩
        · rw [decide_eq_false]
          intro z
          have := V.int.inj z
          omega
        refine ⟨_, rfl, _, rfl, a, _, _, .int (m : Nat), rfl, rfl, .of ha, rfl, _, rfl, _, rfl, ?_⟩
        refine ⟨_, rfl, a, _, 0, .str "book", rfl, rfl, .of ha, rfl, rfl, true, by simp, ?_⟩
        refine ⟨_, rfl, a, _, rfl, .inr (.of ha), rfl, true, rfl, ?_⟩
        refine ⟨_, rfl, a, _, 1, .int (m : Nat), rfl, rfl, .of ha, rfl, 0, _, rfl, rfl, decide ((0 : Int) ≤ (m : Nat)), rfl, ?_⟩
        rw [decide_eq_true (by omega)]
        refine ⟨_, rfl, ba, _, rfl, .inr (.of hbt), _, _, rfl, rfl, ?_⟩
        have := q H (Same.refl _)
        show Q (.bl (decide (((m : Nat) : Int) < (bvs.length : Nat)))) H
        rw [decide_eq_true (by omega)]
        exact this
      | cut tl tr k0 =>
        obtain ⟨a, x, y, rfl, ha, h1, h2⟩ := id ht
        obtain ⟨cx, cy, hx, hy, cm⟩ := id hc
        have dp : (Tr.T.cut tl tr k0).depth = 1 + max tl.depth tr.depth := rfl
        refine ⟨_, rfl, .ref a, .ty "tuple", .type "tuple", .type "tuple", true, rfl, .ty _, .base (.tup ha), kit_ty (by decide +kernel), _, rfl, ?_⟩
        refine ⟨_, rfl, a, _, rfl, .inr (.of ha), _, _, rfl, rfl, false, rfl, ?_⟩
        refine ⟨_, rfl, rfl, false, ?_, ?_⟩
        · rw [decide_eq_false]
          intro z
          have := V.int.inj z
          omega
        refine ⟨_, rfl, _, rfl, a, _, _, .int k0, rfl, rfl, .of ha, rfl, _, rfl, _, rfl, ?_⟩
        refine ⟨_, rfl, a, _, 0, .str "cut", rfl, rfl, .of ha, rfl, rfl, false, by simp; decide, ?_⟩
        refine ⟨_, rfl, a, _, 0, .str "cut", rfl, rfl, .of ha, rfl, rfl, false, by simp, ?_⟩
        refine ⟨_, rfl, a, _, rfl, .inr (.of ha), rfl, false, rfl, ?_⟩
        refine ⟨_, rfl, _, rfl, _, rfl, a, _, rfl, ha, fun p H1 s1 hp => ?_⟩
        rw [cut_13] at hp
        refine ⟨p, rfl, ⟨_, .of hp⟩, fun D nD => ?_⟩
        have parts : ∀ (i : Nat) (z : V), [x, y][i]? = some z → ∃ (t' : Tr.T) (c' : List Int), At H t' z ∧ Tr.Cl css t' c' ∧ t'.depth ≤ d ∧ t'.depth + 1 ≤ n := fun i z hz => by
          have hm := List.mem_of_getElem? hz
          simp only [List.mem_cons, List.not_mem_nil, or_false] at hm
          rcases hm with rfl | rfl
          · exact ⟨tl, cx, h1, hx, by omega, by omega⟩
          · exact ⟨tr, cy, h2, hy, by omega, by omega⟩
        refine lc_tup (xs := [x, y]) (Pv := fun i H' => Same H1 H' ∧ H' D = some (.lst ((List.replicate i true).map V.bl))) ⟨same_new nD, upd_same⟩ (fun i H' _ z => .of (z.1 _ _ hp)) ?_ ?_
        · rintro i z H2 hz ⟨s2, hD⟩
          have li : i < 2 := (List.getElem?_eq_some_iff.mp hz).1
          obtain ⟨t', c', at', cl', d1, d2⟩ := parts i z hz
          have k2 : Ke Nof H H2 := .same (s1.trans s2)
          refine ⟨rfl, _, rfl, _, rfl, _, rfl, _, _, rfl, rfl, .ref ba, z, n - 1, css, t', c', ?_, hb.ke k2, at'.ke k2, d1, by omega, cl', fun H3 s3 => ?_⟩
          · show [V.ref ba, z, V.int ((n : Int) - 1)] = _
            rw [show (((n - 1 : Nat) : Int)) = (n : Int) - 1 by omega]
          · refine ⟨_, s3 _ _ hD, ?_, fun c o e => ?_, ?_⟩
            · rw [List.length_map, List.length_replicate]
              exact small1000 (by omega)
            · rw [upd_ne (ne_of_none e nD)]
              exact (s2.trans s3) _ _ e
            · rw [upd_same, List.replicate_succ', List.map_append]
              rfl
        · rintro H2 ⟨s2, hD⟩
          refine ⟨D, _, rfl, .of hD, ?_⟩
          exact q H2 (s1.trans s2)
abbrev sSre : Stmt := topS 27
abbrev nSre : List Str := ["tree", "above", "part"]
theorem scSre : FnScope nSre ["tree", "above"] (defScope sSre) := ⟨rfl, rfl, rfl, by decide +kernel, rfl, by decide +kernel, by decide +kernel⟩
theorem ok_sre {f : Addr} {fd : FuncData} (F : Fun K "_law_sregular" "_law_sregular" sSre f fd) (T : Zg mg) (bS : Binds K fd ["tree", "above"] []) (gS : mg "_law_sregular" = some (.ref f)) : ∀ d, FnOk P w K mg base CX0 (d + 1) f fd ["tree", "above"] (spIru d) := by
  intro d
  induction d with
  | zero =>
    refine F.ok scSre (fun vs H Q E h => ?_) (fun cdv A outer s H vs Q E hr h => ?_)
    · obtain ⟨v, L, t, A, rfl, _⟩ := h
      rfl
    · obtain ⟨v, L, t, A, rfl, _, h0, _⟩ := h
      have := t.pos
      omega
  | succ d ih =>
    refine F.ok scSre (fun vs H Q E h => ?_) (fun cdv A' outer s H vs Q E hr h => ?_)
    · obtain ⟨v, L, t, A, rfl, _⟩ := h
      rfl
    · obtain ⟨v, L, t, A, rfl, ht, hd, hL, lA, q⟩ := h
      have hrd : Room (d + 1) _ := hr
      refine ⟨_, (pss_cons (ps_if (pt_cmpR op_eq (pe_ix ix_tup (pv 0) pe_int (fun _ _ => rfl)) pe_str (nomark _)) (pss_one (ps_ret pe_bl)) pss_nil)
      (pss_cons (ps_if (pt_cmpR op_in_seq (pe_ix ix_tup (pv 0) pe_int (fun _ _ => rfl)) (pv 1) (by rfl)) (pss_one (ps_ret pe_bl)) pss_nil)
      (pss_one (ps_ret (pe_callB (cr_all rfl) (by rfl) T.z_all (by decide +kernel) (pa_cons (pe_lc (own := [("part", 2)]) (g := (gName 2)) (tt := tYes) rfl scSre.nd (pi_tup (pe_slice sl_tupN (pv 0) (po_some pe_int) (po_some pe_int))) (blkOk_by (N := nSre) (sc := defScope sSre) (by decide +kernel)) (fun _ _ _ _ _ => (pg_name (i := 2) scSre.nd rfl (.inl rfl))) (fun _ _ _ _ _ => pts_nil) (fun _ _ _ _ _ => (pe_call ih hrd (by rfl) gS F.kp bS .nil pass0 (pa_cons (pv 2) (pa_cons (pe_op op_catN (pv 1) (pe_lstN (pa_cons (pe_ix (ix_tupB (K := K) rfl) (pv 0) pe_int (fun _ _ => rfl)) pa_nil))) pa_nil))))) pa_nil)))))), ?_⟩
      cases t with
      | leaf n =>
        obtain ⟨a, rfl, ha⟩ := id ht
        exact ⟨_, rfl, a, _, 0, .str "book", rfl, rfl, .of ha, rfl, rfl, true, by simp, q H (Same.refl _)⟩
      | cut tl tr k0 =>
        obtain ⟨a, x, y, rfl, ha, h1, h2⟩ := id ht
        have dp : (Tr.T.cut tl tr k0).depth = 1 + max tl.depth tr.depth := rfl
        refine ⟨_, rfl, a, _, 0, .str "cut", rfl, rfl, .of ha, rfl, rfl, false, by simp; decide, ?_⟩
        have q : ∀ H', Same H H' → Q (.bl (!(inV (.int k0) (A.map V.int)) && (reg (A ++ [k0]) tl && reg (A ++ [k0]) tr))) H' := q
        refine ⟨_, rfl, a, _, 3, .int k0, rfl, rfl, .of ha, rfl, _, rfl, L, _, rfl, .inl (.of hL), rfl, Ct.ints_flat A, _, rfl, ?_⟩
        show (if inV (.int k0) (A.map V.int) = true then _ else _)
        cases e : inV (.int k0) (A.map V.int) with
        | true =>
          have := q H (Same.refl _)
          rw [e] at this
          exact this
        | false =>
          rw [e] at q
          rw [if_neg Bool.false_ne_true]
          have lA2 : (A ++ [k0]).length + d ≤ 1000 := by
            rw [List.length_append]
            show A.length + 1 + d ≤ 1000
            omega
          refine ⟨_, rfl, _, rfl, _, rfl, a, _, rfl, ha, fun p H1 s1 hp => ?_⟩
          rw [cut_13] at hp
          refine ⟨p, rfl, ⟨_, .of hp⟩, fun D nD => ?_⟩
          let bs : List Bool := [reg (A ++ [k0]) tl, reg (A ++ [k0]) tr]
          have parts : ∀ (i : Nat) (z : V), [x, y][i]? = some z → ∃ t' : Tr.T, At H t' z ∧ t'.depth ≤ d ∧ bs[i]? = some (reg (A ++ [k0]) t') := fun i z hz => by
            match i, hz with
            | 0, hz =>
              cases hz
              exact ⟨tl, h1, by omega, rfl⟩
            | 1, hz =>
              cases hz
              exact ⟨tr, h2, by omega, rfl⟩
          refine lc_tup (xs := [x, y]) (Pv := fun i H' => Same H1 H' ∧ H' D = some (.lst ((bs.take i).map V.bl))) ⟨same_new nD, upd_same⟩ (fun i H' _ z => .of (z.1 _ _ hp)) ?_ ?_
          · rintro i z H2 hz ⟨s2, hD⟩
            have li : i < 2 := (List.getElem?_eq_some_iff.mp hz).1
            obtain ⟨t', at', d1, eb⟩ := parts i z hz
            have s02 := s1.trans s2
            refine ⟨rfl, _, rfl, _, rfl, _, rfl, a, _, 3, .int k0, rfl, rfl, .of (s02 _ _ ha), rfl, by show 1 ≤ sizeLine; decide, fun p1 H3 np1 s3 hp1 _ => ?_⟩
            refine ⟨L, p1, _, _, rfl, rfl, s3 _ _ (s02 _ _ hL), hp1, ?_, fun E' H4 nE s4 hE _ => ?_⟩
            · rw [List.length_map]
              exact Nat.le_trans (by show A.length + 1 ≤ 1000; omega) (by decide)
            have hE' : H4 E' = some (.lst ((A ++ [k0]).map V.int)) := by rw [hE, List.map_append]; rfl
            have s24 := s3.trans s4
            refine ⟨z, E', t', A ++ [k0], rfl, at'.ke (Ke.same (F := Nof) (s02.trans s24)), d1, hE', lA2, fun H5 s5 => ?_⟩
            have s25 := s24.trans s5
            refine ⟨_, s25 _ _ hD, ?_, fun c o e => ?_, ?_⟩
            · rw [List.length_map, List.length_take]
              exact small1000 (by show min i 2 ≤ 1000; omega)
            · rw [upd_ne (ne_of_none e nD)]
              exact (s2.trans s25) _ _ e
            · rw [upd_same, take_snoc eb, List.map_append]
              rfl
          · rintro H2 ⟨s2, hD⟩
            refine ⟨D, bs, rfl, .of hD, ?_⟩
            have := q H2 (s1.trans s2)
            show Q (.bl (bs.all id)) H2
            have e3 : bs.all id = (reg (A ++ [k0]) tl && reg (A ++ [k0]) tr) := by
              show (reg (A ++ [k0]) tl && (reg (A ++ [k0]) tr && true)) = _
              rw [Bool.and_true]
            rw [e3]
            exact this
abbrev sRgt : Stmt := topS 29
abbrev nRgt : List Str := ["book", "tree", "found", "told", "claim"]
theorem scRgt : FnScope nRgt ["book", "tree"] (defScope sRgt) := ⟨rfl, rfl, rfl, by decide +kernel, rfl, by decide +kernel, by decide +kernel⟩
def spRgt (Po : Addr) : Sp := fun vs H Q _ => ∃ (b v : V) (css : List (List Int)) (t : Tr.T) (c : List Int), vs = [b, v] ∧ Bk H b css ∧ (∀ c ∈ css, IsCl c) ∧ At H t v ∧ t.depth ≤ 40 ∧ t.pieces ≤ 300 ∧ Tr.Cl css t c ∧ TabG H Po ∧ ∀ H', Ke Nof H H' → Q (.bl true) H'
theorem ok_rgt {f fI fR fM fT fC fW fP Po : Addr} {fd fdI fdR fdM fdT fdC fdW fdP : FuncData} (F : Fun K "_law_s_right" "_law_s_right" sRgt f fd) (T : Zg mg)
    (FI : Fun K "is_regular" "is_regular" sIrg fI fdI) (bI : Binds K fdI ["tree"] []) (gI : mg "is_regular" = some (.ref fI)) (GI : FnOk P w K mg base CX0 42 fI fdI ["tree"] spIrg)
    (FR : Fun K "_law_sregular" "_law_sregular" sSre fR fdR) (bR : Binds K fdR ["tree", "above"] []) (gR : mg "_law_sregular" = some (.ref fR)) (GR : FnOk P w K mg base CX0 41 fR fdR ["tree", "above"] (spIru 40))
    (FM : Fun K "made_regular" "made_regular" sMrg fM fdM) (bM : Binds K fdM ["book", "tree"] []) (gM : mg "made_regular" = some (.ref fM)) (GM : FnOk P w K mg base CX0 47 fM fdM ["book", "tree"] (spMrg Po))
    (FT : Fun K "_law_sis_tree" "_law_sis_tree" sSit fT fdT) (bT : Binds K fdT ["book", "thing", "left"] []) (gT : mg "_law_sis_tree" = some (.ref fT)) (GT : FnOk P w K mg base CX0 42 fT fdT ["book", "thing", "left"] (spSit 40))
    (FC : Fun K "_law_stree_claim" "_law_stree_claim" sStc fC fdC) (bC : Binds K fdC ["book", "tree"] []) (gC : mg "_law_stree_claim" = some (.ref fC)) (GC : FnOk P w K mg base CX0 42 fC fdC ["book", "tree"] (spStc 40))
    (FW : Fun K "_law_swide" "_law_swide" sSwd fW fdW) (bW : Binds K fdW ["one", "other"] []) (gW : mg "_law_swide" = some (.ref fW)) (GW : FnOk P w K mg base CX0 1 fW fdW ["one", "other"] spSwd)
    (FP : Fun K "_law_spieces" "_law_spieces" sSpc fP fdP) (bP : Binds K fdP ["tree"] []) (gP : mg "_law_spieces" = some (.ref fP)) (GP : FnOk P w K mg base CX0 41 fP fdP ["tree"] (spSpc 40)) :
    FnOk P w K mg base CX0 48 f fd ["book", "tree"] (spRgt Po) := by
  refine F.ok scRgt (fun vs H Q E h => ?_) (fun cdv A outer s H vs Q E hr h => ?_)
  · obtain ⟨b, v, css, t, c, rfl, _⟩ := h
    rfl
  · obtain ⟨b, v, css, t, c, rfl, hb, ib, ht, hd, hp, hc, tg, q⟩ := h
    have hr1 : Room 1 _ := hr.mono (by decide)
    have hr41 : Room 41 _ := hr.mono (by decide)
    have hr42 : Room 42 _ := hr.mono (by decide)
    have hr47 : Room 47 _ := hr.mono (by decide)
    refine ⟨_, (Evl.pss_cut (ps_set (i := 2) scRgt.nd rfl (.inl rfl) (pe_call GI hr42 (by rfl) gI FI.kp bI .nil pass0 (pa_cons (pv 1) pa_nil)))
      (Evl.pss_cut (ps_if (PW.pt (pw_or (pt_not (pt_val (pe_callB call_isi (by rfl) T.z_isinstance (by decide +kernel) (pa_cons (pv 2) (pa_cons (pe_bltn (v := .ty "bool") (u := .type "bool") (by rfl) T.z_bool (by decide +kernel) rfl) pa_nil))))) (pw_or1 (pt_cmpR op_ne (pv 2) (pe_call GR hr41 (by rfl) gR FR.kp bR .nil pass0 (pa_cons (pv 1) (pa_cons (pe_lstN pa_nil) pa_nil))) (nomark _))))) pss_never pss_nil)
      (Evl.pss_cut (ps_set (i := 3) scRgt.nd rfl (.inl rfl) (pe_call GM hr47 (by rfl) gM FM.kp bM .nil pass0 (pa_cons (pv 0) (pa_cons (pv 1) pa_nil))))
      (Evl.pss_cut (ps_if (PW.pt (pw_or (pt_not (pt_val (pe_call GT hr42 (by rfl) gT FT.kp bT .nil pass0 (pa_cons (pv 0) (pa_cons (pv 3) (pa_cons pe_int pa_nil)))))) (pw_or1 (pt_not (pt_val (pe_call GR hr41 (by rfl) gR FR.kp bR .nil pass0 (pa_cons (pv 3) (pa_cons (pe_lstN pa_nil) pa_nil)))))))) pss_never pss_nil)
      (Evl.pss_cut (ps_set (i := 4) scRgt.nd rfl (.inl rfl) (pe_call GC hr42 (by rfl) gC FC.kp bC .nil pass0 (pa_cons (pv 0) (pa_cons (pv 3) pa_nil))))
      (Evl.pss_cut (ps_if (PW.pt (pw_or (pt_cmpR op_isN (pv 4) pe_non (nomark _)) (pw_or1 (pt_not (pt_val (pe_call GW hr1 (by rfl) gW FW.kp bW .nil pass0 (pa_cons (pv 4) (pa_cons (pe_call GC hr42 (by rfl) gC FC.kp bC .nil pass0 (pa_cons (pv 0) (pa_cons (pv 1) pa_nil))) pa_nil)))))))) pss_never pss_nil)
      (pss_one (ps_ret (pe_cmpR op_le (pe_callB call_len_seq (by rfl) T.z_len (by decide +kernel) (pa_cons (pe_call GP hr41 (by rfl) gP FP.kp bP .nil pass0 (pa_cons (pv 3) pa_nil)) pa_nil)) (pe_callB call_len_seq (by rfl) T.z_len (by decide +kernel) (pa_cons (pe_call GP hr41 (by rfl) gP FP.kp bP .nil pass0 (pa_cons (pv 1) pa_nil)) pa_nil)) (nomark _)))))))))), ?_⟩
    have icc := hc.isCl ib
    -- found
    refine Evl.q_cut (M := fun σ' H' => σ' = [some b, some v, some (.bl (reg [] t)), none, none] ∧ Ke Nof H H') ?_ ?_
    · exact ⟨_, rfl, v, t, rfl, ht, hd, fun H1 s1 => ⟨rfl, .same s1⟩⟩
    rintro σ' H1 ⟨rfl, k1⟩
    refine Evl.q_cut (M := fun σ' H' => σ' = [some b, some v, some (.bl (reg [] t)), none, none] ∧ Ke Nof H H') ?_ ?_
    · refine ⟨_, rfl, .bl _, .ty "bool", .type "bool", .type "bool", true, rfl, .ty _, .base (.bl _), kit_ty (by decide +kernel), _, rfl, ?_⟩
      refine ⟨_, rfl, _, rfl, Nat.zero_le _, fun L H2 nL s2 hL _ => ?_⟩
      have k2 : Ke Nof H H2 := k1.trans (.same s2)
      refine ⟨v, L, t, [], rfl, ht.ke k2, hd, hL, by decide, fun H3 s3 => ⟨rfl, false, by simp, ?_⟩⟩
      exact ⟨rfl, k2.trans (.same s3)⟩
    clear k1
    rintro σ' H2 ⟨rfl, k2⟩
    -- told
    refine Evl.q_cut (M := fun σ' H' => ∃ (u : V) (t' : Tr.T) (c' : List Int), σ' = [some b, some v, some (.bl (reg [] t)), some u, none] ∧ Ke Nof H H' ∧ At H' t' u ∧ Good css [] t c t' c') ?_ ?_
    · exact ⟨_, rfl, _, rfl, b, v, css, t, c, rfl, hb.ke k2, ib, ht.ke k2, hd, hc, k2.tabs _ tg, fun u t' c' H3 k3 at' g => ⟨u, t', c', rfl, k2.trans k3, at', g⟩⟩
    rintro σ' H3 ⟨u, t', c', rfl, k3, hu, g⟩
    have gd1 := g.dp
    have gp1 := g.pc
    have ic' := g.cl.isCl ib
    have lc' := ic'.len
    -- a regular tree
    refine Evl.q_cut (M := fun σ' H' => σ' = [some b, some v, some (.bl (reg [] t)), some u, none] ∧ Ke Nof H3 H') ?_ ?_
    · refine ⟨_, rfl, _, rfl, b, u, 40, css, t', c', rfl, hb.ke k3, hu, by omega, by omega, g.cl, fun H4 s4 => ⟨true, rfl, ?_⟩⟩
      refine ⟨_, rfl, Nat.zero_le _, fun L H5 nL s5 hL _ => ?_⟩
      refine ⟨u, L, t', [], rfl, hu.ke (Ke.same (F := Nof) (s4.trans s5)), by omega, hL, by decide, fun H6 s6 => ?_⟩
      rw [g.reg [] fun a h => nomatch h]
      exact ⟨true, rfl, rfl, .same (s4.trans (s5.trans s6))⟩
    rintro σ' H4 ⟨rfl, k4⟩
    have k04 := k3.trans k4
    -- its claim
    refine Evl.q_cut (M := fun σ' H' => ∃ p : Addr, σ' = [some b, some v, some (.bl (reg [] t)), some u, some (.ref p)] ∧ Ke Nof H4 H' ∧ H' p = some (.tup (c'.map V.int))) ?_ ?_
    · exact ⟨_, rfl, _, rfl, b, u, css, t', c', rfl, hb.ke k04, ib, hu.ke k4, by omega, g.cl, fun p H5 s5 hp' => ⟨p, rfl, .same s5, hp'⟩⟩
    rintro σ' H5 ⟨p, rfl, k5, hp'⟩
    have k05 := k04.trans k5
    refine Evl.q_cut (M := fun σ' H' => σ' = [some b, some v, some (.bl (reg [] t)), some u, some (.ref p)] ∧ Ke Nof H5 H') ?_ ?_
    · refine ⟨_, rfl, rfl, false, rfl, ?_⟩
      refine ⟨_, rfl, _, rfl, _, rfl, b, v, css, t, c, rfl, hb.ke k05, ib, ht.ke k05, hd, hc, fun p2 H6 s6 hp2 => ?_⟩
      refine ⟨.ref p, .ref p2, c', c, rfl, ⟨p, rfl, s6 _ _ hp'⟩, ⟨p2, rfl, hp2⟩, by omega, fun H7 s7 => ?_⟩
      have wd : wideB c' c = true := List.all_eq_true.mpr fun j hj => (in_ints j c).mpr (by
        rcases g.sub j hj with z | z
        · exact z
        · cases z)
      rw [wd]
      exact ⟨true, rfl, rfl, .same (s6.trans s7)⟩
    rintro σ' H6 ⟨rfl, k6⟩
    have k06 := k05.trans k6
    have hu6 := (hu.ke k4).ke (k5.trans k6)
    refine ⟨_, rfl, u, t', rfl, hu6, by omega, by omega, fun q1 vs1 H7 nq1 s7 hq1 a1 => ?_⟩
    refine ⟨q1, _, rfl, .inl (.of hq1), ?_⟩
    refine ⟨_, rfl, v, t, rfl, (ht.ke k06).ke (Ke.same (F := Nof) s7), hd, by omega, fun q2 vs2 H8 nq2 s8 hq2 a2 => ?_⟩
    refine ⟨q2, _, rfl, .inl (.of hq2), _, _, rfl, rfl, ?_⟩
    have l1 := a1.1
    have l2 := a2.1
    rw [Tr.T.all_len] at l1 l2
    show Q (.bl (decide ((vs1.length : Int) ≤ (vs2.length : Int)))) H8
    rw [decide_eq_true (by omega)]
    exact q H8 (k06.trans (.same (s7.trans s8)))
end
end Tg
namespace K24
open PySem PySem.Spec PyProof.Rows L2 GxR Nw Dr Kp Se Cl Ct Lr Lp Tr Tl Rg Tg
abbrev sLaw : Stmt := topS 30
abbrev nLaw : List Str := ["script", "feed", "turn", "book", "tree", "piece"]
theorem scL : FnScope nLaw ["script"] (defScope sLaw) := ⟨rfl, rfl, rfl, by decide +kernel, rfl, by decide +kernel, by decide +kernel⟩
structure Zk (mg : Str → Option Value) : Prop where
  z_range : mg "range" = none
  z_all : mg "all" = none
theorem mem_cut {xs : List V} {lo hi : Option Int} {x : V} (h : x ∈ cutV xs lo hi) : x ∈ xs := by
  unfold cutV at h
  exact List.mem_of_mem_drop (List.mem_of_mem_take h)
theorem pick {ns : List Int} {d : Int} (d0 : 0 ≤ d) (d1 : d < ns.length) : ∃ mo, mo ∈ ns ∧ atI (ns.map V.int) d = some (.int mo) := by
  have l : d.toNat < ns.length := by omega
  exact ⟨ns[d.toNat], List.getElem_mem l, at_of (j := d.toNat) (by omega) (by rw [List.getElem?_map, List.getElem?_eq_getElem l]; rfl)⟩
/-- a piece of a slice -/
theorem piece_of {H : Hp} {vs : List V} {t : Tr.T} {lo hi : Option Int} {j : Nat} {v : V} (ap : All2 (fun v s => At H s v) vs t.all) (hv : (cutV vs lo hi)[j]? = some v) : ∃ s ∈ t.all, At H s v := by
  have hm := mem_cut (List.mem_of_getElem? hv)
  obtain ⟨i, hi', e⟩ := List.getElem_of_mem hm
  obtain ⟨s, hs, a⟩ := ap.at (i := i) (x := v) (by rw [List.getElem?_eq_getElem hi', e])
  exact ⟨s, List.mem_of_getElem? hs, a⟩
section
variable {P : Program} {w : World} {K : PySem.W.Frag} {mg : Str → Option Value} {base : Heap}
def spLaw (Po : Addr) (K : PySem.W.Frag) : Sp := fun vs H Q _ => ∃ (a : Addr) (ns : List Int), vs = [.ref a] ∧ SqL K H a (ns.map V.int) ∧ TabG H Po ∧ ∀ H', Q (.bl true) H'
theorem ok_law {f fO fD fT fB fS fP fR fI Po : Addr} {fd fdO fdD fdT fdB fdS fdP fdR fdI : FuncData} (FL : Fun K "law" "law" sLaw f fd) (T : Zk mg)
    (FO : Fun K "_law_sopen" "_law_sopen" sOpn fO fdO) (bO : Binds K fdO ["script"] []) (gO : mg "_law_sopen" = some (.ref fO)) (GO : FnOk P w K mg base CX0 1 fO fdO ["script"] (spOpn K))
    (FD : Fun K "_law_sdraw" "_law_sdraw" sDrw fD fdD) (bD : Binds K fdD ["feed", "many"] []) (gD : mg "_law_sdraw" = some (.ref fD)) (GD : FnOk P w K mg base CX0 2 fD fdD ["feed", "many"] spDrw)
    (FT : Fun K "_law_sthings" "_law_sthings" sThg fT fdT) (bT : Binds K fdT ["feed", "least", "most"] []) (gT : mg "_law_sthings" = some (.ref fT)) (GT : FnOk P w K mg base CX0 3 fT fdT ["feed", "least", "most"] spThg)
    (FB : Fun K "_law_sbook" "_law_sbook" sBok fB fdB) (bB : Binds K fdB ["feed", "things", "most"] []) (gB : mg "_law_sbook" = some (.ref fB)) (GB : FnOk P w K mg base CX0 4 fB fdB ["feed", "things", "most"] spBok)
    (FS : Fun K "_law_stree" "_law_stree" sStt fS fdS) (bS : Binds K fdS ["feed", "book", "deep"] []) (gS : mg "_law_stree" = some (.ref fS)) (GS : FnOk P w K mg base CX0 13 fS fdS ["feed", "book", "deep"] (spStt 10))
    (FP : Fun K "_law_spieces" "_law_spieces" sSpc fP fdP) (bP : Binds K fdP ["tree"] []) (gP : mg "_law_spieces" = some (.ref fP)) (GP : FnOk P w K mg base CX0 41 fP fdP ["tree"] (spSpc 40))
    (FR : Fun K "_law_s_right" "_law_s_right" sRgt fR fdR) (bR : Binds K fdR ["book", "tree"] []) (gR : mg "_law_s_right" = some (.ref fR)) (GR : FnOk P w K mg base CX0 48 fR fdR ["book", "tree"] (spRgt Po))
    (FI : Fun K "_law_sring" "_law_sring" sSrg fI fdI) (bI : Binds K fdI ["feed"] []) (gI : mg "_law_sring" = some (.ref fI)) (GI : FnOk P w K mg base CX0 4 fI fdI ["feed"] (spTree 20000)) :
    Gd.FnG P w K mg base 50 f fd ["script"] (spLaw Po K) := by
  refine Gd.okG FL scL (fun vs H Q E h => ?_) (fun cdv A outer s H vs Q E gd0 hr h => ?_)
  · obtain ⟨a, ns, rfl, _⟩ := h
    rfl
  · obtain ⟨a, ns, rfl, hS, tg, q⟩ := h
    have hr1 : Room 1 _ := hr.mono (by decide)
    have hr2 : Room 2 _ := hr.mono (by decide)
    have hr3 : Room 3 _ := hr.mono (by decide)
    have hr4 : Room 4 _ := hr.mono (by decide)
    have hr13 : Room 13 _ := hr.mono (by decide)
    have hr41 : Room 41 _ := hr.mono (by decide)
    have hr48 : Room 48 _ := hr.mono (by decide)
    refine ⟨_, (Evl.pss_cut (ps_set (i := 1) scL.nd rfl (.inl rfl) (pe_call GO hr1 (by rfl) gO FO.kp bO .nil pass0 (pa_cons (pv 0) pa_nil)))
      (Evl.pss_cut (ps_for PassesOwn.never rfl (pi_range1 (by rfl) T.z_range (pa_cons pe_int pa_nil)) (pg_name (i := 2) scL.nd rfl (.inl rfl)) (Evl.pss_cut (ps_set (i := 3) scL.nd rfl (.inr rfl) (pe_call GB hr4 (by rfl) gB FB.kp bB .nil pass0 (pa_cons (pv 1) (pa_cons (pe_call GT hr3 (by rfl) gT FT.kp bT .nil pass0 (pa_cons (pv 1) (pa_cons pe_int (pa_cons (pe_ix ix_list (pe_lstN (pa_cons pe_int (pa_cons pe_int pa_nil))) (pe_call GD hr2 (by rfl) gD FD.kp bD .nil pass0 (pa_cons (pv 1) (pa_cons pe_int pa_nil))) (fun _ _ => rfl)) pa_nil)))) (pa_cons pe_int pa_nil)))))
      (Evl.pss_cut (ps_set (i := 4) scL.nd rfl (.inl rfl) (pe_ix ix_tup (pe_call GS hr13 (by rfl) gS FS.kp bS .nil pass0 (pa_cons (pv 1) (pa_cons (pv 3) (pa_cons (pe_op op_add pe_int (pe_call GD hr2 (by rfl) gD FD.kp bD .nil pass0 (pa_cons (pv 1) (pa_cons pe_int pa_nil)))) pa_nil)))) pe_int (fun _ _ => rfl)))
      (pss_one (ps_for PassesOwn.never rfl (pi_list (pe_slice sl_listN (pe_call GP hr41 (by rfl) gP FP.kp bP .nil pass0 (pa_cons (pv 4) pa_nil)) (po_some (pe_un un_neg pe_int)) po_none)) (pg_name (i := 5) scL.nd rfl (.inl rfl)) (pss_one (ps_if (pt_not (pt_val (pe_call GR hr48 (by rfl) gR FR.kp bR .nil pass0 (pa_cons (pv 3) (pa_cons (pv 5) pa_nil))))) pss_never pss_nil)))))))
      (Evl.pss_cut (ps_asg (pe_call GI hr4 (by rfl) gI FI.kp bI .nil pass0 (pa_cons (pv 1) pa_nil)) (pg_tup rfl (pgs_cons (pg_name (i := 3) scL.nd rfl (.inr rfl)) (pgs_cons (pg_name (i := 4) scL.nd rfl (.inl rfl)) pgs_nil))))
      (pss_one (ps_ret (pe_callB (cr_all rfl) (by rfl) T.z_all (by decide +kernel) (pa_cons (pe_lc (own := [("piece", 5)]) (g := (gName 5)) (tt := tYes) rfl scL.nd (pi_list (pe_slice sl_listN (pe_call GP hr41 (by rfl) gP FP.kp bP .nil pass0 (pa_cons (pv 4) pa_nil)) (po_some (pe_un un_neg pe_int)) po_none)) (blkOk_by (N := nLaw) (sc := defScope sLaw) (by decide +kernel)) (fun _ _ _ _ _ => (pg_name (i := 5) scL.nd rfl (.inl rfl))) (fun _ _ _ _ _ => pts_nil) (fun _ _ _ _ _ => (pe_call GR hr48 (by rfl) gR FR.kp bR .nil pass0 (pa_cons (pv 3) (pa_cons (pv 5) pa_nil))))) pa_nil))))))), ?_⟩
    refine Evl.q_cut (M := fun σ' H' => ∃ fe c : Addr, σ' = [some (.ref a), some (.ref fe), none, none, none, none] ∧ Feed H' fe c 0 ∧ TabG H' Po) ?_ ?_
    · exact ⟨.ref a, rfl, a, ns, rfl, hS, fun fe c H1 nf nc s1 F1 => ⟨fe, c, rfl, F1, (Ke.same (F := Nof) s1).tabs _ tg⟩⟩
    rintro σ' H1 ⟨fe, c, rfl, F1, t1⟩
    refine Evl.q_cut (M := fun σ' H' => ∃ y2 y3 y4 y5 : Option V, σ' = [some (.ref a), some (.ref fe), y2, y3, y4, y5] ∧ Feed H' fe c 100000 ∧ TabG H' Po) ?_ ?_
    · refine ⟨3, rfl, by decide, by decide, for_range (Pv := fun i σ H' => ∃ y2 y3 y4 y5 : Option V, σ = [some (.ref a), some (.ref fe), y2, y3, y4, y5] ∧ Feed H' fe c (30000 * i) ∧ TabG H' Po) ?_ ?_ ?_⟩
      · exact ⟨none, none, none, none, rfl, F1, t1⟩
      · rintro i σ H2 hi ⟨y2, y3, y4, y5, rfl, F2, t2⟩
        have hi : i < 3 := hi
        -- book
        refine Evl.q_cut (M := fun σ' H' => ∃ (b : V) (css : List (List Int)), σ' = [some (.ref a), some (.ref fe), some (.int (0 + (i : Int))), some b, y4, y5] ∧ Feed H' fe c (30000 * i + 1000) ∧ TabG H' Po ∧ Bk H' b css ∧ (∀ c ∈ css, IsCl c) ∧ 1 ≤ css.length ∧ css.length ≤ 16) ?_ ?_
        · refine ⟨_, rfl, _, rfl, by show 2 ≤ sizeLine; decide, fun p H3 np s3 hp _ => ?_⟩
          have F3 := F2.same s3
          refine ⟨_, rfl, fe, c, 2, _, rfl, by decide, by decide, F3, by omega, fun d H4 d0 d1 F4 b4 => ?_⟩
          have hp4 := (b4 p (F2.nf np)).trans hp
          have k4 : Ke (· = fe) H2 H4 := (Ke.same s3).trans (.but F3 b4)
          obtain ⟨mo, hm, hat⟩ := pick (ns := [4, 8]) d0 d1
          have hm2 : mo = 4 ∨ mo = 8 := by simpa using hm
          refine ⟨p, _, d, .int mo, rfl, rfl, .of hp4, hat, fe, c, 2, mo, _, rfl, by decide, by omega, by omega, F4, by omega, fun ks t H5 F5 k5 fr ht Tk l1 l2 => ?_⟩
          have ntf := (not_f fr F4).1
          refine ⟨fe, c, t, 7, _, ks, rfl, by decide, by decide, ht, Tk, (fun z => by rw [z] at l1; exact absurd l1 (by decide)), ntf, F5, by omega, fun css p H6 F6 k6 _ hb hc m1 m2 => ?_⟩
          exact ⟨_, css, rfl, F6.mono (by omega), ((k4.trans k5).trans k6).tabs _ t2, hb, fun c hc' => (hc c hc').1, m1, by omega⟩
        rintro σ' H3 ⟨b, css, rfl, F3, t3, hb, ib, m1, m2⟩
        -- tree
        refine Evl.q_cut (M := fun σ' H' => ∃ (x : V) (t : Tr.T) (ct : List Int), σ' = [some (.ref a), some (.ref fe), some (.int (0 + (i : Int))), some b, some x, y5] ∧ Feed H' fe c (30000 * i + 30000) ∧ TabG H' Po ∧ Bk H' b css ∧ At H' t x ∧ Tr.Cl css t ct ∧ t.depth ≤ 10 ∧ t.pieces ≤ 128) ?_ ?_
        · refine ⟨_, rfl, _, rfl, _, rfl, fe, c, 4, _, rfl, by decide, by decide, F3, by omega, fun d H4 d0 d1 F4 b4 => ?_⟩
          have k4 : Ke (· = fe) H3 H4 := .but F3 b4
          have g4 : 4 ^ ((3 + d).toNat + 1) ≤ 16384 := Nat.le_trans (pow_le (show (3 + d).toNat + 1 ≤ 7 by omega)).1 (by decide)
          have g2 : 2 ^ ((3 + d).toNat + 1) ≤ 128 := Nat.le_trans (pow_le (show (3 + d).toNat + 1 ≤ 7 by omega)).2 (by decide)
          refine ⟨_, _, rfl, rfl, fe, c, b, (3 + d).toNat, _, css, ?_, by omega, by omega, hb.ke k4, ib, m1, by omega, F4, by omega, fun v t ct H5 F5 k5 tc cl dp pc => ?_⟩
          · show [V.ref fe, b, V.int (3 + d)] = _
            rw [show (((3 + d).toNat : Nat) : Int) = 3 + d by omega]
          obtain ⟨p, x, y, rfl, hp, hx, hy⟩ := tc
          have k35 := k4.trans k5
          exact ⟨p, _, 0, x, rfl, rfl, .of hp, rfl, x, t, ct, rfl, F5.mono (by omega), k35.tabs _ t3, hb.ke k35, hx, cl, by omega, by omega⟩
        clear hb
        rintro σ' H4 ⟨x, t, ct, rfl, F4, t4, hb, ht, cl, dp, pc⟩
        refine ⟨_, rfl, x, t, rfl, ht, by omega, by omega, fun p vs H5 np s5 hp ap => ?_⟩
        refine ⟨_, rfl, _, rfl, p, _, rfl, .of hp, fun S H6 nS s6 hS6 _ => ?_⟩
        have k46 : Ke Nof H4 H6 := .same (s5.trans s6)
        refine ⟨S, rfl, ⟨_, .of hS6⟩, for_list (K := K) (a := S) (xs := cutV vs (some (-12)) none) (Pv := fun j σ H' => ∃ y5 : Option V, σ = [some (.ref a), some (.ref fe), some (.int (0 + (i : Int))), some b, some x, y5] ∧ Ke Nof H6 H') ?_ (fun j σ H' _ z => ?_) ?_ ?_⟩
        · exact ⟨y5, rfl, .refl _ _⟩
        · obtain ⟨_, _, kk⟩ := z
          exact .of (kk.lst hS6 fun z => z)
        · rintro j v σ H7 hv ⟨z5, rfl, k7⟩
          obtain ⟨sb, hsb, atv⟩ := piece_of ap hv
          obtain ⟨d1, d2, dc, hdc⟩ := Tr.T.all_sub cl sb hsb
          have k47 := k46.trans k7
          refine ⟨_, rfl, _, rfl, b, v, css, sb, dc, rfl, hb.ke k47, ib, (atv.ke (Ke.same (F := Nof) s6)).ke k7, by omega, by omega, hdc, k47.tabs _ t4, fun H8 k8 => ⟨true, rfl, ?_⟩⟩
          exact ⟨_, rfl, k7.trans k8⟩
        · rintro σ H7 ⟨z5, rfl, k7⟩
          have k47 := k46.trans k7
          exact ⟨_, _, _, _, rfl, (k47.feed F4).mono (by omega), k47.tabs _ t4⟩
      · rintro σ H2 ⟨y2, y3, y4, y5, rfl, F2, t2⟩
        exact ⟨y2, y3, y4, y5, rfl, F2.mono (by decide), t2⟩
    rintro σ' H2 ⟨y2, y3, y4, y5, rfl, F2, t2⟩
    -- the ring
    refine Evl.q_cut (M := fun σ' H' => ∃ (b x : V) (css : List (List Int)) (t : Tr.T) (ct : List Int), σ' = [some (.ref a), some (.ref fe), y2, some b, some x, y5] ∧ TabG H' Po ∧ Bk H' b css ∧ (∀ c ∈ css, IsCl c) ∧ At H' t x ∧ Tr.Cl css t ct ∧ t.depth ≤ 40 ∧ t.pieces ≤ 100) ?_ ?_
    · refine ⟨_, rfl, fe, c, _, rfl, F2, by decide, fun p b x css t ct H3 F3 k3 hp hb ib ht cl dp pc => ?_⟩
      exact ⟨p, _, rfl, .of hp, rfl, _, _, rfl, _, _, rfl, rfl, b, x, css, t, ct, rfl, k3.tabs _ t2, hb, ib, ht, cl, dp, pc⟩
    rintro σ' H3 ⟨b, x, css, t, ct, rfl, t3, hb, ib, ht, cl, dp, pc⟩
    refine ⟨_, rfl, x, t, rfl, ht, by omega, by omega, fun p vs H4 np s4 hp ap => ?_⟩
    refine ⟨_, rfl, _, rfl, p, _, rfl, .of hp, fun S H5 nS s5 hS5 _ => ?_⟩
    have k35 : Ke Nof H3 H5 := .same (s4.trans s5)
    have lv : (cutV vs (some (-12)) none).length ≤ 1000 := by
      have l1 := ap.1
      rw [Tr.T.all_len] at l1
      unfold cutV
      rw [List.length_take, List.length_drop]
      omega
    refine ⟨S, rfl, ⟨_, .of hS5⟩, fun D nD => ?_⟩
    refine lc_list (xs := cutV vs (some (-12)) none) (Pv := fun j H' => Ke Nof H5 H' ∧ H' D = some (.lst ((List.replicate j true).map V.bl))) ⟨.same (same_new nD), upd_same⟩ (fun j H' _ z => .of (z.1.lst hS5 fun z => z)) ?_ ?_
    · rintro j v H6 hv ⟨k6, hD⟩
      obtain ⟨sb, hsb, atv⟩ := piece_of ap hv
      obtain ⟨d1, d2, dc, hdc⟩ := Tr.T.all_sub cl sb hsb
      have lj := (List.getElem?_eq_some_iff.mp hv).1
      have k36 := k35.trans k6
      refine ⟨rfl, _, rfl, _, rfl, b, v, css, sb, dc, rfl, hb.ke k36, ib, (atv.ke (Ke.same (F := Nof) s5)).ke k6, by omega, by omega, hdc, k36.tabs _ t3, fun H7 k7 => ?_⟩
      refine ⟨_, k7.lst hD (fun z => z), ?_, (k6.trans k7).upd nD, ?_⟩
      · rw [List.length_map, List.length_replicate]
        exact small1000 (by omega)
      · rw [upd_same, List.replicate_succ', List.map_append]
        rfl
    · rintro H6 ⟨k6, hD⟩
      refine ⟨D, _, rfl, .of hD, ?_⟩
      have e : ∀ n : Nat, (List.replicate n true).all id = true := fun n => by
        rw [List.all_eq_true]
        intro x hx
        rw [List.eq_of_mem_replicate hx]
        rfl
      rw [e]
      exact q H6
end
end K24
namespace Eg
open PySem PySem.Spec PyProof.Rows L2 GxR Nw Dr Kp
/-! ### the end of a law that shows lists: defs whose code objects have tables -/
/-- what stands where a def's code object has its table -/
abbrev Own (K : PySem.W.Frag) (h : Heap) (mg : Str → Option Value) (ys : List Str) : Prop := ∀ y ∈ ys, ∀ f, mg y = some (.ref f) → LamX.OwnTab K f h
/-- what is to be known of a law at the heap h -/
def LawG (l : PySem.W.OpenLaw) (w : World) (K : PySem.W.Frag) (k m : Nat) (x : Str) (mg : Str → Option Value) (g : Addr) (h : Heap) : Prop :=
  ∃ (fd : FuncData) (cs : List (Addr × Addr)) (sp : Sp), (∀ p ∈ cs, h.get? p.2 = some (PySem.W.tabObj #[])) ∧ (∀ p ∈ cs, K.lookup p.2 = none) ∧ (∀ p ∈ cs, PySem.W.CodeHd h p.1 p.2) ∧ (∀ (s : Shared) (u : Value), BindsTo s fd ⟨[u], []⟩ [(x, u)]) ∧
    (∀ (H : Hp) (a : Addr) (ns : List Int), ns.length ≤ m → (∀ p ∈ cs, H p.2 = some (.tbl #[])) → SqL K H a (ns.map V.int) → sp [.ref a] H (fun v _ => v = .bl true) fun _ _ _ => False) ∧
    ∀ base : Heap, K.In base → base.Ns mainGlobals mg → (∀ p ∈ cs, LamX.TabB base mg p.1 p.2) → Gd.FnG l.prog w K mg base k g fd [x] sp
theorem walk_own {l : PySem.W.OpenLaw} {m k : Nat} {pr : Program} {ls : List Str} {XP : (Str → Option Value) → Heap → Prop} {YP : World → Heap → Prop} {d : DefRec} {K : Params → PySem.W.Frag} {x : Str} (ys : List Str)
    (e1 : l.most = some m) (e2 : m ≤ sizeLine) (e3 : d.params.defaults = []) (room : Room k callerA) (named : ∀ y ∈ ys, ((recsOf pr).any fun e => e.name == y) = true) (inK : ∀ (w : World) (h : Heap), YP w h → (K w.params).In h)
    (go : ∀ (w : World) (mg : Str → Option Value) (g : Addr) (h : Heap), YP w h → (K w.params).In h → h.Ns mainGlobals mg → mg d.name = some (.ref g) → Own (K w.params) h mg ys → LawG l w (K w.params) k m x mg g h) :
    PySem.W.WalkO pr ls XP YP l.row.toRowW d [] (fun f vs => PySem.call f vs) := by
  refine Att.attach_callB e1 e3 fun w s0 s1 mg mb fa o pm cd doc a us ns G Y ho hd hcd hmg hobj hints hlen hbits hg => ?_
  have inH := inK w _ Y
  have tabs : Own (K w.params) s1.heap mg ys := fun y hy f hf c P ob fd e dd vs sl q1 q2 q3 q4 q5 => by
    obtain ⟨r, hr1, hr2⟩ := List.any_eq_true.mp (named y hy)
    obtain ⟨f', ob', fd', c', P', t1, t2, t3, t4, t5, ⟨⟨oc, vc, u1, _, u3, u4⟩, u5⟩⟩ := G.T.tab r hr1
    rw [show r.name = y from beq_iff_eq.mp hr2, hf] at t1
    cases t1
    rw [inH _ _ q1] at t2
    cases t2
    rw [q2] at t3
    cases t3
    rw [q3] at t4
    cases t4
    rw [inH _ _ q4] at u1
    cases u1
    cases u3
    rw [q5] at u4
    cases u4
    exact u5
  obtain ⟨fd, cs, sp, h1, h2, h3, h4, h5, h6⟩ := go w mg fa _ Y inH G.T.g hmg tabs
  exact Gd.law_at inH G.T.g G.T.b G.T.builtins G.T.nolimit hg h1 h2 h3 G.T.bmain hobj hints (Nat.le_trans hlen e2) room h6 h4 fun H z1 z2 => h5 H a ns hlen z1 z2
end Eg
namespace K24
open PySem PySem.Spec PyProof.Rows L2 GxR Nw Dr Kp Se Cl Ct Lr Lp Tr Tl Rg Wd Tg Eg
theorem all_mk {l : PySem.W.OpenLaw} {w : World} {K : PySem.W.Frag} {h : Heap} {mg : Str → Option Value} {top : Addr} (X : K.In h) (G : h.Ns mainGlobals mg) (htop : mg "law" = some (.ref top)) (ow : Own K h mg ["has_opposites"]) {fM fD fO fT fC fB fS ft fp fd fr fw fi fg fx fq fW fE fN fI fG fJ fU fR fL gH cH PH : Addr}
    {od_fM an_fM : Option Addr} {sl_fM : Array (Option Value)} {oc_fM kV_fM dc_fM pm_fM ct_fM : Value} {cd_fM : Value} {od_fD an_fD : Option Addr} {sl_fD : Array (Option Value)} {oc_fD kV_fD dc_fD pm_fD ct_fD : Value} {cd_fD : Value} {od_fO an_fO : Option Addr} {sl_fO : Array (Option Value)} {oc_fO kV_fO dc_fO pm_fO ct_fO : Value} {cd_fO : Value} {od_fT an_fT : Option Addr} {sl_fT : Array (Option Value)} {oc_fT kV_fT dc_fT pm_fT ct_fT : Value} {cd_fT : Value} {od_fC an_fC : Option Addr} {sl_fC : Array (Option Value)} {oc_fC kV_fC dc_fC pm_fC ct_fC : Value} {cd_fC : Value} {od_fB an_fB : Option Addr} {sl_fB : Array (Option Value)} {oc_fB kV_fB dc_fB pm_fB ct_fB : Value} {cd_fB : Value} {od_fS an_fS : Option Addr} {sl_fS : Array (Option Value)} {oc_fS kV_fS dc_fS pm_fS ct_fS : Value} {cd_fS : Value} {od_ft an_ft : Option Addr} {sl_ft : Array (Option Value)} {oc_ft kV_ft dc_ft pm_ft ct_ft : Value} {cd_ft : Value} {od_fp an_fp : Option Addr} {sl_fp : Array (Option Value)} {oc_fp kV_fp dc_fp pm_fp ct_fp : Value} {cd_fp : Value} {od_fd an_fd : Option Addr} {sl_fd : Array (Option Value)} {oc_fd kV_fd dc_fd pm_fd ct_fd : Value} {cd_fd : Value} {od_fr an_fr : Option Addr} {sl_fr : Array (Option Value)} {oc_fr kV_fr dc_fr pm_fr ct_fr : Value} {cd_fr : Value} {od_fw an_fw : Option Addr} {sl_fw : Array (Option Value)} {oc_fw kV_fw dc_fw pm_fw ct_fw : Value} {cd_fw : Value} {od_fi an_fi : Option Addr} {sl_fi : Array (Option Value)} {oc_fi kV_fi dc_fi pm_fi ct_fi : Value} {cd_fi : Value} {od_fg an_fg : Option Addr} {sl_fg : Array (Option Value)} {oc_fg kV_fg dc_fg pm_fg ct_fg : Value} {cd_fg : Value} {od_fx an_fx : Option Addr} {sl_fx : Array (Option Value)} {oc_fx kV_fx dc_fx pm_fx ct_fx : Value} {cd_fx : Value} {od_fq an_fq : Option Addr} {sl_fq : Array (Option Value)} {oc_fq kV_fq dc_fq pm_fq ct_fq : Value} {cd_fq : Value} {od_fW an_fW : Option Addr} {sl_fW : Array (Option Value)} {oc_fW kV_fW dc_fW pm_fW ct_fW : Value} {cd_fW : Value} {od_fE an_fE : Option Addr} {sl_fE : Array (Option Value)} {oc_fE kV_fE dc_fE pm_fE ct_fE : Value} {cd_fE : Value} {od_fN an_fN : Option Addr} {sl_fN : Array (Option Value)} {oc_fN kV_fN dc_fN pm_fN ct_fN : Value} {cd_fN : Value} {od_fI an_fI : Option Addr} {sl_fI : Array (Option Value)} {oc_fI kV_fI dc_fI pm_fI ct_fI : Value} {cd_fI : Value} {od_fG an_fG : Option Addr} {sl_fG : Array (Option Value)} {oc_fG kV_fG dc_fG pm_fG ct_fG : Value} {cd_fG : Value} {od_fJ an_fJ : Option Addr} {sl_fJ : Array (Option Value)} {oc_fJ kV_fJ dc_fJ pm_fJ ct_fJ : Value} {cd_fJ : Value} {od_fU an_fU : Option Addr} {sl_fU : Array (Option Value)} {oc_fU kV_fU dc_fU pm_fU ct_fU : Value} {cd_fU : Value} {od_fR an_fR : Option Addr} {sl_fR : Array (Option Value)} {oc_fR kV_fR dc_fR pm_fR ct_fR : Value} {cd_fR : Value} {od_fL an_fL : Option Addr} {sl_fL : Array (Option Value)} {oc_fL kV_fL dc_fL pm_fL ct_fL : Value} {cd_fL : Value} {od_gH an_gH : Option Addr} {sl_gH : Array (Option Value)} {oc_gH kV_gH dc_gH pm_gH ct_gH : Value} {e_H : Value} {dd_H : Option Addr} {vs_H : Array Value} {sf_H : Array (Option Value)} {tk_MOST_THINGS : Tok}
    (b_fM : PySem.W.nsIn K mainGlobals "_law_smixed" = some (some (.ref fM)))
    (l_fM : K.lookup fM = some ⟨oc_fM, od_fM, .func (PySem.W.fnOf "_law_smixed" "_law_smixed" (defArgs sMix) (defBody sMix) (defScope sMix) .none kV_fM dc_fM pm_fM an_fM cd_fM ct_fM), sl_fM⟩)
    (c_fM : PySem.W.codeIn K cd_fM "_law_smixed" = true)
    (k_fM : PySem.W.keepIn K (.ref fM) = true)
    (b_fD : PySem.W.nsIn K mainGlobals "_law_sdraw" = some (some (.ref fD)))
    (l_fD : K.lookup fD = some ⟨oc_fD, od_fD, .func (PySem.W.fnOf "_law_sdraw" "_law_sdraw" (defArgs sDrw) (defBody sDrw) (defScope sDrw) .none kV_fD dc_fD pm_fD an_fD cd_fD ct_fD), sl_fD⟩)
    (c_fD : PySem.W.codeIn K cd_fD "_law_sdraw" = true)
    (k_fD : PySem.W.keepIn K (.ref fD) = true)
    (b_fO : PySem.W.nsIn K mainGlobals "_law_sopen" = some (some (.ref fO)))
    (l_fO : K.lookup fO = some ⟨oc_fO, od_fO, .func (PySem.W.fnOf "_law_sopen" "_law_sopen" (defArgs sOpn) (defBody sOpn) (defScope sOpn) .none kV_fO dc_fO pm_fO an_fO cd_fO ct_fO), sl_fO⟩)
    (c_fO : PySem.W.codeIn K cd_fO "_law_sopen" = true)
    (k_fO : PySem.W.keepIn K (.ref fO) = true)
    (b_fT : PySem.W.nsIn K mainGlobals "_law_sthings" = some (some (.ref fT)))
    (l_fT : K.lookup fT = some ⟨oc_fT, od_fT, .func (PySem.W.fnOf "_law_sthings" "_law_sthings" (defArgs sThg) (defBody sThg) (defScope sThg) .none kV_fT dc_fT pm_fT an_fT cd_fT ct_fT), sl_fT⟩)
    (c_fT : PySem.W.codeIn K cd_fT "_law_sthings" = true)
    (k_fT : PySem.W.keepIn K (.ref fT) = true)
    (b_fC : PySem.W.nsIn K mainGlobals "_law_sclaim" = some (some (.ref fC)))
    (l_fC : K.lookup fC = some ⟨oc_fC, od_fC, .func (PySem.W.fnOf "_law_sclaim" "_law_sclaim" (defArgs sClm) (defBody sClm) (defScope sClm) .none kV_fC dc_fC pm_fC an_fC cd_fC ct_fC), sl_fC⟩)
    (c_fC : PySem.W.codeIn K cd_fC "_law_sclaim" = true)
    (k_fC : PySem.W.keepIn K (.ref fC) = true)
    (b_fB : PySem.W.nsIn K mainGlobals "_law_sbook" = some (some (.ref fB)))
    (l_fB : K.lookup fB = some ⟨oc_fB, od_fB, .func (PySem.W.fnOf "_law_sbook" "_law_sbook" (defArgs sBok) (defBody sBok) (defScope sBok) .none kV_fB dc_fB pm_fB an_fB cd_fB ct_fB), sl_fB⟩)
    (c_fB : PySem.W.codeIn K cd_fB "_law_sbook" = true)
    (k_fB : PySem.W.keepIn K (.ref fB) = true)
    (b_fS : PySem.W.nsIn K mainGlobals "_law_scut" = some (some (.ref fS)))
    (l_fS : K.lookup fS = some ⟨oc_fS, od_fS, .func (PySem.W.fnOf "_law_scut" "_law_scut" (defArgs sSct) (defBody sSct) (defScope sSct) .none kV_fS dc_fS pm_fS an_fS cd_fS ct_fS), sl_fS⟩)
    (c_fS : PySem.W.codeIn K cd_fS "_law_scut" = true)
    (k_fS : PySem.W.keepIn K (.ref fS) = true)
    (b_ft : PySem.W.nsIn K mainGlobals "_law_stree" = some (some (.ref ft)))
    (l_ft : K.lookup ft = some ⟨oc_ft, od_ft, .func (PySem.W.fnOf "_law_stree" "_law_stree" (defArgs sStt) (defBody sStt) (defScope sStt) .none kV_ft dc_ft pm_ft an_ft cd_ft ct_ft), sl_ft⟩)
    (c_ft : PySem.W.codeIn K cd_ft "_law_stree" = true)
    (k_ft : PySem.W.keepIn K (.ref ft) = true)
    (b_fp : PySem.W.nsIn K mainGlobals "_law_spieces" = some (some (.ref fp)))
    (l_fp : K.lookup fp = some ⟨oc_fp, od_fp, .func (PySem.W.fnOf "_law_spieces" "_law_spieces" (defArgs sSpc) (defBody sSpc) (defScope sSpc) .none kV_fp dc_fp pm_fp an_fp cd_fp ct_fp), sl_fp⟩)
    (c_fp : PySem.W.codeIn K cd_fp "_law_spieces" = true)
    (k_fp : PySem.W.keepIn K (.ref fp) = true)
    (b_fd : PySem.W.nsIn K mainGlobals "_law_stree_claim" = some (some (.ref fd)))
    (l_fd : K.lookup fd = some ⟨oc_fd, od_fd, .func (PySem.W.fnOf "_law_stree_claim" "_law_stree_claim" (defArgs sStc) (defBody sStc) (defScope sStc) .none kV_fd dc_fd pm_fd an_fd cd_fd ct_fd), sl_fd⟩)
    (c_fd : PySem.W.codeIn K cd_fd "_law_stree_claim" = true)
    (k_fd : PySem.W.keepIn K (.ref fd) = true)
    (b_fr : PySem.W.nsIn K mainGlobals "_law_sring" = some (some (.ref fr)))
    (l_fr : K.lookup fr = some ⟨oc_fr, od_fr, .func (PySem.W.fnOf "_law_sring" "_law_sring" (defArgs sSrg) (defBody sSrg) (defScope sSrg) .none kV_fr dc_fr pm_fr an_fr cd_fr ct_fr), sl_fr⟩)
    (c_fr : PySem.W.codeIn K cd_fr "_law_sring" = true)
    (k_fr : PySem.W.keepIn K (.ref fr) = true)
    (b_fw : PySem.W.nsIn K mainGlobals "_law_swhole" = some (some (.ref fw)))
    (l_fw : K.lookup fw = some ⟨oc_fw, od_fw, .func (PySem.W.fnOf "_law_swhole" "_law_swhole" (defArgs sSwh) (defBody sSwh) (defScope sSwh) .none kV_fw dc_fw pm_fw an_fw cd_fw ct_fw), sl_fw⟩)
    (c_fw : PySem.W.codeIn K cd_fw "_law_swhole" = true)
    (k_fw : PySem.W.keepIn K (.ref fw) = true)
    (b_fi : PySem.W.nsIn K mainGlobals "_law_sis_tree" = some (some (.ref fi)))
    (l_fi : K.lookup fi = some ⟨oc_fi, od_fi, .func (PySem.W.fnOf "_law_sis_tree" "_law_sis_tree" (defArgs sSit) (defBody sSit) (defScope sSit) .none kV_fi dc_fi pm_fi an_fi cd_fi ct_fi), sl_fi⟩)
    (c_fi : PySem.W.codeIn K cd_fi "_law_sis_tree" = true)
    (k_fi : PySem.W.keepIn K (.ref fi) = true)
    (b_fg : PySem.W.nsIn K mainGlobals "_law_sregular" = some (some (.ref fg)))
    (l_fg : K.lookup fg = some ⟨oc_fg, od_fg, .func (PySem.W.fnOf "_law_sregular" "_law_sregular" (defArgs sSre) (defBody sSre) (defScope sSre) .none kV_fg dc_fg pm_fg an_fg cd_fg ct_fg), sl_fg⟩)
    (c_fg : PySem.W.codeIn K cd_fg "_law_sregular" = true)
    (k_fg : PySem.W.keepIn K (.ref fg) = true)
    (b_fx : PySem.W.nsIn K mainGlobals "_law_swide" = some (some (.ref fx)))
    (l_fx : K.lookup fx = some ⟨oc_fx, od_fx, .func (PySem.W.fnOf "_law_swide" "_law_swide" (defArgs sSwd) (defBody sSwd) (defScope sSwd) .none kV_fx dc_fx pm_fx an_fx cd_fx ct_fx), sl_fx⟩)
    (c_fx : PySem.W.codeIn K cd_fx "_law_swide" = true)
    (k_fx : PySem.W.keepIn K (.ref fx) = true)
    (b_fq : PySem.W.nsIn K mainGlobals "_law_s_right" = some (some (.ref fq)))
    (l_fq : K.lookup fq = some ⟨oc_fq, od_fq, .func (PySem.W.fnOf "_law_s_right" "_law_s_right" (defArgs sRgt) (defBody sRgt) (defScope sRgt) .none kV_fq dc_fq pm_fq an_fq cd_fq ct_fq), sl_fq⟩)
    (c_fq : PySem.W.codeIn K cd_fq "_law_s_right" = true)
    (k_fq : PySem.W.keepIn K (.ref fq) = true)
    (b_fW : PySem.W.nsIn K mainGlobals "is_whole" = some (some (.ref fW)))
    (l_fW : K.lookup fW = some ⟨oc_fW, od_fW, .func (PySem.W.fnOf "is_whole" "is_whole" (defArgs sWho) (defBody sWho) (defScope sWho) .none kV_fW dc_fW pm_fW an_fW cd_fW ct_fW), sl_fW⟩)
    (c_fW : PySem.W.codeIn K cd_fW "is_whole" = true)
    (k_fW : PySem.W.keepIn K (.ref fW) = true)
    (b_fE : PySem.W.nsIn K mainGlobals "can_meet" = some (some (.ref fE)))
    (l_fE : K.lookup fE = some ⟨oc_fE, od_fE, .func (PySem.W.fnOf "can_meet" "can_meet" (defArgs sCme) (defBody sCme) (defScope sCme) .none kV_fE dc_fE pm_fE an_fE cd_fE ct_fE), sl_fE⟩)
    (c_fE : PySem.W.codeIn K cd_fE "can_meet" = true)
    (k_fE : PySem.W.keepIn K (.ref fE) = true)
    (b_fN : PySem.W.nsIn K mainGlobals "cut_or_none" = some (some (.ref fN)))
    (l_fN : K.lookup fN = some ⟨oc_fN, od_fN, .func (PySem.W.fnOf "cut_or_none" "cut_or_none" (defArgs sCon) (defBody sCon) (defScope sCon) .none kV_fN dc_fN pm_fN an_fN cd_fN ct_fN), sl_fN⟩)
    (c_fN : PySem.W.codeIn K cd_fN "cut_or_none" = true)
    (k_fN : PySem.W.keepIn K (.ref fN) = true)
    (b_fI : PySem.W.nsIn K mainGlobals "is_regular_under" = some (some (.ref fI)))
    (l_fI : K.lookup fI = some ⟨oc_fI, od_fI, .func (PySem.W.fnOf "is_regular_under" "is_regular_under" (defArgs sIru) (defBody sIru) (defScope sIru) .none kV_fI dc_fI pm_fI an_fI cd_fI ct_fI), sl_fI⟩)
    (c_fI : PySem.W.codeIn K cd_fI "is_regular_under" = true)
    (k_fI : PySem.W.keepIn K (.ref fI) = true)
    (b_fG : PySem.W.nsIn K mainGlobals "is_regular" = some (some (.ref fG)))
    (l_fG : K.lookup fG = some ⟨oc_fG, od_fG, .func (PySem.W.fnOf "is_regular" "is_regular" (defArgs sIrg) (defBody sIrg) (defScope sIrg) .none kV_fG dc_fG pm_fG an_fG cd_fG ct_fG), sl_fG⟩)
    (c_fG : PySem.W.codeIn K cd_fG "is_regular" = true)
    (k_fG : PySem.W.keepIn K (.ref fG) = true)
    (b_fJ : PySem.W.nsIn K mainGlobals "joined" = some (some (.ref fJ)))
    (l_fJ : K.lookup fJ = some ⟨oc_fJ, od_fJ, .func (PySem.W.fnOf "joined" "joined" (defArgs sJnd) (defBody sJnd) (defScope sJnd) .none kV_fJ dc_fJ pm_fJ an_fJ cd_fJ ct_fJ), sl_fJ⟩)
    (c_fJ : PySem.W.codeIn K cd_fJ "joined" = true)
    (k_fJ : PySem.W.keepIn K (.ref fJ) = true)
    (b_fU : PySem.W.nsIn K mainGlobals "regular_under" = some (some (.ref fU)))
    (l_fU : K.lookup fU = some ⟨oc_fU, od_fU, .func (PySem.W.fnOf "regular_under" "regular_under" (defArgs sRgu) (defBody sRgu) (defScope sRgu) .none kV_fU dc_fU pm_fU an_fU cd_fU ct_fU), sl_fU⟩)
    (c_fU : PySem.W.codeIn K cd_fU "regular_under" = true)
    (k_fU : PySem.W.keepIn K (.ref fU) = true)
    (b_fR : PySem.W.nsIn K mainGlobals "made_regular" = some (some (.ref fR)))
    (l_fR : K.lookup fR = some ⟨oc_fR, od_fR, .func (PySem.W.fnOf "made_regular" "made_regular" (defArgs sMrg) (defBody sMrg) (defScope sMrg) .none kV_fR dc_fR pm_fR an_fR cd_fR ct_fR), sl_fR⟩)
    (c_fR : PySem.W.codeIn K cd_fR "made_regular" = true)
    (k_fR : PySem.W.keepIn K (.ref fR) = true)
    (b_fL : PySem.W.nsIn K mainGlobals "law" = some (some (.ref fL)))
    (l_fL : K.lookup fL = some ⟨oc_fL, od_fL, .func (PySem.W.fnOf "law" "law" (defArgs sLaw) (defBody sLaw) (defScope sLaw) .none kV_fL dc_fL pm_fL an_fL cd_fL ct_fL), sl_fL⟩)
    (c_fL : PySem.W.codeIn K cd_fL "law" = true)
    (k_fL : PySem.W.keepIn K (.ref fL) = true)
    (b_gH : PySem.W.nsIn K mainGlobals "has_opposites" = some (some (.ref gH)))
    (l_gH : K.lookup gH = some ⟨oc_gH, od_gH, .func (PySem.W.fnOf "has_opposites" "has_opposites" (defArgs sHop) (defBody sHop) (defScope sHop) .none kV_gH dc_gH pm_gH an_gH (.ref cH) ct_gH), sl_gH⟩)
    (c_gH : PySem.W.codeIn K (.ref cH) "has_opposites" = true)
    (k_gH : PySem.W.keepIn K (.ref gH) = true)
    (lc_H : K.lookup cH = some ⟨e_H, dd_H, .fields vs_H, sf_H⟩)
    (v_H : vs_H[11]? = some (Value.ref PH))
    (hd_H : PySem.W.codeHdIn K cH PH = true)
    (np_H : K.lookup PH = none)
    (b_MOST_THINGS : PySem.W.nsIn K mainGlobals "MOST_THINGS" = some (some (.int 8 tk_MOST_THINGS)))
    (z_range : PySem.W.nsIn K mainGlobals "range" = some none)
    (z_isinstance : PySem.W.nsIn K mainGlobals "isinstance" = some none)
    (z_len : PySem.W.nsIn K mainGlobals "len" = some none)
    (z_list : PySem.W.nsIn K mainGlobals "list" = some none)
    (z_min : PySem.W.nsIn K mainGlobals "min" = some none)
    (z_tuple : PySem.W.nsIn K mainGlobals "tuple" = some none)
    (z_sorted : PySem.W.nsIn K mainGlobals "sorted" = some none)
    (z_set : PySem.W.nsIn K mainGlobals "set" = some none)
    (z_abs : PySem.W.nsIn K mainGlobals "abs" = some none)
    (z_any : PySem.W.nsIn K mainGlobals "any" = some none)
    (z_all : PySem.W.nsIn K mainGlobals "all" = some none)
    (z_bool : PySem.W.nsIn K mainGlobals "bool" = some none)
    (z_int : PySem.W.nsIn K mainGlobals "int" = some none)
    (z_zip : PySem.W.nsIn K mainGlobals "zip" = some none)
    (z_enumerate : PySem.W.nsIn K mainGlobals "enumerate" = some none) :
    LawG l w K 50 63 "script" mg top h := by
  have e := htop.symm.trans (PySem.W.mg_of X G b_fL)
  cases e
  have F_fM := fun_mk (st := sMix) l_fM c_fM k_fM
  have B_fM := F_fM.binds (ps := ["cell", "at"]) fun _ _ _ _ _ _ us hl => match us, hl with | [_, _], _ => rfl
  have g_fM := PySem.W.mg_of X G b_fM
  have F_fD := fun_mk (st := sDrw) l_fD c_fD k_fD
  have B_fD := F_fD.binds (ps := ["feed", "many"]) fun _ _ _ _ _ _ us hl => match us, hl with | [_, _], _ => rfl
  have g_fD := PySem.W.mg_of X G b_fD
  have F_fO := fun_mk (st := sOpn) l_fO c_fO k_fO
  have B_fO := F_fO.binds (ps := ["script"]) fun _ _ _ _ _ _ us hl => match us, hl with | [_], _ => rfl
  have g_fO := PySem.W.mg_of X G b_fO
  have F_fT := fun_mk (st := sThg) l_fT c_fT k_fT
  have B_fT := F_fT.binds (ps := ["feed", "least", "most"]) fun _ _ _ _ _ _ us hl => match us, hl with | [_, _, _], _ => rfl
  have g_fT := PySem.W.mg_of X G b_fT
  have F_fC := fun_mk (st := sClm) l_fC c_fC k_fC
  have B_fC := F_fC.binds (ps := ["feed", "things", "most"]) fun _ _ _ _ _ _ us hl => match us, hl with | [_, _, _], _ => rfl
  have g_fC := PySem.W.mg_of X G b_fC
  have F_fB := fun_mk (st := sBok) l_fB c_fB k_fB
  have B_fB := F_fB.binds (ps := ["feed", "things", "most"]) fun _ _ _ _ _ _ us hl => match us, hl with | [_, _, _], _ => rfl
  have g_fB := PySem.W.mg_of X G b_fB
  have F_fS := fun_mk (st := sSct) l_fS c_fS k_fS
  have B_fS := F_fS.binds (ps := ["one", "other", "k"]) fun _ _ _ _ _ _ us hl => match us, hl with | [_, _, _], _ => rfl
  have g_fS := PySem.W.mg_of X G b_fS
  have F_ft := fun_mk (st := sStt) l_ft c_ft k_ft
  have B_ft := F_ft.binds (ps := ["feed", "book", "deep"]) fun _ _ _ _ _ _ us hl => match us, hl with | [_, _, _], _ => rfl
  have g_ft := PySem.W.mg_of X G b_ft
  have F_fp := fun_mk (st := sSpc) l_fp c_fp k_fp
  have B_fp := F_fp.binds (ps := ["tree"]) fun _ _ _ _ _ _ us hl => match us, hl with | [_], _ => rfl
  have g_fp := PySem.W.mg_of X G b_fp
  have F_fd := fun_mk (st := sStc) l_fd c_fd k_fd
  have B_fd := F_fd.binds (ps := ["book", "tree"]) fun _ _ _ _ _ _ us hl => match us, hl with | [_, _], _ => rfl
  have g_fd := PySem.W.mg_of X G b_fd
  have F_fr := fun_mk (st := sSrg) l_fr c_fr k_fr
  have B_fr := F_fr.binds (ps := ["feed"]) fun _ _ _ _ _ _ us hl => match us, hl with | [_], _ => rfl
  have g_fr := PySem.W.mg_of X G b_fr
  have F_fw := fun_mk (st := sSwh) l_fw c_fw k_fw
  have B_fw := F_fw.binds (ps := ["thing"]) fun _ _ _ _ _ _ us hl => match us, hl with | [_], _ => rfl
  have g_fw := PySem.W.mg_of X G b_fw
  have F_fi := fun_mk (st := sSit) l_fi c_fi k_fi
  have B_fi := F_fi.binds (ps := ["book", "thing", "left"]) fun _ _ _ _ _ _ us hl => match us, hl with | [_, _, _], _ => rfl
  have g_fi := PySem.W.mg_of X G b_fi
  have F_fg := fun_mk (st := sSre) l_fg c_fg k_fg
  have B_fg := F_fg.binds (ps := ["tree", "above"]) fun _ _ _ _ _ _ us hl => match us, hl with | [_, _], _ => rfl
  have g_fg := PySem.W.mg_of X G b_fg
  have F_fx := fun_mk (st := sSwd) l_fx c_fx k_fx
  have B_fx := F_fx.binds (ps := ["one", "other"]) fun _ _ _ _ _ _ us hl => match us, hl with | [_, _], _ => rfl
  have g_fx := PySem.W.mg_of X G b_fx
  have F_fq := fun_mk (st := sRgt) l_fq c_fq k_fq
  have B_fq := F_fq.binds (ps := ["book", "tree"]) fun _ _ _ _ _ _ us hl => match us, hl with | [_, _], _ => rfl
  have g_fq := PySem.W.mg_of X G b_fq
  have F_fW := fun_mk (st := sWho) l_fW c_fW k_fW
  have B_fW := F_fW.binds (ps := ["thing"]) fun _ _ _ _ _ _ us hl => match us, hl with | [_], _ => rfl
  have g_fW := PySem.W.mg_of X G b_fW
  have F_fE := fun_mk (st := sCme) l_fE c_fE k_fE
  have B_fE := F_fE.binds (ps := ["one", "other", "k"]) fun _ _ _ _ _ _ us hl => match us, hl with | [_, _, _], _ => rfl
  have g_fE := PySem.W.mg_of X G b_fE
  have F_fN := fun_mk (st := sCon) l_fN c_fN k_fN
  have B_fN := F_fN.binds (ps := ["one", "other", "k"]) fun _ _ _ _ _ _ us hl => match us, hl with | [_, _, _], _ => rfl
  have g_fN := PySem.W.mg_of X G b_fN
  have F_fI := fun_mk (st := sIru) l_fI c_fI k_fI
  have B_fI := F_fI.binds (ps := ["tree", "things"]) fun _ _ _ _ _ _ us hl => match us, hl with | [_, _], _ => rfl
  have g_fI := PySem.W.mg_of X G b_fI
  have F_fG := fun_mk (st := sIrg) l_fG c_fG k_fG
  have B_fG := F_fG.binds (ps := ["tree"]) fun _ _ _ _ _ _ us hl => match us, hl with | [_], _ => rfl
  have g_fG := PySem.W.mg_of X G b_fG
  have F_fJ := fun_mk (st := sJnd) l_fJ c_fJ k_fJ
  have B_fJ := F_fJ.binds (ps := ["one", "other", "k"]) fun _ _ _ _ _ _ us hl => match us, hl with | [_, _, _], _ => rfl
  have g_fJ := PySem.W.mg_of X G b_fJ
  have F_fU := fun_mk (st := sRgu) l_fU c_fU k_fU
  have B_fU := F_fU.binds (ps := ["book", "tree", "says"]) fun _ _ _ _ _ _ us hl => match us, hl with | [_, _, _], _ => rfl
  have g_fU := PySem.W.mg_of X G b_fU
  have F_fR := fun_mk (st := sMrg) l_fR c_fR k_fR
  have B_fR := F_fR.binds (ps := ["book", "tree"]) fun _ _ _ _ _ _ us hl => match us, hl with | [_, _], _ => rfl
  have g_fR := PySem.W.mg_of X G b_fR
  have F_fL := fun_mk (st := sLaw) l_fL c_fL k_fL
  have B_fL := F_fL.binds (ps := ["script"]) fun _ _ _ _ _ _ us hl => match us, hl with | [_], _ => rfl
  have g_fL := PySem.W.mg_of X G b_fL
  have F_gH := fun_mk (st := sHop) l_gH c_gH k_gH
  have B_gH := F_gH.binds (ps := ["says"]) fun _ _ _ _ _ _ us hl => match us, hl with | [_], _ => rfl
  have g_gH := PySem.W.mg_of X G b_gH
  have C_gH : Se.FunC K "has_opposites" "has_opposites" sHop gH cH _ := ⟨⟨_, _, _, _, _, _, _, _, rfl, l_gH, c_gH⟩, k_gH⟩
  have M_MOST_THINGS := PySem.W.mg_of X G b_MOST_THINGS
  have Z_range := PySem.W.mg_none_of X G z_range
  have Z_isinstance := PySem.W.mg_none_of X G z_isinstance
  have Z_len := PySem.W.mg_none_of X G z_len
  have Z_list := PySem.W.mg_none_of X G z_list
  have Z_min := PySem.W.mg_none_of X G z_min
  have Z_tuple := PySem.W.mg_none_of X G z_tuple
  have Z_sorted := PySem.W.mg_none_of X G z_sorted
  have Z_set := PySem.W.mg_none_of X G z_set
  have Z_abs := PySem.W.mg_none_of X G z_abs
  have Z_any := PySem.W.mg_none_of X G z_any
  have Z_all := PySem.W.mg_none_of X G z_all
  have Z_bool := PySem.W.mg_none_of X G z_bool
  have Z_int := PySem.W.mg_none_of X G z_int
  have Z_zip := PySem.W.mg_none_of X G z_zip
  have Z_enumerate := PySem.W.mg_none_of X G z_enumerate
  refine ⟨PySem.W.fnOf "law" "law" (defArgs sLaw) (defBody sLaw) (defScope sLaw) .none kV_fL dc_fL pm_fL an_fL cd_fL ct_fL, [(cH, PH)], spLaw PH K, ?_, ?_, ?_, fun s u => .of_eq rfl, fun H a ns _ hT hS => ?_, fun base hb hn hT => ?_⟩
  · intro p hp
    simp only [List.mem_cons, List.not_mem_nil, or_false] at hp
    rcases hp with rfl
    · exact ow "has_opposites" (by simp) _ g_gH cH PH _ _ _ _ _ _ l_gH rfl rfl lc_H v_H
  · intro p hp
    simp only [List.mem_cons, List.not_mem_nil, or_false] at hp
    rcases hp with rfl
    · exact np_H
  · intro p hp
    simp only [List.mem_cons, List.not_mem_nil, or_false] at hp
    rcases hp with rfl
    · exact PySem.W.codeHd_of_K X hd_H
  · exact ⟨a, ns, rfl, hS, ⟨#[], hT (cH, PH) (by simp), trivial⟩, fun _ => rfl⟩
  · have t_H := hT (cH, PH) (by simp)
    have T_H : TabB base mg cH PH := ⟨t_H.code, t_H.bm, t_H.gP⟩
    have Ts : Zs mg := ⟨Z_len, Z_list, Z_range, Z_min, Z_tuple, Z_sorted⟩
    have Tc : Zc mg := ⟨Z_any, Z_isinstance, Z_int, Z_bool, Z_tuple, Z_sorted, Z_set⟩
    have Td : Zd mg := ⟨Z_tuple, Z_sorted, Z_set, Z_abs⟩
    have Tv : Zv mg := ⟨Z_len, Z_range, Z_tuple, Z_sorted, Z_zip⟩
    have Tgg : Zg mg := ⟨Z_len, Z_isinstance, Z_tuple, Z_int, Z_bool, Z_all⟩
    have Tw : Wd.Zw mg := ⟨Z_len, Z_all, Z_tuple, Z_range, Z_enumerate⟩
    have Tk : Zk mg := ⟨Z_range, Z_all⟩
    have GD : FnOk l.prog w K mg base CX0 2 fD _ ["feed", "many"] spDrw := ok_drw F_fD F_fM B_fM g_fM Z_len
    have GO : FnOk l.prog w K mg base CX0 1 fO _ ["script"] (spOpn K) := ok_opn F_fO Z_list
    have GT : FnOk l.prog w K mg base CX0 3 fT _ ["feed", "least", "most"] spThg := ok_thg F_fT Ts F_fD B_fD g_fD GD
    have GC : FnOk l.prog w K mg base CX0 3 fC _ ["feed", "things", "most"] spClm := ok_clm F_fC Ts F_fD B_fD g_fD GD
    have GB : FnOk l.prog w K mg base CX0 4 fB _ ["feed", "things", "most"] spBok := ok_bok F_fB Ts F_fD B_fD g_fD GD F_fC B_fC g_fC GC
    have GS : FnOk l.prog w K mg base CX0 1 fS _ ["one", "other", "k"] spSct := ok_sct F_fS Td
    have Gt : FnOk l.prog w K mg base CX0 13 ft _ ["feed", "book", "deep"] (spStt 10) := ok_stt F_ft Tv B_ft g_ft F_fD B_fD g_fD GD F_fS B_fS g_fS GS 10
    have Gp : FnOk l.prog w K mg base CX0 41 fp _ ["tree"] (spSpc 40) := ok_spc F_fp B_fp g_fp 40
    have Gd' : FnOk l.prog w K mg base CX0 42 fd _ ["book", "tree"] (spStc 40) := ok_stc F_fd B_fd g_fd F_fS B_fS g_fS GS 40
    have Gr : FnOk l.prog w K mg base CX0 4 fr _ ["feed"] (spTree 20000) := ok_srg F_fr Tv F_fD B_fD g_fD GD F_fT B_fT g_fT GT
    have Gw : FnOk l.prog w K mg base CX0 1 fw _ ["thing"] spWho := Tg.ok_swh F_fw Tgg
    have Gi : FnOk l.prog w K mg base CX0 42 fi _ ["book", "thing", "left"] (spSit 40) := ok_sit F_fi Tgg B_fi g_fi F_fw B_fw g_fw Gw 40
    have Gg : FnOk l.prog w K mg base CX0 41 fg _ ["tree", "above"] (spIru 40) := ok_sre F_fg Tgg B_fg g_fg 40
    have Gx : FnOk l.prog w K mg base CX0 1 fx _ ["one", "other"] Wd.spSwd := Wd.ok_swd F_fx Tw
    have GW : FnOk l.prog w K mg base CX0 1 fW _ ["thing"] spWho := ok_who F_fW Tc
    have GE : FnOk l.prog w K mg base CX0 2 fE _ ["one", "other", "k"] spCme := ok_cme F_fE Tc M_MOST_THINGS F_fW B_fW g_fW GW
    have GH : FnOk l.prog w K mg base CX0 3 gH _ ["says"] (spHop PH) := ok_hop C_gH Tc T_H
    have GN : FnOk l.prog w K mg base CX0 4 fN _ ["one", "other", "k"] (spCon PH) := ok_con F_fN Tc F_fE B_fE g_fE GE k_gH B_gH g_gH GH
    have GI : FnOk l.prog w K mg base CX0 41 fI _ ["tree", "things"] (spIru 40) := ok_iru F_fI B_fI g_fI 40
    have GG : FnOk l.prog w K mg base CX0 42 fG _ ["tree"] spIrg := ok_irg F_fG F_fI B_fI g_fI GI
    have GJ : FnOk l.prog w K mg base CX0 5 fJ _ ["one", "other", "k"] (spJnd PH) := ok_jnd F_fJ F_fN B_fN g_fN GN
    have GU : FnOk l.prog w K mg base CX0 46 fU _ ["book", "tree", "says"] (spRgu PH 40) := ok_rgu F_fU B_fU g_fU F_fJ B_fJ g_fJ GJ 40
    have GR : FnOk l.prog w K mg base CX0 47 fR _ ["book", "tree"] (spMrg PH) := ok_mrg F_fR F_fU B_fU g_fU GU
    have Gq : FnOk l.prog w K mg base CX0 48 fq _ ["book", "tree"] (spRgt PH) := ok_rgt F_fq Tgg F_fG B_fG g_fG GG F_fg B_fg g_fg Gg F_fR B_fR g_fR GR F_fi B_fi g_fi Gi F_fd B_fd g_fd Gd' F_fx B_fx g_fx Gx F_fp B_fp g_fp Gp
    exact ok_law F_fL Tk F_fO B_fO g_fO GO F_fD B_fD g_fD GD F_fT B_fT g_fT GT F_fB B_fB g_fB GB F_ft B_ft g_ft Gt F_fp B_fp g_fp Gp F_fq B_fq g_fq Gq F_fr B_fr g_fr Gr
end K24
open PySem PySem.W PyProof.Rows
set_option maxHeartbeats 0 in
theorem PySem.Challenge.cw_sparecut_k24_regular_trees_holds : PySem.Challenge.rw_sparecut_k24_regular_trees.Holds := by
  w_on; o_law; k_head; (case hw => w_witness2)
  k_fill
  refine Eg.walk_own (l := PySem.Challenge.rw_sparecut_k24_regular_trees) (m := 63) (k := 50) (x := "script") ["has_opposites"] rfl (by decide) rfl ⟨rfl, by decide, by decide⟩ (by decide +kernel) (fun w h Y => PySem.W.kIn_of Y) ?F
  case F =>
    intro w mg fa h Y KX G hmg ow
    refine' K24.all_mk KX G hmg ow ?b_fM ?l_fM ?c_fM ?k_fM ?b_fD ?l_fD ?c_fD ?k_fD ?b_fO ?l_fO ?c_fO ?k_fO ?b_fT ?l_fT ?c_fT ?k_fT ?b_fC ?l_fC ?c_fC ?k_fC ?b_fB ?l_fB ?c_fB ?k_fB ?b_fS ?l_fS ?c_fS ?k_fS ?b_ft ?l_ft ?c_ft ?k_ft ?b_fp ?l_fp ?c_fp ?k_fp ?b_fd ?l_fd ?c_fd ?k_fd ?b_fr ?l_fr ?c_fr ?k_fr ?b_fw ?l_fw ?c_fw ?k_fw ?b_fi ?l_fi ?c_fi ?k_fi ?b_fg ?l_fg ?c_fg ?k_fg ?b_fx ?l_fx ?c_fx ?k_fx ?b_fq ?l_fq ?c_fq ?k_fq ?b_fW ?l_fW ?c_fW ?k_fW ?b_fE ?l_fE ?c_fE ?k_fE ?b_fN ?l_fN ?c_fN ?k_fN ?b_fI ?l_fI ?c_fI ?k_fI ?b_fG ?l_fG ?c_fG ?k_fG ?b_fJ ?l_fJ ?c_fJ ?k_fJ ?b_fU ?l_fU ?c_fU ?k_fU ?b_fR ?l_fR ?c_fR ?k_fR ?b_fL ?l_fL ?c_fL ?k_fL ?b_gH ?l_gH ?c_gH ?k_gH ?lc_H ?v_H ?hd_H ?np_H ?b_MOST_THINGS ?z_range ?z_isinstance ?z_len ?z_list ?z_min ?z_tuple ?z_sorted ?z_set ?z_abs ?z_any ?z_all ?z_bool ?z_int ?z_zip ?z_enumerate
    (case b_fM => k_is)
    (case l_fM => k_is)
    (case c_fM => k_is)
    (case k_fM => k_is)
    (case b_fD => k_is)
    (case l_fD => k_is)
    (case c_fD => k_is)
    (case k_fD => k_is)
    (case b_fO => k_is)
    (case l_fO => k_is)
    (case c_fO => k_is)
    (case k_fO => k_is)
    (case b_fT => k_is)
    (case l_fT => k_is)
    (case c_fT => k_is)
    (case k_fT => k_is)
    (case b_fC => k_is)
    (case l_fC => k_is)
    (case c_fC => k_is)
    (case k_fC => k_is)
    (case b_fB => k_is)
    (case l_fB => k_is)
    (case c_fB => k_is)
    (case k_fB => k_is)
    (case b_fS => k_is)
    (case l_fS => k_is)
    (case c_fS => k_is)
    (case k_fS => k_is)
    (case b_ft => k_is)
    (case l_ft => k_is)
    (case c_ft => k_is)
    (case k_ft => k_is)
    (case b_fp => k_is)
    (case l_fp => k_is)
    (case c_fp => k_is)
    (case k_fp => k_is)
    (case b_fd => k_is)
    (case l_fd => k_is)
    (case c_fd => k_is)
    (case k_fd => k_is)
    (case b_fr => k_is)
    (case l_fr => k_is)
    (case c_fr => k_is)
    (case k_fr => k_is)
    (case b_fw => k_is)
    (case l_fw => k_is)
    (case c_fw => k_is)
    (case k_fw => k_is)
    (case b_fi => k_is)
    (case l_fi => k_is)
    (case c_fi => k_is)
    (case k_fi => k_is)
    (case b_fg => k_is)
    (case l_fg => k_is)
    (case c_fg => k_is)
    (case k_fg => k_is)
    (case b_fx => k_is)
    (case l_fx => k_is)
    (case c_fx => k_is)
    (case k_fx => k_is)
    (case b_fq => k_is)
    (case l_fq => k_is)
    (case c_fq => k_is)
    (case k_fq => k_is)
    (case b_fW => k_is)
    (case l_fW => k_is)
    (case c_fW => k_is)
    (case k_fW => k_is)
    (case b_fE => k_is)
    (case l_fE => k_is)
    (case c_fE => k_is)
    (case k_fE => k_is)
    (case b_fN => k_is)
    (case l_fN => k_is)
    (case c_fN => k_is)
    (case k_fN => k_is)
    (case b_fI => k_is)
    (case l_fI => k_is)
    (case c_fI => k_is)
    (case k_fI => k_is)
    (case b_fG => k_is)
    (case l_fG => k_is)
    (case c_fG => k_is)
    (case k_fG => k_is)
    (case b_fJ => k_is)
    (case l_fJ => k_is)
    (case c_fJ => k_is)
    (case k_fJ => k_is)
    (case b_fU => k_is)
    (case l_fU => k_is)
    (case c_fU => k_is)
    (case k_fU => k_is)
    (case b_fR => k_is)
    (case l_fR => k_is)
    (case c_fR => k_is)
    (case k_fR => k_is)
    (case b_fL => k_is)
    (case l_fL => k_is)
    (case c_fL => k_is)
    (case k_fL => k_is)
    (case b_gH => k_is)
    (case l_gH => k_is)
    (case c_gH => k_is)
    (case k_gH => k_is)
    (case lc_H => k_is)
    (case v_H => exact rfl)
    (case hd_H => kernel_rfl)
    (case np_H => kernel_rfl)
    (case b_MOST_THINGS => k_is)
    (case z_range => k_is)
    (case z_isinstance => k_is)
    (case z_len => k_is)
    (case z_list => k_is)
    (case z_min => k_is)
    (case z_tuple => k_is)
    (case z_sorted => k_is)
    (case z_set => k_is)
    (case z_abs => k_is)
    (case z_any => k_is)
    (case z_all => k_is)
    (case z_bool => k_is)
    (case z_int => k_is)
    (case z_zip => k_is)
    (case z_enumerate => k_is)
