import PyProof.Rows.All
import Wide.All
import OpenK.AllK
import Wide.FinOn
import PyProof.EqAt
import PyProof.EqKinds
import PyProof.TupleCall
import PySem.Challenge.RW_sparecut_k01_claims_known
import HandS.ForMost
import HandS.Evl
import HandS.Conv
import HandS.Exc
import HandS.ExcOwn
import HandS.ExcInit
import HandS.ExcValue
import HandS.ExcIs
import KE.KExcIs
import KE.KxText
import HandS.AnyAll
import HandS.GenOver
import HandS.SortInts
import HandS.TupAny
import HandS.TupMul
import HandS.Strs
import HandS.IsInst
import HandS.EndTab
import HandS.EndOwn
import HandS.SetFor
import KE.KNestM
import KE.GoesEnum
import HandS.FStr
import HandS.RaiseMore
import KE.DatumOrd
import HandS.Zip
import HandS.Style
import HandS.RevRange
import HandS.TryOnly
import HandS.WordsExc
import KE.LtData
import HandS.TupLe
set_option Elab.async false
set_option linter.all false
set_option maxRecDepth 100000
set_option maxHeartbeats 2000000
namespace Nw
open PySem PySem.Spec PyProof.Rows L2
/-! ### readings that hide the heap: what is new is told by its facts alone -/
theorem same_new {H : Hp} {p : Addr} {o : HO} (h : H p = none) : Same H (upd H p o) := fun b x e => by
  rw [upd_ne (ne_of_none e h)]
  exact e
theorem sqt {K : PySem.W.Frag} {H H' : Hp} {a : Addr} {xs : List V} (e : Same H H') (h : SqT K H a xs) : SqT K H' a xs := by
  rcases h with (h | ⟨o, h⟩) | h
  · exact .inl (.inl (e _ _ h))
  · exact .inl (.inr ⟨o, e _ _ h⟩)
  · exact .inr h
/-- a new object o at a place of its own -/
def New (H : Hp) (o : HO) (Q : VK) : Prop := ∀ p H2, H p = none → Same H H2 → H2 p = some o → (∀ b, b ≠ p → H2 b = H b) → Q (.ref p) H2
theorem New.to {H : Hp} {o : HO} {Q : VK} (h : New H o Q) : ∀ p, H p = none → Q (.ref p) (upd H p o) := fun p n => h p _ n (same_new n) upd_same fun b nb => upd_ne nb
section
variable {X : Cx} {e : Expr} {es : List Expr} {t t' : TE} {ta : TA} {pos : Pos}
theorem pe_weak (h : PE X e t) (i : ∀ σ H Q, t' σ H Q → t σ H Q) : PE X e t' := ⟨fun pins s σ H Q I q => h.run pins s σ H Q I (i σ H Q q)⟩
theorem op_weak {f : Value → Value → Sem Value} {r r' : R2} (h : OpR X f r) (i : ∀ x y H Q, r' x y H Q → r x y H Q) : OpR X f r' := fun pins s σ H x y v u Q I rx ry q => h pins s σ H x y v u Q I rx ry (i x y H Q q)
theorem call_weak {f : Value} {r r' : List V → Hp → VK → Prop} (h : CallR X f r) (i : ∀ xs H Q, r' xs H Q → r xs H Q) : CallR X f r' := fun pins s σ H xs us Q I rx q => h pins s σ H xs us Q I rx (i xs H Q q)
theorem mt_weak {id : String} {r r' : V → List V → Hp → VK → Prop} (h : MtR X id r) (i : ∀ x xs H Q, r' x xs H Q → r x xs H Q) : MtR X id r' := fun pins s σ H x xs v us Q I rx rs q => h pins s σ H x xs v us Q I rx rs (i x xs H Q q)
theorem sl_weak {r r' : V → Option Int → Option Int → Hp → VK → Prop} (h : SlR X r) (i : ∀ x lo hi H Q, r' x lo hi H Q → r x lo hi H Q) : SlR X r' := fun pins s σ H x v vl vu lo hi sl Q I rx a b c q => h pins s σ H x v vl vu lo hi sl Q I rx a b c (i x lo hi H Q q)
/-- what follows may be asked for less -/
def clA (t : TA) : TA := fun σ H R => ∃ R' : List V → Hp → Prop, (∀ xs H1, R' xs H1 → R xs H1) ∧ t σ H R'
theorem pa_cl (h : PA X es ta) : PA X es (clA ta) := ⟨fun ps pins s σ H Q I ⟨R', i, q⟩ => thn (h.run ps pins s σ H R' I q) fun us s1 ⟨vs, H1, I1, r1, q1⟩ => ⟨vs, H1, I1, r1, i vs H1 q1⟩⟩
def clE (t : TE) : TE := fun σ H R => ∃ R' : VK, (∀ v H1, R' v H1 → R v H1) ∧ t σ H R'
theorem pe_cl (h : PE X e t) : PE X e (clE t) := ⟨fun pins s σ H Q I ⟨R', i, q⟩ => thn (h.run pins s σ H R' I q) fun u s1 ⟨v, H1, I1, r1, q1⟩ => ⟨v, H1, I1, r1, i v H1 q1⟩⟩
def nLst (t : TA) : TE := fun σ H Q => t σ H fun xs H1 => xs.length ≤ sizeLine ∧ New H1 (.lst xs) Q
def nTup (t : TA) : TE := fun σ H Q => t σ H fun xs H1 => xs.length ≤ sizeLine ∧ New H1 (.tup xs) Q
theorem pe_lstN (h : PA X es ta) : PE X (.List es pos) (nLst ta) := pe_weak (pe_lst (pa_cl h)) fun _ _ _ q => ⟨_, fun _ _ z => ⟨z.1, z.2.to⟩, q⟩
theorem pe_tupN {x1} (h : PA X es ta) : PE X (.Tuple es x1 pos) (nTup ta) := pe_weak (pe_tup (pa_cl h)) fun _ _ _ q => ⟨_, fun _ _ z => ⟨z.1, z.2.to⟩, q⟩
/-- xs + ys (lists) -/
def rCatN : R2 := fun x y H Q => ∃ p q xs ys, x = .ref p ∧ y = .ref q ∧ H p = some (.lst xs) ∧ H q = some (.lst ys) ∧ xs.length + ys.length ≤ sizeLine ∧ New H (.lst (xs ++ ys)) Q
theorem op_catN : OpR X (binaryOp .Add) rCatN := op_weak op_cat fun x y H Q ⟨p, q, xs, ys, h1, h2, h3, h4, h5, h6⟩ => ⟨p, q, xs, ys, h1, h2, h3, h4, h5, h6.to⟩
/-- a tuple of xs, new or not -/
def ResT (H : Hp) (xs : List V) (Q : VK) : Prop := ∀ p H2, Same H H2 → H2 p = some (.tup xs) → Q (.ref p) H2
theorem call_list_ofN : CallR X (.type "list") (fun xs H Q => ∃ p ys, xs = [.ref p] ∧ (SqL X.K H p ys ∨ SqT X.K H p ys) ∧ New H (.lst ys) Q) := call_weak call_list_of fun _ _ _ ⟨p, ys, h1, h2, h3⟩ => ⟨p, ys, h1, h2, h3.to⟩
theorem call_tuple_ofN : CallR X (.type "tuple") (fun xs H Q => ∃ p ys, xs = [.ref p] ∧ SqL X.K H p ys ∧ New H (.tup ys) Q) := call_weak call_tuple_of fun _ _ _ ⟨p, ys, h1, h2, h3⟩ => ⟨p, ys, h1, .inl ⟨h2, h3.to⟩⟩
theorem sl_listN : SlR X (fun x lo hi H Q => ∃ a xs, x = .ref a ∧ SqL X.K H a xs ∧ New H (.lst (cutV xs lo hi)) Q) := sl_weak sl_list fun _ _ _ _ _ ⟨a, xs, h1, h2, h3⟩ => ⟨a, xs, h1, h2, h3.to⟩
end
/-! ### data by its values -/
theorem dp_bls {K : PySem.W.Frag} {H : Hp} : ∀ bs : List Bool, DpAll K H (bs.map V.bl) (bs.map PyData.bool)
  | [] => .nil
  | b :: r => .cons (.bl b) (dp_bls r)
theorem dp_ints {K : PySem.W.Frag} {H : Hp} : ∀ ns : List Int, DpAll K H (ns.map V.int) (ns.map PyData.int)
  | [] => .nil
  | b :: r => .cons (.int b) (dp_ints r)
/-- flat data: numbers, truths, None -/
def flatD : PyData → Bool
  | .none | .bool _ | .int _ => true
  | _ => false
theorem flat_lay : ∀ ds : List PyData, ds.all flatD = true → PyData.canLayAll0 ds = true
  | [], _ => rfl
  | d :: r, h => by
    rw [List.all_cons, Bool.and_eq_true] at h
    show (PyData.canLay0 d && PyData.canLayAll0 r) = true
    rw [flat_lay r h.2, Bool.and_true]
    cases d <;> first | rfl | exact Bool.noConfusion h.1
theorem flat_depth : ∀ ds : List PyData, ds.all flatD = true → PyData.depthAll ds ≤ 1
  | [], _ => by decide
  | d :: r, h => by
    rw [List.all_cons, Bool.and_eq_true] at h
    have ih := flat_depth r h.2
    have hd : PyData.depth d ≤ 1 := by
      cases d <;> first | decide | exact Bool.noConfusion h.1 | exact Nat.zero_le _ | exact Nat.le_refl _
    show Nat.max (PyData.depth d) (PyData.depthAll r) ≤ 1
    exact Nat.max_le.mpr ⟨hd, ih⟩
theorem shaped_list {ds : List PyData} (h : ds.all flatD = true) : SeqAt.shaped (.list ds) = true := by
  have e := flat_depth ds h
  have e2 : PyData.depth (.list ds) ≤ 64 := by
    show PyData.depthAll ds + 1 ≤ 64
    omega
  show (PyData.canLayAll0 ds && decide (PyData.depth (.list ds) ≤ 64)) = true
  rw [flat_lay ds h, decide_eq_true e2]
  rfl
theorem shaped_tuple {ds : List PyData} (h : ds.all flatD = true) : SeqAt.shaped (.tuple ds) = true := by
  have e := flat_depth ds h
  have e2 : PyData.depth (.tuple ds) ≤ 64 := by
    show PyData.depthAll ds + 1 ≤ 64
    omega
  show (PyData.canLayAll0 ds && decide (PyData.depth (.tuple ds) ≤ 64)) = true
  rw [flat_lay ds h, decide_eq_true e2]
  rfl
theorem flat_bls (bs : List Bool) : (bs.map PyData.bool).all flatD = true := by
  rw [List.all_map, List.all_eq_true]
  exact fun _ _ => rfl
theorem flat_ints (ns : List Int) : (ns.map PyData.int).all flatD = true := by
  rw [List.all_map, List.all_eq_true]
  exact fun _ _ => rfl
theorem eqv_self {d : PyData} (h : SeqAt.shaped d = true) : PyData.eqv d d = true := SeqAt.eqv_refl d (SeqAt.canLay_of_shaped h)
end Nw
namespace Nw
open PySem PySem.Spec PyProof.Rows L2
section
variable {X : Cx}
theorem cr_sortedN : CallR X (.builtin "sorted") (fun vs H Q => ∃ (a : Addr) (ns : List Int), vs = [V.ref a] ∧ SqL X.K H a (ns.map V.int) ∧ ∀ ns' : List Int, ns'.Perm ns → ns'.Pairwise (· ≤ ·) → New H (.lst (ns'.map V.int)) Q) :=
  call_weak cr_sortedI fun _ _ _ ⟨a, ns, h1, h2, h3⟩ => ⟨a, ns, h1, h2, fun ns' p hp hs np => (h3 ns' hp hs).to p np⟩
theorem cutV_all {xs : List V} {lo hi : Option Int} (h : HT.sIx xs.length 0 lo = 0 ∧ HT.sIx xs.length xs.length hi = xs.length) : cutV xs lo hi = xs := by
  unfold cutV
  rw [h.1, h.2]
  exact List.take_length
theorem sl_tupN : SlR X (fun x lo hi H Q => ∃ a xs, x = .ref a ∧ H a = some (.tup xs) ∧ ResT H (cutV xs lo hi) Q) := sl_weak sl_tupA fun _ lo hi H Q ⟨a, xs, h1, h2, h3⟩ =>
  ⟨a, xs, h1, .of h2, fun z => h3 a H (Same.refl H) (by rw [cutV_all z]; exact h2), fun _ p np => h3 p _ (same_new np) upd_same⟩
theorem op_catTN : OpR X (binaryOp .Add) (fun x y H Q => ∃ a b xs ys, x = .ref a ∧ y = .ref b ∧ H a = some (.tup xs) ∧ H b = some (.tup ys) ∧ xs.length + ys.length ≤ sizeLine ∧ ResT H (xs ++ ys) Q) :=
  op_weak op_catA fun _ _ H Q ⟨a, b, xs, ys, h1, h2, h3, h4, h5, h6⟩ => ⟨a, b, xs, ys, h1, h2, .of h3, .of h4, h5, fun z => h6 b H (Same.refl H) (by rw [z]; exact h4), fun _ z => h6 a H (Same.refl H) (by rw [z, List.append_nil]; exact h3), fun _ _ p np => h6 p _ (same_new np) upd_same⟩
theorem op_repTN : OpR X (binaryOp .Mult) (fun x y H Q => ∃ l k xs, x = .ref l ∧ y = .int k ∧ H l = some (.tup xs) ∧ xs ≠ [] ∧ 2 ≤ k ∧ k ≤ 1000 ∧ xs.length ≤ 1000 ∧ ResT H (List.replicate k.toNat xs).flatten Q) :=
  op_weak op_repT fun _ _ H Q ⟨l, k, xs, h1, h2, h3, h4, h5, h6, h7, h8⟩ => ⟨l, k, xs, h1, h2, .of h3, h4, h5, h6, h7, fun p np => h8 p _ (same_new np) upd_same⟩
/-! the same rules with the written part by its name (for comprehensions' blocks) -/
variable {K : PySem.W.Frag}
theorem ix_tupB (h : X.K = K) : IxR X (rIxT K) := by subst h; exact ix_tup
theorem ix_listB (h : X.K = K) : IxR X (rIxL K) := by subst h; exact ix_list
theorem op_in_seqB (h : X.K = K) : OpR X (compareOp .In) (rIn K false) := by subst h; exact op_in_seq
theorem op_notIn_seqB (h : X.K = K) : OpR X (compareOp .NotIn) (rIn K true) := by subst h; exact op_notIn_seq
theorem call_len_seqB (h : X.K = K) : CallR X (.builtin "len") (fun xs H Q => ∃ p ys, xs = [.ref p] ∧ (SqL K H p ys ∨ SqT K H p ys) ∧ Q (.int ys.length) H) := by subst h; exact call_len_seq
theorem call_isiB (h : X.K = K) : CallR X (.builtin "isinstance") (rIsi K) := by subst h; exact call_isi
theorem op_eqDB (h : X.K = K) (hu : X.A.units + 64 < cLine) : OpR X (compareOp .Eq) (rEqD K) := by subst h; exact op_eqD hu
theorem op_neDB (h : X.K = K) (hu : X.A.units + 64 < cLine) : OpR X (compareOp .NotEq) (rNeD K) := by subst h; exact op_neD hu
end
end Nw
namespace Ev1
open PySem PySem.Spec PyProof.Rows L2 Nw
/-! ### exceptions as values -/
/-- at a an exception of the class cls, its dict d -/
def ExV (cls : Value) (d : Option Addr) (a : Addr) : HO := .ext fun h => ∃ (oe : Obj) (vs : Array Value), h.get? a = some oe ∧ Zc cls d oe ∧ oe.data = .fields vs
/-- an exception that was made of the class cls, its dict d: it stands at a place of its own -/
def Made (H1 : Hp) (cls : Value) (d : Option Addr) (Q : VK) : Prop := ∀ a H3, H1 a = none → Same H1 H3 → H3 a = some (ExV cls d a) → Q (.ref a) H3
theorem pe_made {X : Cx} {e : Expr} {t : L2.St → Hp → XK → Prop} (m : PMk X e t) : PE X e (fun σ H Q => t σ H fun cls d H1 => Made H1 cls d Q) := by
  refine ⟨fun pins s σ H Q I h => thn (m pins s σ H _ I h) fun u s1 z => ?_⟩
  obtain ⟨a, oe, vs, sI, H1, cls, d, rfl, J, k, na, ha, hz, hd, _, ha1, os, ag, _, q⟩ := z
  have new : ObjOk X.prog X.w (upd H1 a (ExV cls d a)) s1.heap a (ExV cls d a) := ⟨⟨oe, vs, ha, hz, hd⟩, ⟨oe, ha⟩, fun h1 h2 ⟨o, v, y, r⟩ i => ⟨o, v, i o y, r⟩⟩
  exact ⟨.ref a, upd H1 a (ExV cls d a), J.call' (ch := []) os (Un.laidN k na ha1) (J.hok.laidN k ha1 new) ag (fun b y => absurd y (by simp)), rfl, q a _ ha1 (same_new ha1) upd_same⟩
/-- at a an exception of the class D, with the field at = y -/
def ExF (H : Hp) (a D : Addr) (y : V) : Prop := ∃ dx, H a = some (ExV (.ref D) (some dx) a) ∧ H dx = some (.xd [(("at" : Str), y)])
/-- at a an exception of the class D -/
def ExAt (H : Hp) (a D : Addr) : Prop := H a = some (ExO (.ref D) a) ∨ ∃ y, ExF H a D y
theorem ExF.same {H H' : Hp} {a D : Addr} {y : V} (h : ExF H a D y) (s : Same H H') : ExF H' a D y := by
  obtain ⟨dx, h1, h2⟩ := h
  exact ⟨dx, s _ _ h1, s _ _ h2⟩
theorem ExAt.same {H H' : Hp} {a D : Addr} (h : ExAt H a D) (s : Same H H') : ExAt H' a D := by
  rcases h with h | ⟨y, h⟩
  · exact .inl (s _ _ h)
  · exact .inr ⟨y, h.same s⟩
theorem notCls_of {o : Obj} {vs : Array Value} (hd : o.data = .fields vs) : PySem.W.notCls o = true := by
  unfold PySem.W.notCls
  rw [hd]
section
variable {X : Cx} {pins : List (Addr × Obj)} {σ : L2.St} {H : Hp} {s : Shared} {a D : Addr} {y : V}
theorem ExF.inst (I : Inv X pins σ H s) (h : ExF H a D y) : ∃ ox od u, PySem.W.InstAt s.heap a ox D (some od) ∧ PySem.W.lookIn "at" od = some (some u) ∧ RelV y u := by
  obtain ⟨dx, h1, h2⟩ := h
  have z1 : ObjOk X.prog X.w H s.heap a (.ext fun h => ∃ (oe : Obj) (vs : Array Value), h.get? a = some oe ∧ Zc (.ref D) (some dx) oe ∧ oe.data = .fields vs) := I.hok a _ h1
  obtain ⟨⟨oe, vs, ha, ⟨hc, hd⟩, hv⟩, _⟩ := z1
  have z2 : ObjOk X.prog X.w H s.heap dx (.xd [(("at" : Str), y)]) := I.hok dx _ h2
  obtain ⟨mA, hn, hr⟩ := z2
  obtain ⟨od, ho, hl⟩ := lookIn_ns hn
  have l : List.lookup ("at" : Str) [(("at" : Str), y)] = some y := by simp [List.lookup]
  obtain ⟨u, hu, ru⟩ := RelO.some_of (v := y) (o := mA "at") (by rw [← l]; exact hr "at")
  exact ⟨oe, od, u, ⟨ha, hc, notCls_of hv, by rw [hd]; exact ho⟩, by rw [hl, hu], ru⟩
theorem ExAt.inst (I : Inv X pins σ H s) (h : ExAt H a D) : ∃ ox od, PySem.W.InstAt s.heap a ox D od := by
  rcases h with h | ⟨y, h⟩
  · obtain ⟨⟨oe, vs, ha, ⟨hc, hd⟩, hv, _⟩, _⟩ := I.hok a _ h
    exact ⟨oe, none, ⟨ha, hc, notCls_of hv, by rw [hd]; exact trivial⟩⟩
  · obtain ⟨ox, od, _, J, _⟩ := h.inst I
    exact ⟨ox, some od, J⟩
end
/-- X(e), X an own class without own __init__ -/
def tExN (C : Addr) (te : TE) : TE := fun σ H Q => te σ H fun _ H1 => ∀ a H2, H1 a = none → Same H1 H2 → H2 a = some (ExO (.ref C) a) → Q (.ref a) H2
theorem pe_excN {X : Cx} {C : Addr} {bmB : List Value} {B newId initId : String} {x : Str} {e : Expr} {te : TE} {p pos : Pos} (F : ExcBaseFacts B newId initId bmB) (q : PySem.W.excIn X.K C bmB newId = true) (gC : X.mg x = some (.ref C)) (kC : PySem.W.keepIn X.K (.ref C) = true) (hg : Gl X x)
    (he : PE X e te) (hs : starEach [e] X.env = (false, eval e X.env) :: starEach [] X.env := by rfl) (hdb : (x == ("__debug__" : Str)) = false := by decide) : PE X (.Call (.Name x p) [e] [] pos) (tExN C te) :=
  pe_weak (pe_exc1 F q gC kC hg (pe_cl he) hs hdb) fun _ _ _ h => ⟨_, fun _ _ z a na => z a _ na (same_new na) upd_same, h⟩
/-- isinstance(e, c) of an exception -/
def rIsX (K : PySem.W.Frag) : List V → Hp → VK → Prop := fun xs H Q => ∃ (a D : Addr) (c : V) (cv : Value) (b : Bool), xs = [.ref a, c] ∧ ExAt H a D ∧ ExcC K D ∧ (∀ u, RelV c u → u = cv) ∧ PySem.W.kitOne K (.ref D) cv = some b ∧ Q (.bl b) H
theorem call_isX {X : Cx} : CallR X (.builtin "isinstance") (rIsX X.K) := by
  intro pins s σ H xs us Q I r h
  obtain ⟨a, D, c, cv, b, rfl, hE, C, hcv, e, q⟩ := h
  cases r with
  | cons rx rr =>
    cases rr with
    | cons rt rr =>
      cases rr
      cases rx
      have ec := hcv _ rt
      subst ec
      obtain ⟨ox, od, J⟩ := hE.inst I
      have cl : (PySem.W.clsIn X.K D).isSome = true := by
        obtain ⟨cd, hc, _⟩ := PySem.W.any_some C.hd
        rw [hc]
        rfl
      exact PySem.W.kia_one (PySem.W.kitx_exc cl C.hg C.hk C.hs C.ha C.hn C.ht C.hm) I.kIn J e (fun z => nomatch z) fun tk => ⟨.bl b, H, I.kept (t' := tk) fun _ _ z => z, rfl, q⟩
/-- e.at of an exception -/
def tAtX (K : PySem.W.Frag) (te : TE) : TE := fun σ H Q => te σ H fun x H1 => ∃ (a D : Addr) (y : V), x = .ref a ∧ ExF H1 a D y ∧ ExcC K D ∧ PySem.W.findIn K (.ref D) "at" = some none ∧ Q y H1
theorem pe_atX {X : Cx} {e : Expr} {te : TE} {pos : Pos} (he : PE X e te) (hb : attributeBase e "at" X.env (eval e X.env) = eval e X.env := by rfl) : PE X (.Attribute e "at" pos) (tAtX X.K te) := by
  refine ⟨fun pins s σ H Q I h => attr_of hb (thn (he.run pins s σ H _ I h) fun u s1 hh => ?_)⟩
  obtain ⟨x, H1, I1, rx, a, D, y, rfl, hE, C, nf, q⟩ := hh
  cases rx
  obtain ⟨ox, od, u, J, l, ru⟩ := hE.inst I1
  exact HandSPX.exc_get I1.kIn J C.hg C.hk C.hs (PySem.W.findObj_own C.hd nf rfl l) (handed_of ru) ⟨y, H1, I1.tok _, ru, q⟩
/-- the promise of «def __init__(self, at): self.at = at» -/
def spInit (K : PySem.W.Frag) : Sp := fun vs H Q _ => ∃ (a C : Addr) (y : V), vs = [.ref a, y] ∧ OexC K C ∧ PySem.W.findIn K (.ref C) "at" = some none ∧ H a = some (exo a C none) ∧
  ∀ dx, H dx = none → dx ≠ a → Q .non (upd (upd H dx (exd dx [(("at" : Str), y)])) a (exo a C (some dx)))
theorem del_new {H1 : Hp} {a dx : Addr} {o1 o2 o3 : HO} (na : H1 a = none) (ne : dx ≠ a) : del (upd (upd (upd H1 a o1) dx o2) a o3) a = upd H1 dx o2 := by
  funext b
  by_cases hb : b = a
  · subst hb
    rw [del_same, upd_ne (Ne.symm ne), na]
  · rw [del_ne hb, upd_ne hb]
    by_cases hd : b = dx
    · subst hd
      rw [upd_same, upd_same]
    · rw [upd_ne hd, upd_ne hd, upd_ne hb]
/-- what C(y) asks, C with that __init__: the exception and its field -/
theorem made_F {K : PySem.W.Frag} {C : Addr} {y : V} {H1 : Hp} {Q : VK} (T : OexC K C) (nf : PySem.W.findIn K (.ref C) "at" = some none) (h : ∀ a H2, H1 a = none → Same H1 H2 → ExF H2 a C y → Q (.ref a) H2) :
    [y].length ≤ 1000 ∧ ∀ a, H1 a = none → spInit K (.ref a :: ([y] ++ [])) (upd H1 a (exo a C none)) (fun v H2 => v = .non ∧ ∃ (d : Addr) (fs : List (Str × V)), H2 a = some (exo a C (some d)) ∧ H2 d = some (exd d fs) ∧ H1 d = none ∧
      Made (upd (del H2 a) d (.xd fs)) (Value.ref C) (some d) Q) (fun _ _ _ => False) := by
  refine ⟨by simp, fun a na => ⟨a, C, y, rfl, T, nf, upd_same, fun dx nd ne => ?_⟩⟩
  have nd1 : H1 dx = none := by
    rw [upd_ne ne] at nd
    exact nd
  refine ⟨rfl, dx, [(("at" : Str), y)], upd_same, by rw [upd_ne ne, upd_same], nd1, ?_⟩
  rw [del_new na ne, upd_upd]
  intro b H3 nb s3 e3
  have sd : Same H1 (upd H1 dx (.xd [(("at" : Str), y)])) := same_new nd1
  exact h b H3 (sd.free nb) (sd.trans s3) ⟨dx, e3, s3 _ _ upd_same⟩
end Ev1
namespace Gx
open PySem PySem.Spec PyProof.Rows L2 GxR
/-! ### any, all of a generator expression whose element is run by the layer's own rules -/
/-- the generator's frame running, awake under any | all -/
abbrev gCx (X : Cx) (ge : Expr) (s : Shared) (H : Hp) (cenv : Env) (it : Addr) (fp : List Addr) (pn : List (Addr × Obj)) : Cx :=
  { X with
    s_0 := s
    H_0 := H
    env := cenv
    outer := X.stack
    stack := cenv :: X.stack
    ex := fp
    fn := fun _ => false
    pn := pn
    xe := fun _ _ => False
    A := X.A.in1.in1.over (.compLoop ge 0 (.ref it) .none cenv) [] }
theorem room_gen {k : Nat} {X : Cx} {elt : Expr} {gs : List Comprehension} {scope : Scope} {pos : Pos} {s : Shared} {H : Hp} {cenv : Env} {it : Addr} {fp : List Addr} {pn : List (Addr × Obj)} (r : Room (k + 1) X.A) :
    Room k (gCx X (.GeneratorExp elt gs scope pos) s H cenv it fp pn).A := by
  refine ⟨r.hd, ?_, ?_⟩
  · have := r.dp
    show X.A.depth + 0 + 1 + 3 * k + 5 < recursionLimit
    omega
  · have := r.un
    show X.A.units + 1 + 1 + 0 + 3 + 16 * k + 200 < cLine
    omega
/-- gens, drawn and toks say nothing but that all are bare -/
theorem inv_gens {X : Cx} {pins : List (Addr × Obj)} {σ : L2.St} {H : Hp} {s s' : Shared} (I : Inv X pins σ H s) (hh : s'.heap = s.heap) (ho : s'.os = s.os) (hb : AllBare s'.gens) : Inv X pins σ H s' := by
  obtain ⟨h, g, d, t, o⟩ := s
  obtain ⟨h', g', d', t', o'⟩ := s'
  dsimp only at hh ho hb
  subst hh ho
  exact { ok := I.ok, os := I.os, bare := hb, base := I.base, loc := I.loc, cell := I.cell, free := I.free, freeC := I.freeC, pin := I.pin, hok := I.hok, len := I.len }
theorem bare_set {s : Shared} {g : Nat} {x : GenState} (h : AllBare s.gens) (hx : x.bare = true) : AllBare (s.setGen g x).gens := by
  intro y hy
  have hy' : y ∈ s.gens.setIfInBounds g x := hy
  obtain ⟨i, hi, e⟩ := Array.mem_iff_getElem.mp hy'
  by_cases hg : g = i
  · subst hg
    rw [Array.getElem_setIfInBounds_self] at e
    rw [← e]
    exact hx
  · rw [Array.getElem_setIfInBounds_ne (by simpa using hi) hg] at e
    rw [← e]
    exact h _ (Array.getElem_mem _)
section
variable {X : Cx} {pins : List (Addr × Obj)} {σ : L2.St} {H : Hp} {s : Shared}
/-- what the frame of the generator knows as it begins -/
theorem gen_start {ge : Expr} {scope : Scope} {own : List (Str × Nat)} {fp : List Addr} {it a : Addr} {code : Value} {go : Obj} {gs : Array GenState} {tk : Nat} {h5 : Heap} {m : Str → Option Value} (I : Inv X pins σ H s) (hc : X.calm = true) (ok : BlkOk X.N X.env.scope scope own) (hN : X.N.Nodup)
    (nc : ∀ y ∈ scope.names, y.2 ≠ .cell) (hfp : ∀ b ∈ fp, FpOk X pins H b ∧ b < s.heap.objs.size) (fr : (X.A.in1.in1.over (.compLoop ge 0 (.ref it) .none (genEnv scope (cloFrom X.env.cells scope.names []) s.heap.objs.size code builtinsNs X.env)) []).frames = some (genEnv scope (cloFrom X.env.cells scope.names []) s.heap.objs.size code builtinsNs X.env :: X.stack))
    (hg : AllBare gs) (kp : ∀ b o, s.heap.get? b = some o → h5.get? b = some o) (hns : h5.Ns s.heap.objs.size m) (ha : h5.get? a = some go) (ha1 : s.heap.objs.size < a) (hd : ∀ v, go.data ≠ .cell v) :
    Inv (gCx X ge s H (genEnv scope (cloFrom X.env.cells scope.names []) s.heap.objs.size code builtinsNs X.env) it fp [(a, go)]) [] (wipe σ (own.map (·.2))) H { s with gens := gs, toks := tk, heap := h5 } := by
  have cm : ∀ {y : Str} {c : Addr}, (cloFrom X.env.cells scope.names []).lookup y = some c → X.env.cells.lookup y = some c := fun {y c} e => by
    rcases cloFrom_mem (PySem.mem_of_lookup e) with z | ⟨h1, z⟩
    · cases z
    · have q : ∃ c', X.env.cells.lookup y = some c' := by
        rcases ok.free (y, .free) h1 rfl with k | k
        · exact I.ok.has y (.inl k)
        · exact I.ok.has y (.inr k)
      obtain ⟨c', q⟩ := q
      rw [q] at z
      rw [q, z]
      rfl
  have ch : ∀ {y : Str}, scope.names.lookup y = some .free → ∃ c, (cloFrom X.env.cells scope.names []).lookup y = some c := fun {y} e => mem_lookup (cloFrom_has (PySem.mem_of_lookup e))
  have noc : ∀ {y : Str}, scope.names.lookup y ≠ some .cell := fun {y} e => nc _ (PySem.mem_of_lookup e) rfl
  have stL : ∀ b ∈ frs X.stack, b < s.heap.objs.size := fun b hb => by
    obtain ⟨_, o, e, _⟩ := I.stack.mem hb
    exact Heap.lt_size e
  have okG : (gCx X ge s H (genEnv scope (cloFrom X.env.cells scope.names []) s.heap.objs.size code builtinsNs X.env) it fp [(a, go)]).Ok := {
    mod := I.ok.mod
    kind := ok.kind
    glob := I.ok.glob
    blt := rfl
    above := Nat.le_refl _
    inj := fun x y c h1 h2 => I.ok.inj x y c (cm h1) (cm h2)
    has := fun x h => h.elim (fun k => absurd k noc) fun k => ch k
    cab := fun x c h => Bool.noConfusion h
    hd := fun h => I.ok.hd h
    frames := fr
    stk := .inr ⟨rfl, rfl⟩
    exf := fun b hb => ⟨Nat.ne_of_lt (hfp b hb).2, fun x c e => (hfp b hb).1.2.2.2.2.1 x c (cm e)⟩
    bs := I.bs
    bsz := Nat.le_trans I.ok.bsz I.sz
    noex := fun b o e hb => by
      rcases (hfp b hb).1.2.2.2.1 with z | z
      · exact I.ok.noex b o e z
      · exact Nat.lt_irrefl _ (Nat.lt_of_lt_of_le (Heap.lt_size e) (Nat.le_trans I.ok.bsz z))
    exfs := fun b hb z => by
      rcases List.mem_cons.mp (I.stkSub b z) with y | y
      · exact (hfp b hb).1.2.1 y
      · exact (hfp b hb).1.2.2.1 y
    funs := I.stack
    frf := I.stkFree }
  refine { ok := okG, os := rfl, bare := hg, base := Un.kept kp, loc := ⟨m, hns, fun i x v e1 e2 e3 => ?_⟩, cell := fun x c e => ?_, free := I.hok.fresh (Nat.le_refl _), freeC := fun x c e => I.freeC x c (cm e), pin := fun p hp => ?_, hok := I.hok.kept kp, len := (wipe_length _ _).trans I.len }
  · obtain ⟨e2, hi⟩ := wipe_some e2
    have hf : scope.names.lookup x = some .free := by
      have no : ∀ k, scope.names.lookup x = some k → ¬ (k = .local ∨ k = .cell) := fun k hk hh => by
        rcases ok.own _ (PySem.mem_of_lookup hk) hh with z | z
        · obtain ⟨p, hp, hx⟩ := List.mem_map.mp z
          have q := ok.ix p hp
          have hx' : p.1 = x := hx
          rw [hx'] at q
          exact hi (List.mem_map.mpr ⟨p, hp, nodup_ix hN q e1⟩)
        · exact z (List.mem_of_getElem? e1)
      have e3 : Vis scope x := e3
      rcases e3 with k | k | k
      · exact absurd (.inl rfl) (no _ k)
      · exact absurd (.inr rfl) (no _ k)
      · exact k
    have hv := ok.free _ (PySem.mem_of_lookup hf) rfl
    obtain ⟨m0, _, hl⟩ := I.loc
    obtain ⟨u, ru, q⟩ := hl i x v e1 e2 (.inr hv)
    refine ⟨u, ru, .inr ⟨.inr hf, ?_⟩⟩
    rcases q with ⟨k, _⟩ | ⟨_, c, ec, z⟩
    · have k' : X.env.scope.names.lookup x = some .local := k
      rcases hv with y | y
      · have y' : X.env.scope.names.lookup x = some .cell := y
        rw [k'] at y'
        cases y'
      · have y' : X.env.scope.names.lookup x = some .free := y
        rw [k'] at y'
        cases y'
    · obtain ⟨c', e'⟩ := ch hf
      have e2 := cm e'
      rw [ec] at e2
      cases e2
      exact ⟨c, e', z.keeps kp⟩
  · obtain ⟨v, z⟩ := I.cell x c (cm e)
    exact ⟨v, z.keeps kp⟩
  · have hp' : p ∈ [(a, go)] ++ ([] : List (Addr × Obj)) := hp
    have e : p = (a, go) := by simpa using hp'
    subst e
    refine ⟨ha, I.hok.fresh (Nat.le_of_lt ha1), Nat.ne_of_gt ha1, fun z => ?_, hd⟩
    exact Nat.lt_irrefl _ (Nat.lt_trans (stL _ z) ha1)
end
/-- what a turn's way through the generator must reach. stopb: the truth at which any (true), all (false) stops -/
def GEndP (Y : Cx) (σw : L2.St) (stopb : Bool) (Q : VK) : Nat → Shared → Shared → Prop := fun _ _ s => ∃ H', Inv Y [] σw H' s ∧ Q (.bl (!stopb)) H'
def GProto (Y : Cx) (σw : L2.St) (fp : List Addr) (tn : Nat → Heap → Prop) (W : Nat → Nat → Hp → Prop) (stopb : Bool) (Q : VK) : Protocol := fun n _ v s kap => ∃ (k : Bool) (H' : Hp), v = .bool k ∧ Inv Y [] σw H' s ∧
  ((k = stopb ∧ Q (.bl stopb) H') ∨ (k = !stopb ∧ ∃ i m, m < n ∧ W i m H' ∧ ∀ s'' : Shared, s''.heap = s.heap → s''.os = s.os → AllBare s''.gens → kap (.send .none) s''))
section
variable {X : Cx} {elt tg iter : Expr} {ifs : List Expr} {scope : Scope} {gpos : Pos} {s4 : Shared} {H4 : Hp} {cenv : Env} {it : Addr} {fp : List Addr} {pn : List (Addr × Obj)} {J : It} {tn : Nat → Heap → Prop} {g : TG} {tt : TT} {te : TE} {own : List Nat} {σ : L2.St} {stopb : Bool} {Q : VK} {W : Nat → Nat → Hp → Prop}
/-- the turns of the generator's own loop -/
theorem gen_loop (hc : X.calm = true) (hco : cenv.scope.isCoroutine = false) (T : Turn X.prog X.w X.K tg J fp it tn) (hpn : ∀ p ∈ pn, ∀ b ∈ fp, p.1 ≠ b)
    (pg : PG (gCx X (.GeneratorExp elt [⟨tg, iter, ifs, 0⟩] scope gpos) s4 H4 cenv it fp pn) tg g) (pt : PTs (gCx X (.GeneratorExp elt [⟨tg, iter, ifs, 0⟩] scope gpos) s4 H4 cenv it fp pn) ifs tt) (pe : PE (gCx X (.GeneratorExp elt [⟨tg, iter, ifs, 0⟩] scope gpos) s4 H4 cenv it fp pn) elt te)
    (turn : ∀ i m H, W i m H → (J.stop i H ∧ Q (.bl (!stopb)) H) ∨ (J.go i H ∧ ∃ Nx : Hp → Prop, (∀ H', Nx H' → ∃ m', m' < m ∧ W (i + 1) m' H') ∧ ∀ x H', J.yld i H x H' → g x (wipe σ own) H' fun σ2 H2 => wipe σ2 own = wipe σ own ∧ tt σ2 H2 fun b H3 =>
      if b = true then te σ2 H3 fun y H4 => (y = .bl stopb ∧ Q (.bl stopb) H4) ∨ (y = .bl (!stopb) ∧ Nx H4) else Nx H3)) :
    ∀ (m n i : Nat) (s0 s : Shared) (H' : Hp), m < n → W i m H' → Inv (gCx X (.GeneratorExp elt [⟨tg, iter, ifs, 0⟩] scope gpos) s4 H4 cenv it fp pn) [] (wipe σ own) H' s → tn i s.heap → (∀ b ∈ fp, H' b = none) →
      Seg (model X.prog X.w) X.A.in1.in1 (fun n s0 r s1 => r = .ok .next ∧ GEndP (gCx X (.GeneratorExp elt [⟨tg, iter, ifs, 0⟩] scope gpos) s4 H4 cenv it fp pn) (wipe σ own) stopb Q n s0 s1)
        (GProto (gCx X (.GeneratorExp elt [⟨tg, iter, ifs, 0⟩] scope gpos) s4 H4 cenv it fp pn) (wipe σ own) fp tn W stopb Q) n s0
        (.compLoop (.GeneratorExp elt [⟨tg, iter, ifs, 0⟩] scope gpos) 0 (.ref it) .none cenv) ((model X.prog X.w).den (.compLoop (.GeneratorExp elt [⟨tg, iter, ifs, 0⟩] scope gpos) 0 (.ref it) .none cenv)) [] s := by
  intro m
  induction m using Nat.strongRecOn with
  | ind m ih =>
    intro n i s0 s H' hmn w I st nf
    have fpk : ∀ {σ' : L2.St} {H' : Hp} {s' : Shared}, Inv (gCx X (.GeneratorExp elt [⟨tg, iter, ifs, 0⟩] scope gpos) s4 H4 cenv it fp pn) [] σ' H' s' → (∀ b ∈ fp, H' b = none) → ∀ b ∈ fp, FpOk (gCx X (.GeneratorExp elt [⟨tg, iter, ifs, 0⟩] scope gpos) s4 H4 cenv it fp pn) [] H' b := fun {σ' H' s'} I' hn b hb =>
      ⟨hn b hb, (I'.ok.exf b hb).1, I'.ok.exfs b hb, .inl hb, (I'.ok.exf b hb).2, fun p hp => hpn p (by simpa using hp) b hb⟩
    show Seg _ _ _ _ n s0 _ ((compTurn (.GeneratorExp elt [⟨tg, iter, ifs, 0⟩] scope gpos) 0 (.ref it) .none cenv).onRaise (leaving cenv)) [] s
    rw [compTurn_gen, Sem.onRaise_eq_wrap]
    refine seg_bind_wrap (wpAny_standAt ?_)
    rcases turn i m H' w with ⟨stop, q⟩ | ⟨go, Nx, hNx, step⟩
    · refine seg_bind_wrap (thnF (T.done (gCx X (.GeneratorExp elt [⟨tg, iter, ifs, 0⟩] scope gpos) s4 H4 cenv it fp pn) rfl rfl rfl hc i [] s _ H' (fun _ _ => False) I (fpk I nf) st stop) fun r s1 z => ?_)
      obtain ⟨rfl, I1⟩ := z
      exact seg_end (.ok .next) ⟨rfl, H', I1, q⟩
    · refine seg_bind_wrap (thnF (T.item (gCx X (.GeneratorExp elt [⟨tg, iter, ifs, 0⟩] scope gpos) s4 H4 cenv it fp pn) rfl rfl rfl hc i [] s _ H' (fun _ _ => False) I (fpk I nf) st go) fun r s1 z => ?_)
      obtain ⟨u, rfl, z⟩ := z
      refine seg_bind_wrap (thnF z fun _ s2 z2 => ?_)
      obtain ⟨x, H2, I2, r2, y2, st2, n2⟩ := z2
      have P2 := I2.pinned (fpk I2 n2) (T.obj _ _ st2)
      refine seg_bind_wrap (thnF (pg.run _ s2 _ H2 x u _ P2 r2 (step x H2 y2)) fun _ s3 z3 => ?_)
      obtain ⟨σ3, H3, I3, hw, q3⟩ := z3
      refine seg_bind_wrap (thnF (pt.run _ s3 σ3 H3 _ I3 q3) fun b sb zb => ?_)
      obtain ⟨Hb, Ib, qb⟩ := zb
      have back : ∀ {s' : Shared} {H' : Hp}, Inv (gCx X (.GeneratorExp elt [⟨tg, iter, ifs, 0⟩] scope gpos) s4 H4 cenv it fp pn) ([] ++ pinsAt fp s2.heap) σ3 H' s' →
          Inv (gCx X (.GeneratorExp elt [⟨tg, iter, ifs, 0⟩] scope gpos) s4 H4 cenv it fp pn) [] (wipe σ own) H' s' ∧ tn (i + 1) s'.heap ∧ ∀ b ∈ fp, H' b = none := fun {s' H'} I' => by
        have pin' : ∀ b ∈ fp, ∀ o, s2.heap.get? b = some o → s'.heap.get? b = some o ∧ H' b = none := fun b hb o e =>
          have y := I'.pin (b, o) (List.mem_append_right _ (List.mem_append_right _ (mem_pinsAt hb e)))
          ⟨y.1, y.2.1⟩
        have hl : (wipe σ own).length = σ3.length := by
          rw [← hw, wipe_length]
        refine ⟨(I'.unpinned (pins := [])).weak hl (fun j v e => ?_), T.keep _ _ _ st2 (fun b hb o e => (pin' b hb o e).1), fun b hb => ?_⟩
        · rw [← hw] at e
          exact (wipe_some e).1
        · obtain ⟨o, e, _⟩ := T.obj _ _ st2 b hb
          exact (pin' b hb o e).2
      cases b with
      | false =>
        simp only [Bool.false_eq_true, if_false] at qb ⊢
        obtain ⟨m', hm, w'⟩ := hNx _ qb
        obtain ⟨I', st', n'⟩ := back Ib
        exact seg_again rfl (ih m' hm n (i + 1) s0 sb Hb (Nat.lt_trans hm hmn) w' I' st' n')
      | true =>
        simp only [if_true] at qb ⊢
        have hy : ∀ v, yieldOut cenv v = yieldValue v := fun v => by simp only [yieldOut, hco, Bool.false_eq_true, if_false]
        simp only [hy]
        rw [Sem.bind_eq_wrap', Sem.bind_eq_wrap', Sem.wrap_wrap, Sem.wrap_wrap]
        refine seg_wrap (thnF (pe.run _ sb σ3 Hb _ Ib qb) fun z sy zy => ?_)
        obtain ⟨v, Hy, Iy, ry, qy⟩ := zy
        obtain ⟨I', st', n'⟩ := back Iy
        obtain ⟨n1, rfl⟩ : ∃ n1, n = n1 + 1 := ⟨n - 1, by omega⟩
        refine seg_at (seg_yield rfl rfl rfl ?_)
        rcases qy with ⟨rfl, q⟩ | ⟨rfl, q⟩
        · cases ry
          exact ⟨stopb, Hy, rfl, I', .inl ⟨rfl, q⟩⟩
        · cases ry
          obtain ⟨m', hm, w'⟩ := hNx _ q
          refine ⟨!stopb, Hy, rfl, I', .inr ⟨rfl, i + 1, m', by omega, w', fun s'' hh ho hb => ?_⟩⟩
          exact seg_again rfl (ih m' hm n1 (i + 1) s'' s'' Hy (by omega) w' (inv_gens I' hh ho hb) (by rw [hh]; exact st') n')
/-- the start of the generator's code -/
theorem gen_begin {n : Nat} {s0 s : Shared} {R : GenEnd} {Y : Protocol} (T : Turn X.prog X.w X.K tg J fp it tn) (st : tn 0 s.heap)
    (loop : Seg (model X.prog X.w) X.A.in1.in1 R Y n s0 (.compLoop (.GeneratorExp elt [⟨tg, iter, ifs, 0⟩] scope gpos) 0 (.ref it) .none cenv) ((model X.prog X.w).den (.compLoop (.GeneratorExp elt [⟨tg, iter, ifs, 0⟩] scope gpos) 0 (.ref it) .none cenv)) [] s) :
    Seg (model X.prog X.w) X.A.in1.in1 R Y n s0 (.compStart (.GeneratorExp elt [⟨tg, iter, ifs, 0⟩] scope gpos) 0 (.ref it) .none cenv) ((model X.prog X.w).den (.compStart (.GeneratorExp elt [⟨tg, iter, ifs, 0⟩] scope gpos) 0 (.ref it) .none cenv)) [] s := by
  show Seg _ _ _ _ n s0 _ ((compStart (.GeneratorExp elt [⟨tg, iter, ifs, 0⟩] scope gpos) 0 (.ref it) .none cenv).onRaise (leaving cenv)) [] s
  unfold compStart
  rw [Sem.onRaise_eq_wrap]
  refine seg_bind_wrap (wpAny_askSetting ?_)
  split
  · exact seg_again rfl loop
  · refine seg_bind_wrap (wpAny_rule ?_)
    show Seg _ _ _ _ n s0 _ ((standAt iter.pos >>= _).wrap _ _ _ _) [] s
    refine seg_bind_wrap (wpAny_standAt (seg_bind_wrap ?_))
    exact T.self _ 0 s _ _ st (seg_again rfl loop)
end
/-- the generator at a, number gn, is asleep (or fresh), with n turns at most -/
def Asleep (X Y : Cx) (σw : L2.St) (fp : List Addr) (tn : Nat → Heap → Prop) (W : Nat → Nat → Hp → Prop) (stopb : Bool) (Q : VK) (gn n : Nat) (s : Shared) : Prop :=
  ∃ (gs : GenState) (H' : Hp), s.gens[gn]? = some gs ∧ Inv Y [] σw H' s ∧ ∀ s'' : Shared, s''.heap = s.heap → s''.os = s.os → AllBare s''.gens →
    gs.Goes (model X.prog X.w) X.A.in1.in1 (fun n s0 r s1 => r = .ok .next ∧ GEndP Y σw stopb Q n s0 s1) (GProto Y σw fp tn W stopb Q) n (.send .none) s''
section
variable {X Y : Cx} {σw : L2.St} {fp : List Addr} {tn : Nat → Heap → Prop} {W : Nat → Nat → Hp → Prop} {Q : VK} {gn : Nat} {a : Addr} {go : Obj} {R : Result → Shared → Prop}
theorem set_at {s : Shared} {x : GenState} (h : gn < s.gens.size) : (s.setGen gn x).gens[gn]? = some x := by
  show (s.gens.setIfInBounds gn x)[gn]? = some x
  rw [Array.getElem?_setIfInBounds_self_of_lt h]
/-- one waking of the generator -/
theorem wake {stopb : Bool} {n : Nat} {s : Shared} {Q' : Option Value → Shared → Prop} {E : Value → Shared → Prop} (hh : X.A.handled = none) (hroom : X.A.depth < recursionLimit) (hp : (a, go) ∈ Y.pn) (hgo : ∀ h : Heap, h.get? a = some go → h.IsGen a gn) (S : Asleep X Y σw fp tn W stopb Q gn n s)
    (stop : ∀ s' H', Inv Y [] σw H' s' → Q (.bl stopb) H' → Q' (some (.bool stopb)) s') (next : ∀ s' m, m < n → Asleep X Y σw fp tn W stopb Q gn m s' → Q' (some (.bool (!stopb))) s') (done : ∀ s' H', Inv Y [] σw H' s' → Q (.bl (!stopb)) H' → Q' none s') :
    wpAny (model X.prog X.w) X.A.in1 (pyNext (.ref a)) Q' E s := by
  obtain ⟨gs, H', hg, I, hG⟩ := S
  have hlt : gn < s.gens.size := by
    rcases Nat.lt_or_ge gn s.gens.size with z | z
    · exact z
    · rw [Array.getElem?_eq_none z] at hg
      cases hg
  have ig : s.heap.IsGen a gn := hgo _ (I.pin (a, go) (List.mem_append_left _ hp)).1
  refine GenW.wpAny_gsz (n := s.gens.size) (Nat.le_refl _) ?_
  refine wpAny_pyNext_genexpQ (A := X.A.in1) hh I.nolimit hroom ig hg (hG _ rfl rfl (bare_set I.bare rfl)) (fun v s1 gs' hb hv sz => ?_) (fun s1 hp1 h' hk sz => ?_)
  · obtain ⟨k, H1, rfl, I1, z⟩ := hv
    have sz1 : gn < s1.gens.size := by
      have e : (s1.setGen gn gs').gens.size = s1.gens.size := GenW.setGen_size _ _ _
      rw [e] at sz
      omega
    have I2 : Inv Y [] σw H1 (s1.setGen gn gs') := inv_gens I1 rfl rfl (bare_set I1.bare hb)
    rcases z with ⟨rfl, q⟩ | ⟨rfl, i, m, hm, w, kap⟩
    · exact stop _ H1 I2 q
    · cases n with
      | zero => omega
      | succ n1 =>
        refine next _ n1 (Nat.lt_succ_self _) ⟨gs', H1, set_at sz1, I2, fun s'' h1 h2 h3 => ?_⟩
        exact kap s'' h1 h2 h3
  · obtain ⟨H1, I1, q⟩ := hp1
    refine done _ H1 ?_ q
    have I2 : Inv Y [] σw H1 (s1.setGen gn .finished) := inv_gens I1 rfl rfl (bare_set I1.bare rfl)
    exact I2.kept (h' := h') (t' := s1.toks) fun b o e => hk b o e
theorem any_loop (hh : X.A.handled = none) (hroom : X.A.depth < recursionLimit) (hp : (a, go) ∈ Y.pn) (hgo : ∀ h : Heap, h.get? a = some go → h.IsGen a gn)
    (fin : ∀ s' H' b, Inv Y [] σw H' s' → Q (.bl b) H' → R (.ok (.ret (.bool b))) s') : ∀ (n : Nat) (s : Shared), Asleep X Y σw fp tn W true Q gn n s → codeAny (model X.prog X.w) X.A (.builtin "any.loop" ⟨[.ref a], []⟩) R s := by
  intro n
  induction n using Nat.strongRecOn with
  | ind n ih =>
    intro s S
    refine codeAny_builtin F.entry_any_loop ?_
    rw [Around.under_plainId F.plain_any_loop _]
    show wpAny _ X.A.in1 (pyNext (.ref a) >>= _) _ _ s
    refine wpAny_bind (wake hh hroom hp hgo S (fun s' H' I q => ?_) (fun s' m hm S' => ?_) (fun s' H' I q => ?_))
    · refine wpAny_bind (wpAny_holding (wpAny_truthy_bool (wpAny_bind (wpAny_letGo ?_))))
      simp only [if_true]
      exact wpAny_bind (wpAny_rule (wpAny_pure (fin s' H' true I q)))
    · refine wpAny_bind (wpAny_holding (wpAny_truthy_bool (wpAny_bind (wpAny_letGo ?_))))
      simp only [Bool.not_true, Bool.false_eq_true, if_false]
      exact wpAny_pure ⟨plainId_quiet F.plain_any_loop _, ih m hm s' S'⟩
    · exact wpAny_bind (wpAny_rule (wpAny_pure (fin s' H' false I q)))
theorem all_loop (hh : X.A.handled = none) (hroom : X.A.depth < recursionLimit) (hp : (a, go) ∈ Y.pn) (hgo : ∀ h : Heap, h.get? a = some go → h.IsGen a gn)
    (fin : ∀ s' H' b, Inv Y [] σw H' s' → Q (.bl b) H' → R (.ok (.ret (.bool b))) s') : ∀ (n : Nat) (s : Shared), Asleep X Y σw fp tn W false Q gn n s → codeAny (model X.prog X.w) X.A (.builtin "all.loop" ⟨[.ref a], []⟩) R s := by
  intro n
  induction n using Nat.strongRecOn with
  | ind n ih =>
    intro s S
    refine codeAny_builtin F.entry_all_loop ?_
    rw [Around.under_plainId F.plain_all_loop _]
    show wpAny _ X.A.in1 (pyNext (.ref a) >>= _) _ _ s
    refine wpAny_bind (wake hh hroom hp hgo S (fun s' H' I q => ?_) (fun s' m hm S' => ?_) (fun s' H' I q => ?_))
    · refine wpAny_bind (wpAny_holding (wpAny_truthy_bool (wpAny_bind (wpAny_letGo ?_))))
      simp only [Bool.false_eq_true, if_false]
      exact wpAny_bind (wpAny_rule (wpAny_pure (fin s' H' false I q)))
    · refine wpAny_bind (wpAny_holding (wpAny_truthy_bool (wpAny_bind (wpAny_letGo ?_))))
      simp only [Bool.not_false, if_true]
      exact wpAny_pure ⟨plainId_quiet F.plain_all_loop _, ih m hm s' S'⟩
    · exact wpAny_bind (wpAny_rule (wpAny_pure (fin s' H' true I q)))
end
/-- any(elt for target in iter if ..) (stopb true), all(..) (stopb false): W by the turn and a measure, Nx what a turn is to reach; P: the def's table of code objects -/
def tAA (P : Addr) (stopb : Bool) (wi : TI) (g : TG) (tt : TT) (te : TE) (vs : List Nat) : TE := fun σ H Q => wi σ H fun J H1 => TabG H1 P ∧ ∀ H2, Tabbed P H1 H2 → ∃ W : Nat → Nat → Hp → Prop, (∃ m, W 0 m H2) ∧
  ∀ i m H, W i m H → (J.stop i H ∧ Q (.bl (!stopb)) H) ∨ (J.go i H ∧ ∃ Nx : Hp → Prop, (∀ H', Nx H' → ∃ m', m' < m ∧ W (i + 1) m' H') ∧ ∀ x H', J.yld i H x H' → g x (wipe σ vs) H' fun σ2 H2 => wipe σ2 vs = wipe σ vs ∧ tt σ2 H2 fun b H3 =>
    if b = true then te σ2 H3 fun y H4 => (y = .bl stopb ∧ Q (.bl stopb) H4) ∨ (y = .bl (!stopb) ∧ Nx H4) else Nx H3)
/-- over a tuple that stays -/
theorem aa_tup {K : PySem.W.Frag} {a : Addr} {xs : List V} {g : TG} {tt : TT} {te : TE} {vs : List Nat} {σ : L2.St} {H1 : Hp} {stopb : Bool} {Q : VK} (Pv : Nat → Hp → Prop) (h0 : Pv 0 H1) (hl : ∀ i H, i ≤ xs.length → Pv i H → SqT K H a xs)
    (hs : ∀ i x H, xs[i]? = some x → Pv i H → g x (wipe σ vs) H fun σ2 H2 => wipe σ2 vs = wipe σ vs ∧ tt σ2 H2 fun b H3 => if b = true then te σ2 H3 fun y H4 => (y = .bl stopb ∧ Q (.bl stopb) H4) ∨ (y = .bl (!stopb) ∧ Pv (i + 1) H4) else Pv (i + 1) H3) (hd : ∀ H, Pv xs.length H → Q (.bl (!stopb)) H) :
    ∃ W : Nat → Nat → Hp → Prop, (∃ m, W 0 m H1) ∧ ∀ i m H, W i m H → ((Itt K a).stop i H ∧ Q (.bl (!stopb)) H) ∨ ((Itt K a).go i H ∧ ∃ Nx : Hp → Prop, (∀ H', Nx H' → ∃ m', m' < m ∧ W (i + 1) m' H') ∧ ∀ x H', (Itt K a).yld i H x H' → g x (wipe σ vs) H' fun σ2 H2 => wipe σ2 vs = wipe σ vs ∧ tt σ2 H2 fun b H3 =>
      if b = true then te σ2 H3 fun y H4 => (y = .bl stopb ∧ Q (.bl stopb) H4) ∨ (y = .bl (!stopb) ∧ Nx H4) else Nx H3) := by
  refine ⟨fun i m H => i + m = xs.length ∧ Pv i H, ⟨xs.length, Nat.zero_add _, h0⟩, fun i m H ⟨e, p⟩ => ?_⟩
  have sq := hl i H (by omega) p
  cases m with
  | zero =>
    have ei : i = xs.length := by omega
    subst ei
    exact .inl ⟨⟨xs, sq, Nat.le_refl _⟩, hd H p⟩
  | succ m =>
    have lt : i < xs.length := by omega
    refine .inr ⟨⟨xs, xs[i], sq, List.getElem?_eq_getElem lt⟩, Pv (i + 1), fun H' q => ⟨m, Nat.lt_succ_self m, by omega, q⟩, fun x H' y => ?_⟩
    obtain ⟨rfl, y⟩ := y
    exact hs i x _ (y xs sq) p
section
variable {X : Cx} {pins : List (Addr × Obj)} {σ : L2.St} {H : Hp} {s : Shared} {c P : Addr} {elt tg iter : Expr} {ifs : List Expr} {scope : Scope} {own : List (Str × Nat)} {gpos : Pos} {wi : TI} {g : TG} {tt : TT} {te : TE} {stopb : Bool} {k : Nat}
/-- the scope of a generator expression: no cells of its own -/
structure GSc (scope : Scope) : Prop where
  co : scope.isCoroutine = false
  nc : ∀ y ∈ scope.names, y.2 ≠ .cell
  dot : scope.names.lookup (".0" : Str) = some NameKind.local
theorem gen_make {Q : VK} {Q' : Value → Shared → Prop} (hr : Room k X.A) (hc : X.calm = true) (hN : X.N.Nodup) (TB : TabB X.base X.mg c P) (hcode : X.env.code = .ref c) (hi : PI X tg iter wi) (ok : BlkOk X.N X.env.scope scope own) (S : GSc scope)
    (hg : ∀ (s : Shared) (H : Hp) (C : Addr) (code : Value) (it : Addr) (fp : List Addr) (pn : List (Addr × Obj)), PG (gCx X (.GeneratorExp elt [⟨tg, iter, ifs, 0⟩] scope gpos) s H (genEnv scope (cloFrom X.env.cells scope.names []) C code builtinsNs X.env) it fp pn) tg g)
    (ht : ∀ (s : Shared) (H : Hp) (C : Addr) (code : Value) (it : Addr) (fp : List Addr) (pn : List (Addr × Obj)), PTs (gCx X (.GeneratorExp elt [⟨tg, iter, ifs, 0⟩] scope gpos) s H (genEnv scope (cloFrom X.env.cells scope.names []) C code builtinsNs X.env) it fp pn) ifs tt)
    (he : ∀ (s : Shared) (H : Hp) (C : Addr) (code : Value) (it : Addr) (fp : List Addr) (pn : List (Addr × Obj)), PE (gCx X (.GeneratorExp elt [⟨tg, iter, ifs, 0⟩] scope gpos) s H (genEnv scope (cloFrom X.env.cells scope.names []) C code builtinsNs X.env) it fp pn) elt te)
    (hs : ∀ x, genFold iter X.env x = pure x) (I : Inv X pins σ H s) (h : tAA P stopb wi g tt te (own.map (·.2)) σ H Q)
    (hQ : ∀ (a : Addr) (go : Obj) (gn n : Nat) (Y : Cx) (fp : List Addr) (tn : Nat → Heap → Prop) (W : Nat → Nat → Hp → Prop) (s5 : Shared), (a, go) ∈ Y.pn → (∀ h : Heap, h.get? a = some go → h.IsGen a gn) → (∀ s' H', Inv Y [] (wipe σ (own.map (·.2))) H' s' → Inv X pins σ H' s') → s5.heap.get? a = some go →
      Asleep X Y (wipe σ (own.map (·.2))) fp tn W stopb Q gn n s5 → Q' (.ref a) s5) :
    wpAny (model X.prog X.w) X.A (eval (.GeneratorExp elt [⟨tg, iter, ifs, 0⟩] scope gpos) X.env) Q' X.xe s := by
  have hfree : ∀ y ∈ scope.names, y.2 = .free → ∃ c, X.env.cells.lookup y.1 = some c := fun y hy e => by
    rcases ok.free y hy e with z | z
    · exact I.ok.has _ (.inl z)
    · exact I.ok.has _ (.inr z)
  refine wpAny_GeneratorExp_make S.co (closure_ok hfree) S.nc S.dot ok.kind (by have := hr.dp; omega) (thn (hi.run pins s σ H _ I h) fun xv s1 hx => thn hx fun itv s2 h2 => ?_) hs
  obtain ⟨it, fp, tn, J, H2, rfl, I2, T, st2, f2, ⟨ps, hP, hT⟩, q⟩ := h2
  have hPs : s2.heap.get? P = some { cls := .none, data := .fields ps } := I2.hok P _ hP
  have cd : PySem.W.CodeHd s2.heap c P := TB.code.keeps I2.bk
  have szf : ∀ b ∈ fp, b < s2.heap.objs.size := fun b hb => by
    obtain ⟨o, e, _⟩ := T.obj _ _ st2 b hb
    exact Heap.lt_size e
  have nP : ∀ b ∈ fp, b ≠ P := fun b hb z => by
    have e := (f2 b hb).1
    rw [z, hP] at e
    cases e
  refine ⟨I2.nolimit, ?_⟩
  have cont : ∀ (code : Value) (h3 : Heap) (tk : Nat) (more : Array Value), Heap.ExtBut P s2.heap h3 → s2.heap.objs.size ≤ h3.objs.size → h3.get? P = some { cls := .none, data := .fields (ps ++ more) } → TriplesOk (ps ++ more).toList →
      wpAny (model X.prog X.w) X.A (builtinsFor X.env.globals X.env.builtins) (fun bi s4 => ∀ h', h'.Ns s4.heap.objs.size (fun y => if y = ".0" then some (.ref it) else none) → Heap.SameBut s4.heap.objs.size (s4.heap.push { cls := .type "frame", data := .dict #[] }) h' →
        Q' (.ref h'.objs.size) { s4 with
          gens := s4.gens.push (.fresh (.compStart (.GeneratorExp elt [⟨tg, iter, ifs, 0⟩] scope gpos) 0 (.ref it) .none (genEnv scope (cloFrom X.env.cells scope.names []) s4.heap.objs.size code bi X.env))),
          toks := s4.toks + 1 + 1 + 1,
          heap := h'.push { cls := .type "generator", data := .fields #[.int s4.gens.size 0, .str "<genexpr>" (s4.toks + 1), .str (X.env.qual ++ "<genexpr>") (s4.toks + 1 + 1)] } }) X.xe { s2 with heap := h3, toks := tk } := by
    intro code h3 tk more hx hsz hP3 hT3
    obtain ⟨bm, ob, e1, e2, e3, e4, e5, e6, e7, e8⟩ := TB.bm
    have I3 : Inv X pins σ (upd H2 P (.tbl (ps ++ more))) { s2 with heap := h3, toks := tk } := inv_tab (g' := s2.gens) (d' := s2.drawn) (t' := tk) I2 hP (fun b o hb e => hx b o hb e) hP3 I2.bare
    have f3 : ∀ b ∈ fp, FpOk X pins (upd H2 P (.tbl (ps ++ more))) b ∧ b < h3.objs.size := fun b hb => ⟨⟨by rw [upd_ne (nP b hb)]; exact (f2 b hb).1, (f2 b hb).2⟩, Nat.lt_of_lt_of_le (szf b hb) hsz⟩
    have st3 : tn 0 h3 := T.keep _ _ _ st2 fun b hb o e => hx b o (nP b hb) e
    obtain ⟨W, ⟨m0, w0⟩, turn⟩ := q (upd H2 P (.tbl (ps ++ more))) ⟨⟨_, upd_same, hT3⟩, fun b hb => upd_ne hb⟩
    refine wpAny_builtinsFor (m := X.mg) (by rw [I3.ok.glob]; exact I3.mod.glob.keeps I3.bk) e1 e2 (hx _ _ e4 (I2.bk _ _ e5)) e6 e7 e8 ?_
    intro h' hn' hs'
    have hsz' : h'.objs.size = h3.objs.size + 1 := by
      rw [hs'.1]
      exact Heap.size_push ..
    have kp : ∀ b o, h3.get? b = some o → (h'.push { cls := .type "generator", data := .fields #[.int s2.gens.size 0, .str "<genexpr>" (tk + 1), .str (X.env.qual ++ "<genexpr>") (tk + 1 + 1)] }).get? b = some o := fun b o e =>
      Heap.get?_push_of_some _ (hs'.extBut b o (Nat.ne_of_lt (Heap.lt_size e)) (Heap.get?_push_of_some _ e))
    have st5 := T.keep _ _ _ st3 fun b hb o e => kp b o e
    have nf : ∀ b ∈ fp, (upd H2 P (.tbl (ps ++ more))) b = none := fun b hb => (f3 b hb).1.1
    have IG := gen_start (ge := .GeneratorExp elt [⟨tg, iter, ifs, 0⟩] scope gpos) (it := it) (code := code) (tk := tk + 1 + 1 + 1)
      (gs := s2.gens.push (.fresh (.compStart (.GeneratorExp elt [⟨tg, iter, ifs, 0⟩] scope gpos) 0 (.ref it) .none (genEnv scope (cloFrom X.env.cells scope.names []) h3.objs.size code builtinsNs X.env)))) I3 hc ok hN S.nc f3
      (by show pushEnvs [_] (pushEnvs [] X.A.frames) = _; rw [I.ok.frames]; rfl) (I2.bare.push rfl) kp (hn'.keeps fun b o e => Heap.get?_push_of_some _ e) (Heap.get?_push_size h' rfl) (show h3.objs.size < h'.objs.size by omega) (fun v z => by cases z)
    refine hQ h'.objs.size _ s2.gens.size (m0 + 1) _ fp tn W _ List.mem_cons_self (fun h0 e => ?_) (fun s' H' J' => ?_) (Heap.get?_push_size h' rfl) ⟨_, _, Array.getElem?_push_size .., IG, fun s'' h1 h2 h3' => ?_⟩
    · exact ⟨_, _, _, e, rfl, rfl, rfl⟩
    · exact I3.call' (ch := fp) J'.os J'.base J'.hok J'.bare fun b hb => ⟨(f3 b hb).1.2.2.2.1, (f3 b hb).1.2.1, (f3 b hb).1.2.2.2.2.1, (f3 b hb).1.2.2.2.2.2⟩
    · refine ⟨rfl, gen_begin T (by rw [h1]; exact st5) ?_⟩
      refine gen_loop hc S.co T (fun p hp b hb z => ?_) (hg _ _ _ _ _ _ _) (ht _ _ _ _ _ _ _) (he _ _ _ _ _ _ _) turn m0 (m0 + 1) 0 s'' s'' _ (Nat.lt_succ_self _) w0 (inv_gens IG h1 h2 h3') (by rw [h1]; exact st5) nf
      rw [List.mem_singleton.mp hp] at z
      have z1 := (f3 b hb).2
      rw [← z] at z1
      have z2 : h'.objs.size < h3.objs.size := z1
      omega
  cases hf : codeAmong gpos ps.toList with
  | none =>
    refine wpAny_genexprCodeX hcode (cd.code hPs hT) (cd.tab hPs) hf fun c' h' tk hx hge hlt hco' _ htab' _ => ?_
    have tr : TriplesOk (ps ++ #[rawInt gpos.line, rawInt gpos.col, Value.ref c']).toList := by
      obtain ⟨_, _, _, _, _, _, _, _, _, _, _, _, _, _, _, _, _, _, _, z, _⟩ := hco'
      exact z
    exact cont _ h' tk _ hx (Nat.le_trans hge (Nat.le_of_lt hlt)) htab'.2 tr
  | some cv =>
    refine wpAny_genexprCode_hit hcode (cd.code hPs hT) hf ?_
    exact cont cv s2.heap s2.toks #[] (Heap.ExtBut.refl _ _) (Nat.le_refl _) (by rw [Array.append_empty]; exact hPs) (by rw [Array.append_empty]; exact hT)
theorem pe_any {p pos : Pos} (hr : Room k X.A) (hb : Gl X "any") (hm : X.mg "any" = none) (hc : X.calm = true) (hN : X.N.Nodup) (TB : TabB X.base X.mg c P) (hcode : X.env.code = .ref c) (hi : PI X tg iter wi) (ok : BlkOk X.N X.env.scope scope own) (S : GSc scope)
    (hg : ∀ (s : Shared) (H : Hp) (C : Addr) (code : Value) (it : Addr) (fp : List Addr) (pn : List (Addr × Obj)), PG (gCx X (.GeneratorExp elt [⟨tg, iter, ifs, 0⟩] scope gpos) s H (genEnv scope (cloFrom X.env.cells scope.names []) C code builtinsNs X.env) it fp pn) tg g)
    (ht : ∀ (s : Shared) (H : Hp) (C : Addr) (code : Value) (it : Addr) (fp : List Addr) (pn : List (Addr × Obj)), PTs (gCx X (.GeneratorExp elt [⟨tg, iter, ifs, 0⟩] scope gpos) s H (genEnv scope (cloFrom X.env.cells scope.names []) C code builtinsNs X.env) it fp pn) ifs tt)
    (he : ∀ (s : Shared) (H : Hp) (C : Addr) (code : Value) (it : Addr) (fp : List Addr) (pn : List (Addr × Obj)), PE (gCx X (.GeneratorExp elt [⟨tg, iter, ifs, 0⟩] scope gpos) s H (genEnv scope (cloFrom X.env.cells scope.names []) C code builtinsNs X.env) it fp pn) elt te)
    (hs : ∀ x, genFold iter X.env x = pure x := by intro _; rfl)
    (hst : starEach [.GeneratorExp elt [⟨tg, iter, ifs, 0⟩] scope gpos] X.env = (false, eval (.GeneratorExp elt [⟨tg, iter, ifs, 0⟩] scope gpos) X.env) :: starEach [] X.env := by rfl) :
    PE X (.Call (.Name "any" p) [.GeneratorExp elt [⟨tg, iter, ifs, 0⟩] scope gpos] [] pos) (tAA P true wi g tt te (own.map (·.2))) := by
  refine ⟨fun pins s σ H Q I h => wpAny_Call_Name_kw (ld_blt I hb hm boot_any (PyProof.Rows.callWith_builtin1 ?_ hst (by rfl)))⟩
  rw [hst]
  refine Calls.spliced_cons (gen_make hr hc hN TB hcode hi ok S hg ht he hs I h fun a go gn n Y fp tn W s5 h1 h2 h3 h4 SL => Calls.spliced_nil ?_)
  refine call_function_tree F.kind_any F.plain_any F.entry_any (F.args_any1 _) ?_
  unfold Builtin.«any»
  refine wpAny_bind (m := oneArg "any" _) (wpAny_pure (wpAny_bind (wpAny_pyIter_gen (h2 _ h4) (wpAny_pure ⟨plainId_quiet F.plain_any_loop _, ?_⟩))))
  exact any_loop (I.ok.hd hc) hr.depth h1 h2 (fun s' H' b J q => ⟨.bl b, H', h3 s' H' J, rfl, q⟩) n s5 SL
theorem pe_all {p pos : Pos} (hr : Room k X.A) (hb : Gl X "all") (hm : X.mg "all" = none) (hc : X.calm = true) (hN : X.N.Nodup) (TB : TabB X.base X.mg c P) (hcode : X.env.code = .ref c) (hi : PI X tg iter wi) (ok : BlkOk X.N X.env.scope scope own) (S : GSc scope)
    (hg : ∀ (s : Shared) (H : Hp) (C : Addr) (code : Value) (it : Addr) (fp : List Addr) (pn : List (Addr × Obj)), PG (gCx X (.GeneratorExp elt [⟨tg, iter, ifs, 0⟩] scope gpos) s H (genEnv scope (cloFrom X.env.cells scope.names []) C code builtinsNs X.env) it fp pn) tg g)
    (ht : ∀ (s : Shared) (H : Hp) (C : Addr) (code : Value) (it : Addr) (fp : List Addr) (pn : List (Addr × Obj)), PTs (gCx X (.GeneratorExp elt [⟨tg, iter, ifs, 0⟩] scope gpos) s H (genEnv scope (cloFrom X.env.cells scope.names []) C code builtinsNs X.env) it fp pn) ifs tt)
    (he : ∀ (s : Shared) (H : Hp) (C : Addr) (code : Value) (it : Addr) (fp : List Addr) (pn : List (Addr × Obj)), PE (gCx X (.GeneratorExp elt [⟨tg, iter, ifs, 0⟩] scope gpos) s H (genEnv scope (cloFrom X.env.cells scope.names []) C code builtinsNs X.env) it fp pn) elt te)
    (hs : ∀ x, genFold iter X.env x = pure x := by intro _; rfl)
    (hst : starEach [.GeneratorExp elt [⟨tg, iter, ifs, 0⟩] scope gpos] X.env = (false, eval (.GeneratorExp elt [⟨tg, iter, ifs, 0⟩] scope gpos) X.env) :: starEach [] X.env := by rfl) :
    PE X (.Call (.Name "all" p) [.GeneratorExp elt [⟨tg, iter, ifs, 0⟩] scope gpos] [] pos) (tAA P false wi g tt te (own.map (·.2))) := by
  refine ⟨fun pins s σ H Q I h => wpAny_Call_Name_kw (ld_blt I hb hm (show bootBuiltins "all" = some (.builtin "all") by decide +kernel) (PyProof.Rows.callWith_builtin1 ?_ hst (by rfl)))⟩
  rw [hst]
  refine Calls.spliced_cons (gen_make hr hc hN TB hcode hi ok S hg ht he hs I h fun a go gn n Y fp tn W s5 h1 h2 h3 h4 SL => Calls.spliced_nil ?_)
  refine call_function_tree F.kind_all F.plain_all F.entry_all (F.args_all1 _) ?_
  unfold Builtin.«all»
  refine wpAny_bind (m := oneArg "all" _) (wpAny_pure (wpAny_bind (wpAny_pyIter_gen (h2 _ h4) (wpAny_pure ⟨plainId_quiet F.plain_all_loop _, ?_⟩))))
  exact all_loop (I.ok.hd hc) hr.depth h1 h2 (fun s' H' b J q => ⟨.bl b, H', h3 s' H' J, rfl, q⟩) n s5 SL
end
end Gx
namespace Dr
open PySem PySem.Spec PyProof.Rows L2
/-! ### the drawing of numbers: smixed, sdraw, sopen -/
def topS (i : Nat) : Stmt := PySem.Challenge.pw_sparecut_k01_claims_known.main.body.getD i (.Pass ⟨0, 0, 0, 0⟩)
abbrev sMix : Stmt := topS 10
abbrev sDrw : Stmt := topS 11
abbrev sOpn : Stmt := topS 12
theorem scMix : FnScope ["cell", "at", "one", "two", "three"] ["cell", "at"] (defScope sMix) := ⟨rfl, rfl, rfl, by decide +kernel, rfl, by decide +kernel, by decide +kernel⟩
theorem scDrw : FnScope ["feed", "many", "at", "cell", "digit"] ["feed", "many"] (defScope sDrw) := ⟨rfl, rfl, rfl, by decide +kernel, rfl, by decide +kernel, by decide +kernel⟩
theorem scOpn : FnScope ["script"] ["script"] (defScope sOpn) := ⟨rfl, rfl, rfl, by decide +kernel, rfl, by decide +kernel, by decide +kernel⟩
/-- what lies at f: cells (at c), a place, a rest; at most B cells were taken -/
def Feed (H : Hp) (f c : Addr) (B : Nat) : Prop := ∃ (ns : List Int) (n : Nat) (r : Int),
  H f = some (.lst [.ref c, .int n, .int r]) ∧ H c = some (.lst (ns.map V.int)) ∧ ns.length ≤ 60 ∧ n ≤ B
/-- all but f is as it was -/
def But (f : Addr) (H H' : Hp) : Prop := ∀ b, b ≠ f → H' b = H b
theorem But.refl (f : Addr) (H : Hp) : But f H H := fun _ _ => rfl
theorem But.trans {f : Addr} {H H1 H2 : Hp} (a : But f H H1) (b : But f H1 H2) : But f H H2 := fun x n => (b x n).trans (a x n)
theorem Feed.mono {H : Hp} {f c : Addr} {B B' : Nat} (h : Feed H f c B) (l : B ≤ B') : Feed H f c B' := by
  obtain ⟨ns, n, r, h1, h2, h3, h4⟩ := h
  exact ⟨ns, n, r, h1, h2, h3, Nat.le_trans h4 l⟩
theorem Feed.same {H H' : Hp} {f c : Addr} {B : Nat} (h : Feed H f c B) (s : Same H H') : Feed H' f c B := by
  obtain ⟨ns, n, r, h1, h2, h3, h4⟩ := h
  exact ⟨ns, n, r, s _ _ h1, s _ _ h2, h3, h4⟩
theorem Feed.upd {H : Hp} {f c D : Addr} {B : Nat} {o : HO} (h : Feed H f c B) (nf : D ≠ f) (nc : D ≠ c) : Feed (upd H D o) f c B := by
  obtain ⟨ns, n, r, h1, h2, h3, h4⟩ := h
  exact ⟨ns, n, r, by rw [upd_ne (Ne.symm nf)]; exact h1, by rw [upd_ne (Ne.symm nc)]; exact h2, h3, h4⟩
theorem Feed.nf {H : Hp} {f c D : Addr} {B : Nat} (h : Feed H f c B) (n : H D = none) : D ≠ f := by
  obtain ⟨_, _, _, h1, _⟩ := h
  exact Ne.symm (ne_of_none h1 n)
theorem Feed.nc {H : Hp} {f c D : Addr} {B : Nat} (h : Feed H f c B) (n : H D = none) : D ≠ c := by
  obtain ⟨_, _, _, _, h2, _⟩ := h
  exact Ne.symm (ne_of_none h2 n)
theorem feed_ne {H : Hp} {f c : Addr} {ns : List Int} {a : V} {as : List V} (h1 : H f = some (.lst (.ref c :: as))) (h2 : H c = some (.lst (ns.map V.int))) : c ≠ f := by
  intro e
  rw [e, h1] at h2
  have z := HO.lst.inj (Option.some.inj h2)
  cases ns with
  | nil => cases z
  | cons x r => cases z
section
variable {P : Program} {w : World} {K : PySem.W.Frag} {mg : Str → Option Value} {base : Heap}
def spMix : Sp := fun vs H Q _ => ∃ (c : Int) (n : Nat), vs = [.int c, .int n] ∧ n ≤ 2 ^ 60 ∧ ∀ r : Int, Q (.int r) H
theorem ok_mix {f : Addr} {fd : FuncData} {k : Nat} (F : Fun K "_law_smixed" "_law_smixed" sMix f fd) : FnOk P w K mg base CX0 (k + 1) f fd ["cell", "at"] spMix := by
  refine F.ok scMix (fun vs H Q E h => ?_) (fun cdv A outer s H vs Q E hr h => ?_)
  · obtain ⟨c, n, rfl, _⟩ := h
    rfl
  · obtain ⟨c, n, rfl, hn, q⟩ := h
    refine ⟨_, pss_cons (ps_set (i := 2) scMix.nd rfl (.inl rfl) (pe_op op_mod (pe_op op_add (pe_op op_add (pe_op op_mul (pe_op op_mod (pv 0) pe_int) pe_int) (pe_op op_mul (pv 1) pe_int)) pe_int) pe_int))
      (pss_cons (ps_set (i := 3) scMix.nd rfl (.inl rfl) (pe_op op_mod (pe_op op_add (pe_op op_add (pe_op op_mul (pv 2) (pv 2)) (pe_op op_mul (pe_op op_mul (pv 1) (pv 1)) pe_int)) pe_int) pe_int))
      (pss_cons (ps_set (i := 4) scMix.nd rfl (.inl rfl) (pe_op op_mod (pe_op op_add (pe_op op_add (pe_op op_mul (pv 3) (pv 3)) (pv 2)) (pv 1)) pe_int))
      (pss_one (ps_ret (pe_op op_add (pe_op op_mul (pe_op op_add (pe_op op_mul (pv 4) pe_int) (pv 3)) pe_int) (pv 2)))))), ?_⟩
    refine ⟨_, rfl, _, _, rfl, rfl, by show (0 : Int) < 2147483647; decide, _, _, rfl, rfl, .inr ⟨by decide, by decide⟩, _, rfl, _, _, rfl, rfl, .inr ⟨by decide, by decide⟩, _, _, rfl, rfl, _, _, rfl, rfl, _, _, rfl, rfl, by show (0 : Int) < 2147483629; decide, ?_⟩
    generalize e1 : (c % 2147483647 * 48271 + (n : Int) * 7919 + 11) % 2147483629 = one
    have o1 : 0 ≤ one := by rw [← e1]; exact Int.emod_nonneg _ (by decide)
    have o2 : one < 2147483629 := by rw [← e1]; exact Int.emod_lt_of_pos _ (by decide)
    refine ⟨_, rfl, _, rfl, _, _, rfl, rfl, .inl ⟨by omega, by omega⟩, _, rfl, _, rfl, _, _, rfl, rfl, .inl ⟨by omega, by omega⟩, _, _, rfl, rfl, .inr ⟨by decide, by decide⟩, _, _, rfl, rfl, _, _, rfl, rfl, _, _, rfl, rfl, by show (0 : Int) < 2147483587; decide, ?_⟩
    generalize e2 : (one * one + (n : Int) * (n : Int) * 31 + 5) % 2147483587 = two
    have t1 : 0 ≤ two := by rw [← e2]; exact Int.emod_nonneg _ (by decide)
    have t2 : two < 2147483587 := by rw [← e2]; exact Int.emod_lt_of_pos _ (by decide)
    refine ⟨_, rfl, _, rfl, _, _, rfl, rfl, .inl ⟨by omega, by omega⟩, _, rfl, _, _, rfl, rfl, _, rfl, _, _, rfl, rfl, _, _, rfl, rfl, by show (0 : Int) < 2147483563; decide, ?_⟩
    exact ⟨_, rfl, _, _, rfl, rfl, .inr ⟨by decide, by decide⟩, _, rfl, _, _, rfl, rfl, _, _, rfl, rfl, .inr ⟨by decide, by decide⟩, _, rfl, _, _, rfl, rfl, q _⟩
/-- sdraw(feed, many): any number from 0 to many - 1 -/
def spDrw : Sp := fun vs H Q _ => ∃ (f c : Addr) (m : Int) (B : Nat), vs = [.ref f, .int m] ∧ 0 < m ∧ m < 2 ^ 29 ∧ Feed H f c B ∧ B ≤ 2 ^ 59 ∧
  ∀ (d : Int) (H' : Hp), 0 ≤ d → d < m → Feed H' f c (B + 1) → But f H H' → Q (.int d) H'
theorem ok_drw {f fM : Addr} {fd fdM : FuncData} {k : Nat} (F : Fun K "_law_sdraw" "_law_sdraw" sDrw f fd) (FM : Fun K "_law_smixed" "_law_smixed" sMix fM fdM) (bM : Binds K fdM ["cell", "at"] []) (gM : mg "_law_smixed" = some (.ref fM)) (ml : mg "len" = none) :
    FnOk P w K mg base CX0 (k + 2) f fd ["feed", "many"] spDrw := by
  have GM : FnOk P w K mg base CX0 1 fM fdM ["cell", "at"] spMix := ok_mix FM
  refine F.ok scDrw (fun vs H Q E h => ?_) (fun cdv A outer s H vs Q E hr h => ?_)
  · obtain ⟨f, c, m, B, rfl, _⟩ := h
    rfl
  · obtain ⟨f, c, m, B, rfl, m0, m1, hF, hB, q⟩ := h
    have hr1 : Room 1 _ := hr.mono (by omega)
    refine ⟨_, Evl.pss_cut (ps_if (pt_cmpR op_lt (pe_ix ix_list (pv 0) pe_int (fun _ _ => rfl)) (pv 1) (nomark _))
        (pss_cons (ps_set (i := 2) scDrw.nd rfl (.inl rfl) (pe_ix ix_list (pv 0) pe_int (fun _ _ => rfl)))
        (pss_cons (ps_set (i := 3) scDrw.nd rfl (.inl rfl) (pe_op op_mul (pv 2) pe_int))
        (Evl.pss_cut (ps_if (pt_cmpR op_gt (pe_callB call_len_seq (by rfl) ml PySem.boot_len (pa_cons (pe_ix ix_list (pv 0) pe_int (fun _ _ => rfl)) pa_nil)) pe_int (nomark _))
            (pss_one (ps_set (i := 3) scDrw.nd rfl (.inl rfl) (pe_ix ix_list (pe_ix ix_list (pv 0) pe_int (fun _ _ => rfl)) (pe_op op_mod (pv 2) (pe_callB call_len_seq (by rfl) ml PySem.boot_len (pa_cons (pe_ix ix_list (pv 0) pe_int (fun _ _ => rfl)) pa_nil))) (fun _ _ => rfl)))) pss_nil)
        (pss_cons (ps_asg (pe_op op_add (pv 2) pe_int) (pg_sub (pv 0) pe_int set_list))
        (Evl.pss_cut (ps_asg (pv 3) (pg_sub (pv 0) pe_int set_list))
        (pss_one (ps_if (PW.pt (pw_or (pt_cmpR op_lt (pv 3) (pe_op op_pow pe_int pe_int) (nomark _)) (pw_or1 (pt_cmpR op_ge (pv 2) (pe_callB call_len_seq (by rfl) ml PySem.boot_len (pa_cons (pe_ix ix_list (pv 0) pe_int (fun _ _ => rfl)) pa_nil)) (nomark _)))))
          (pss_one (ps_asg (pe_call GM hr1 (by rfl) gM FM.kp bM .nil pass0 (pa_cons (pv 3) (pa_cons (pv 2) pa_nil))) (pg_sub (pv 0) pe_int set_list))) pss_nil)))))))
        pss_nil)
      (pss_cons (ps_set (i := 4) scDrw.nd rfl (.inl rfl) (pe_op op_mod (pe_ix ix_list (pv 0) pe_int (fun _ _ => rfl)) (pv 1)))
      (pss_cons (ps_asg (pe_op op_fdiv (pe_ix ix_list (pv 0) pe_int (fun _ _ => rfl)) (pv 1)) (pg_sub (pv 0) pe_int set_list))
      (pss_one (ps_ret (pv 4))))), ?_⟩
    obtain ⟨ns, n, r, h1, h2, h3, h4⟩ := hF
    have hcf : c ≠ f := feed_ne (a := .non) h1 h2
    have hS : SqL K H f [.ref c, .int n, .int r] := .of h1
    have hC : SqL K H c (ns.map V.int) := .of h2
    refine Evl.q_cut (M := fun σ' H' => ∃ (y2 y3 : Option V) (n' : Nat) (r' : Int), σ' = [some (.ref f), some (.int m), y2, y3, none] ∧ H' f = some (.lst [.ref c, .int n', .int r']) ∧ n' ≤ B + 1 ∧ But f H H') ?_ ?_
    · refine ⟨.ref f, rfl, f, _, 2, _, rfl, rfl, hS, rfl, .int m, rfl, _, _, rfl, rfl, _, rfl, ite2 (fun e => ?_) (fun e => ?_)⟩
      · refine ⟨.ref f, rfl, f, _, 1, _, rfl, rfl, hS, rfl, ?_⟩
        refine ⟨_, rfl, _, _, rfl, rfl, .inr ⟨by decide, by decide⟩, ?_⟩
        refine Evl.q_cut (M := fun σ' H' => ∃ (z : Int), σ' = [some (.ref f), some (.int m), some (.int n), some (.int z), none] ∧ H' = H) ?_ ?_
        · refine ⟨.ref f, rfl, f, _, 0, _, rfl, rfl, hS, rfl, c, _, rfl, .inl hC, _, _, rfl, rfl, _, rfl, ite2 (fun e => ?_) (fun e => ?_)⟩
          · have l0 : 0 < ns.length := by
              have z : (0 : Int) < ((ns.map V.int).length : Int) := of_decide_eq_true e
              rw [List.length_map] at z
              omega
            have l1 : n % ns.length < ns.length := Nat.mod_lt _ l0
            refine ⟨.ref f, rfl, f, _, 0, _, rfl, rfl, hS, rfl, _, rfl, .ref f, rfl, f, _, 0, _, rfl, rfl, hS, rfl, c, _, rfl, .inl hC, _, _, rfl, rfl, ?_, c, _, _, .int (ns[n % ns.length]), rfl, rfl, hC, ?_, ?_⟩
            · show (0 : Int) < ((ns.map V.int).length : Int)
              rw [List.length_map]
              omega
            · refine at_of (j := n % ns.length) ?_ ?_
              · rw [List.length_map]
                exact (Int.natCast_emod n ns.length).symm
              · rw [List.getElem?_map, List.getElem?_eq_getElem l1]
                rfl
            · exact ⟨_, rfl, rfl⟩
          · exact ⟨_, rfl, rfl⟩
        · rintro σ' H' ⟨z, rfl, rfl⟩
          refine ⟨_, rfl, _, _, rfl, rfl, _, rfl, f, _, 1, 1, rfl, rfl, h1, rfl, ?_⟩
          refine Evl.q_cut (M := fun σ' H2 => σ' = [some (.ref f), some (.int m), some (.int n), some (.int z), none] ∧ But f H' H2 ∧ H2 f = some (.lst [.ref c, .int ((n + 1 : Nat) : Int), .int z])) ?_ ?_
          · refine ⟨_, rfl, _, rfl, f, _, 2, 2, rfl, rfl, upd_same, rfl, rfl, fun b nb => ?_, upd_same⟩
            rw [upd_ne nb, upd_ne nb]
          rintro σ' H2 ⟨rfl, b2, f2⟩
          have hS2 : SqL K H2 f [.ref c, .int ((n + 1 : Nat) : Int), .int z] := .of f2
          have hC2 : SqL K H2 c (ns.map V.int) := .of ((b2 c hcf).trans h2)
          have mix : ∀ D : Ends, D.nx = (fun σ' H'' => ∃ (y2 y3 : Option V) (n' : Nat) (r' : Int), σ' = [some (.ref f), some (.int m), y2, y3, none] ∧ H'' f = some (.lst [.ref c, .int n', .int r']) ∧ n' ≤ B + 1 ∧ But f H' H'') →
              tAsg (tCall spMix [] E0 (tCons (tVar 3) (tCons (tVar 2) tNil))) (gSub (tVar 0) (tC (.int 2)) rSetL) D [some (.ref f), some (.int m), some (.int n), some (.int z), none] H2 := by
            intro D hD
            refine ⟨_, rfl, _, rfl, z, n, rfl, by omega, fun r2 => ?_⟩
            refine ⟨_, rfl, f, _, 2, 2, rfl, rfl, f2, rfl, ?_⟩
            rw [hD]
            exact ⟨_, _, n + 1, r2, rfl, upd_same, by omega, fun b nb => by rw [upd_ne nb]; exact b2 b nb⟩
          refine ⟨_, rfl, _, _, rfl, rfl, ⟨by decide, by decide, by decide⟩, _, _, rfl, rfl, _, rfl, ite2 (fun e => ?_) (fun e => ?_)⟩
          · exact iteT (mix _ rfl)
          · refine ⟨_, rfl, .ref f, rfl, f, _, 0, _, rfl, rfl, hS2, rfl, c, _, rfl, .inl hC2, _, _, rfl, rfl, _, rfl, ite2 (fun e => ?_) (fun e => ?_)⟩
            · exact mix _ rfl
            · exact ⟨_, _, n + 1, z, rfl, f2, by omega, b2⟩
      · exact ⟨none, none, n, r, rfl, h1, by omega, But.refl f H⟩
    · rintro σ' H' ⟨y2, y3, n', r', rfl, f1, ln, b1⟩
      have hS1 : SqL K H' f [.ref c, .int n', .int r'] := .of f1
      refine ⟨.ref f, rfl, f, _, 2, _, rfl, rfl, hS1, rfl, .int m, rfl, _, _, rfl, rfl, m0, ?_⟩
      refine ⟨.ref f, rfl, f, _, 2, _, rfl, rfl, hS1, rfl, .int m, rfl, _, _, rfl, rfl, ⟨m0, by omega⟩, .ref f, rfl, f, _, 2, 2, rfl, rfl, f1, rfl, ?_⟩
      refine ⟨_, rfl, q (r' % m) _ (Int.emod_nonneg _ (by omega)) (Int.emod_lt_of_pos _ m0) ⟨ns, n', r' / m, upd_same, ?_, h3, ln⟩ fun b nb => ?_⟩
      · rw [upd_ne hcf, b1 c hcf]
        exact h2
      · rw [upd_ne nb]
        exact b1 b nb
/-- sopen(script) -/
def spOpn (K : PySem.W.Frag) : Sp := fun vs H Q _ => ∃ (a : Addr) (ns : List Int), vs = [.ref a] ∧ SqL K H a (ns.map V.int) ∧ ∀ (f c : Addr) (H' : Hp), H f = none → H c = none → Same H H' → Feed H' f c 0 → Q (.ref f) H'
theorem cut60 (ns : List Int) : cutV (ns.map V.int) none (some 60) = (ns.take 60).map V.int := by
  unfold cutV
  rw [HT.sIx_none, show HT.sIx (ns.map V.int).length (ns.map V.int).length (some 60) = min 60 (ns.map V.int).length from HT.sIx_nat _ _ 60]
  rw [List.drop_zero, Nat.sub_zero, List.map_take, List.length_map]
  by_cases h : ns.length ≤ 60
  · rw [Nat.min_eq_right h, List.take_of_length_le (by rw [List.length_map]; exact Nat.le_refl _), List.take_of_length_le (by rw [List.length_map]; exact h)]
  · rw [Nat.min_eq_left (by omega)]
theorem same_upd {H : Hp} {p : Addr} {o : HO} (h : H p = none) : Same H (upd H p o) := fun b x e => by
  rw [upd_ne (ne_of_none e h)]
  exact e
theorem ok_opn {f : Addr} {fd : FuncData} {k : Nat} (F : Fun K "_law_sopen" "_law_sopen" sOpn f fd) (ml : mg "list" = none) : FnOk P w K mg base CX0 (k + 1) f fd ["script"] (spOpn K) := by
  refine F.ok scOpn (fun vs H Q E h => ?_) (fun cdv A outer s H vs Q E hr h => ?_)
  · obtain ⟨a, ns, rfl, _⟩ := h
    rfl
  · obtain ⟨a, ns, rfl, hS, q⟩ := h
    refine ⟨_, pss_one (ps_ret (pe_lst (pa_cons (pe_callTy call_list_of (by rfl) ml (by decide +kernel) (pa_cons (pe_slice sl_list (pv 0) po_none (po_some pe_int)) pa_nil)) (pa_cons pe_int (pa_cons pe_int pa_nil))))), ?_⟩
    refine ⟨.ref a, rfl, 60, rfl, a, _, rfl, hS, fun c nc => ?_⟩
    refine ⟨c, _, rfl, .inl (.of upd_same), fun d nd => ?_⟩
    refine ⟨by show 3 ≤ sizeLine; decide, fun p np => ?_⟩
    have s1 : Same H (upd H c (.lst (cutV (ns.map V.int) none (some 60)))) := same_upd nc
    have s2 := s1.trans (same_upd (o := .lst (cutV (ns.map V.int) none (some 60))) nd)
    have s3 := s2.trans (same_upd (o := .lst [.ref d, .int 0, .int 0]) np)
    refine q p d _ (s2.free np) (s1.free nd) s3 ⟨ns.take 60, 0, 0, upd_same, ?_, ?_, Nat.le_refl _⟩
    · have ndp : d ≠ p := ne_of_none (upd_same (H := upd H c (.lst (cutV (ns.map V.int) none (some 60)))) (a := d) (o := .lst (cutV (ns.map V.int) none (some 60)))) np
      rw [upd_ne ndp, upd_same, cut60]
    · rw [List.length_take]
      omega
end
end Dr
namespace Kp
open PySem PySem.Spec PyProof.Rows L2 GxR Nw Dr
/-! ### what a call leaves as it was: all but the feed (F) and the tables of code objects -/
structure Ke (F : Addr → Prop) (H H' : Hp) : Prop where
  keep : ∀ b o, H b = some o → (∀ ps, o ≠ .tbl ps) → ¬ F b → H' b = some o
  tabs : ∀ P, TabG H P → TabG H' P
  tups : ∀ b xs, H b = some (.tup xs) → H' b = some (.tup xs)
abbrev Nof : Addr → Prop := fun _ => False
variable {F G : Addr → Prop} {H H1 H2 H' : Hp} {f c P : Addr} {B : Nat}
theorem Ke.refl (F : Addr → Prop) (H : Hp) : Ke F H H := ⟨fun _ _ h _ _ => h, fun _ h => h, fun _ _ h => h⟩
theorem Ke.trans (a : Ke F H H1) (b : Ke F H1 H2) : Ke F H H2 := ⟨fun x o h n m => b.keep x o (a.keep x o h n m) n m, fun Q h => b.tabs Q (a.tabs Q h), fun x xs h => b.tups x xs (a.tups x xs h)⟩
theorem Ke.mono (a : Ke F H H1) (h : ∀ b, F b → G b) : Ke G H H1 := ⟨fun x o e n m => a.keep x o e n fun z => m (h x z), a.tabs, a.tups⟩
theorem Ke.all (a : Ke Nof H H1) : Ke F H H1 := a.mono fun _ z => z.elim
theorem Ke.same (s : Same H H1) : Ke F H H1 := ⟨fun b o e _ _ => s b o e, fun Q ⟨ps, h, t⟩ => ⟨ps, s _ _ h, t⟩, fun b xs e => s _ _ e⟩
theorem Ke.lst {a : Addr} {xs : List V} (k : Ke F H H1) (h : H a = some (.lst xs)) (n : ¬ F a) : H1 a = some (.lst xs) := k.keep a _ h (fun ps z => by cases z) n
theorem Ke.tabbed (t : TabG H P) (x : Tabbed P H H1) : Ke F H H1 := by
  obtain ⟨ps, hP, _⟩ := t
  have nP : ∀ b o, H b = some o → (∀ qs, o ≠ .tbl qs) → b ≠ P := fun b o e n z => by
    rw [z, hP] at e
    exact n ps (Option.some.inj e).symm
  refine ⟨fun b o e n _ => (x.2 b (nP b o e n)).trans e, fun Q hQ => ?_, fun b xs e => (x.2 b (nP b _ e fun qs z => by cases z)).trans e⟩
  by_cases hq : Q = P
  · rw [hq]
    exact x.1
  · obtain ⟨qs, h1, h2⟩ := hQ
    exact ⟨qs, (x.2 Q hq).trans h1, h2⟩
theorem Ke.but (h : Feed H f c B) (b : But f H H1) : Ke (· = f) H H1 := by
  obtain ⟨ns, n, r, h1, _⟩ := h
  refine ⟨fun x o e _ m => (b x m).trans e, fun Q ⟨qs, e, t⟩ => ⟨qs, (b Q fun z => ?_).trans e, t⟩, fun x xs e => (b x fun z => ?_).trans e⟩
  · rw [z, h1] at e
    cases e
  · rw [z, h1] at e
    cases e
/-- a write to an object of ours that was new behind H -/
theorem Ke.upd {p : Addr} {o : HO} (k : Ke F H H1) (n : H p = none) : Ke F H (upd H1 p o) := by
  refine ⟨fun b x e t m => ?_, fun Q hQ => ?_, fun b xs e => ?_⟩
  · rw [upd_ne (ne_of_none e n)]
    exact k.keep b x e t m
  · obtain ⟨ps, e, t⟩ := hQ
    obtain ⟨qs, e2, t2⟩ := k.tabs Q ⟨ps, e, t⟩
    exact ⟨qs, by rw [upd_ne (ne_of_none e n)]; exact e2, t2⟩
  · rw [upd_ne (ne_of_none e n)]
    exact k.tups b xs e
theorem Ke.feed (k : Ke Nof H H1) (h : Feed H f c B) : Feed H1 f c B := by
  obtain ⟨ns, n, r, h1, h2, h3, h4⟩ := h
  exact ⟨ns, n, r, k.lst h1 (fun z => z), k.lst h2 (fun z => z), h3, h4⟩
/-- p holds nothing that H knows (but a table, perhaps) -/
def Frs (H : Hp) (p : Addr) : Prop := ∀ b o, H b = some o → (∀ ps, o ≠ .tbl ps) → b ≠ p
theorem Frs.of {p : Addr} (h : H p = none) : Frs H p := fun b o e _ => ne_of_none e h
theorem Frs.ke {p : Addr} (k : Ke (· = f) H H1) (hF : Feed H1 f c B) (h : Frs H1 p) : Frs H p := fun b o e n => by
  by_cases hb : b = f
  · obtain ⟨_, _, _, h1, _⟩ := hF
    rw [hb]
    exact h f _ h1 fun ps z => by cases z
  · exact h b o (k.keep b o e n hb) n
theorem Frs.ke0 {p : Addr} (k : Ke Nof H H1) (h : Frs H1 p) : Frs H p := fun b o e n => h b o (k.keep b o e n fun z => z) n
theorem Ke.write {p : Addr} {xs : List V} {o : HO} (k : Ke F H H1) (fr : Frs H p) (h1 : H1 p = some (.lst xs)) : Ke F H (L2.upd H1 p o) := by
  refine ⟨fun b x e t m => ?_, fun Q hQ => ?_, fun b ys e => ?_⟩
  · rw [upd_ne (fr b x e t)]
    exact k.keep b x e t m
  · obtain ⟨qs, e2, t2⟩ := k.tabs Q hQ
    have n : Q ≠ p := fun z => by
      rw [z, h1] at e2
      cases e2
    exact ⟨qs, by rw [upd_ne n]; exact e2, t2⟩
  · rw [upd_ne (fr b _ e fun ps z => by cases z)]
    exact k.tups b ys e
/-- whole numbers in a tuple, truths in a tuple -/
def TupI (H : Hp) (v : V) (ns : List Int) : Prop := ∃ a, v = .ref a ∧ H a = some (.tup (ns.map V.int))
def TupB (H : Hp) (v : V) (bs : List Bool) : Prop := ∃ a, v = .ref a ∧ H a = some (.tup (bs.map V.bl))
def LstI (H : Hp) (v : V) (ns : List Int) : Prop := ∃ a, v = .ref a ∧ H a = some (.lst (ns.map V.int))
/-- a tuple of claims -/
def Bk (H : Hp) (v : V) (css : List (List Int)) : Prop := ∃ a vs, v = .ref a ∧ H a = some (.tup vs) ∧ vs.length = css.length ∧ ∀ (i : Nat) (x : V) (cs : List Int), vs[i]? = some x → css[i]? = some cs → TupI H x cs
theorem TupI.ke {v : V} {ns : List Int} (h : TupI H v ns) (k : Ke F H H1) : TupI H1 v ns := by
  obtain ⟨a, e, h⟩ := h
  exact ⟨a, e, k.tups _ _ h⟩
theorem TupB.ke {v : V} {ns : List Bool} (h : TupB H v ns) (k : Ke F H H1) : TupB H1 v ns := by
  obtain ⟨a, e, h⟩ := h
  exact ⟨a, e, k.tups _ _ h⟩
theorem Bk.ke {v : V} {css : List (List Int)} (h : Bk H v css) (k : Ke F H H1) : Bk H1 v css := by
  obtain ⟨a, vs, e, h, l, t⟩ := h
  exact ⟨a, vs, e, k.tups _ _ h, l, fun i x cs h1 h2 => (t i x cs h1 h2).ke k⟩
/-! ### claims -/
def rising : List Int → Bool
  | a :: b :: r => decide (a < b) && rising (b :: r)
  | _ => true
structure IsCl (cs : List Int) : Prop where
  up : cs.Pairwise (· < ·)
  says : ∀ k ∈ cs, k ≠ 0 ∧ -8 ≤ k ∧ k ≤ 8
  opp : ∀ k ∈ cs, -k ∉ cs
  len : cs.length ≤ 8
theorem IsCl.nil : IsCl [] := { up := .nil, says := fun _ h => (nomatch h), opp := fun _ h => (nomatch h), len := by decide }
end Kp
namespace Se
open PySem PySem.Spec PyProof.Rows L2 GxR Nw Dr Kp
/-- a def of the text whose code object stands at c -/
structure FunC (K : PySem.W.Frag) (x qual : Str) (st : Stmt) (f c : Addr) (fd : FuncData) : Prop where
  ex : ∃ (oc : Value) (od : Option Addr) (kV doc pm : Value) (an : Option Addr) (ct : Value) (osl : Array (Option Value)), fd = PySem.W.fnOf x qual (defArgs st) (defBody st) (defScope st) .none kV doc pm an (.ref c) ct ∧ K.lookup f = some ⟨oc, od, .func fd, osl⟩ ∧ PySem.W.codeIn K (.ref c) qual = true
  kp : PySem.W.keepIn K (.ref f) = true
section
variable {P : Program} {w : World} {K : PySem.W.Frag} {mg : Str → Option Value} {base : Heap}
theorem FunC.fn {x qual : Str} {st : Stmt} {f c : Addr} {fd : FuncData} (F : FunC K x qual st f c fd) : Fun K x qual st f fd := by
  obtain ⟨oc, od, kV, doc, pm, an, ct, osl, e, l, cd⟩ := F.ex
  exact ⟨⟨oc, od, kV, doc, pm, an, .ref c, ct, osl, e, l, cd⟩, F.kp⟩
theorem FunC.ok {x qual : Str} {st : Stmt} {f c : Addr} {fd : FuncData} {N ps : List Str} {k : Nat} {sp : Sp} (F : FunC K x qual st f c fd) (S : FnScope N ps (defScope st)) (len : ∀ vs H Q E, sp vs H Q E → vs.length = ps.length)
    (body : ∀ (A : Around) (outer : List Env) (s : Shared) (H : Hp) (vs : List V) (Q : VK) (E : XK), Room k (A.deeper (envOfC qual (defScope st) s.heap.objs.size f (.ref c))) → sp vs H Q E →
      ∃ t, PSs (cxOf CX0 P w K mg base N qual (defScope st) f (.ref c) A outer s H E).nox (defBody st) t ∧ t { nx := fun _ H' => Q .non H', rt := Q } (start N vs) H) : FnOk P w K mg base CX0 (k + 1) f fd ps sp := by
  obtain ⟨oc, od, kV, doc, pm, an, ct, osl, rfl, lk, hcd⟩ := F.ex
  refine fn_of lk hcd S len fun A outer s H vs Q E hr hsp => ?_
  obtain ⟨t, h, q⟩ := body A outer s H vs Q E hr hsp
  exact ⟨t, h.nox, q⟩
end
end Se
namespace Cl
open PySem PySem.Spec PyProof.Rows L2 GxR Nw Dr Kp
abbrev sThg : Stmt := topS 14
abbrev sClm : Stmt := topS 15
theorem scThg : FnScope ["feed", "least", "most", "left", "many", "some", "turn"] ["feed", "least", "most"] (defScope sThg) := ⟨rfl, rfl, rfl, by decide +kernel, rfl, by decide +kernel, by decide +kernel⟩
theorem scClm : FnScope ["feed", "things", "most", "left", "says", "turn", "thing"] ["feed", "things", "most"] (defScope sClm) := ⟨rfl, rfl, rfl, by decide +kernel, rfl, by decide +kernel, by decide +kernel⟩
/-- the built-ins that stand as they stood -/
structure Zs (mg : Str → Option Value) : Prop where
  z_len : mg "len" = none
  z_list : mg "list" = none
  z_range : mg "range" = none
  z_min : mg "min" = none
  z_tuple : mg "tuple" = none
  z_sorted : mg "sorted" = none
/-- things: numbers from 1 to 8, none twice -/
structure Thg (ks : List Int) : Prop where
  nd : ks.Nodup
  one : ∀ k ∈ ks, 1 ≤ k ∧ k ≤ 8
  len : ks.length ≤ 8
theorem perm_pop : ∀ {l : List Int} {d : Nat} {y : Int}, l[d]? = some y → (y :: l.eraseIdx d).Perm l
  | [], _, _, h => by simp at h
  | a :: r, 0, y, h => by
    have e : a = y := Option.some.inj h
    subst e
    exact .refl _
  | a :: r, d + 1, y, h => by
    have ih := perm_pop (l := r) (d := d) (y := y) h
    exact (List.Perm.swap a y _).trans (.cons a ih)
theorem erase_len {l : List Int} {d : Nat} (h : d < l.length) : (l.eraseIdx d).length = l.length - 1 := List.length_eraseIdx_of_lt h
theorem erase_map : ∀ (l : List Int) (d : Nat), (l.map V.int).eraseIdx d = (l.eraseIdx d).map V.int
  | [], _ => rfl
  | _ :: _, 0 => rfl
  | a :: r, d + 1 => congrArg (V.int a :: ·) (erase_map r d)
theorem ix_seq {d : Int} {n : Nat} (h0 : 0 ≤ d) (h1 : d < (n : Int)) : seqIndex? d n = some d.toNat := by
  have e : ixN n d = some d.toNat := by
    unfold ixN
    rw [if_pos h0, if_pos h1]
  exact (ixN_seq e).1
section
variable {P : Program} {w : World} {K : PySem.W.Frag} {mg : Str → Option Value} {base : Heap} {fD fM : Addr} {fdD fdM : FuncData}
def spThg : Sp := fun vs H Q _ => ∃ (f c : Addr) (l m : Int) (B : Nat), vs = [.ref f, .int l, .int m] ∧ 1 ≤ l ∧ l ≤ m ∧ m ≤ 8 ∧ Feed H f c B ∧ B ≤ 2 ^ 58 ∧
  ∀ (ks : List Int) (p : Addr) (H' : Hp), Feed H' f c (B + 10) → Ke (· = f) H H' → Frs H p → H' p = some (.lst (ks.map V.int)) → Thg ks → l ≤ ks.length → (ks.length : Int) ≤ m → Q (.ref p) H'
theorem ok_thg {f : Addr} {fd : FuncData} {k : Nat} (F : Fun K "_law_sthings" "_law_sthings" sThg f fd) (T : Zs mg) (FD : Fun K "_law_sdraw" "_law_sdraw" sDrw fD fdD) (bD : Binds K fdD ["feed", "many"] []) (gD : mg "_law_sdraw" = some (.ref fD)) (GD : FnOk P w K mg base CX0 2 fD fdD ["feed", "many"] spDrw) :
    FnOk P w K mg base CX0 (k + 3) f fd ["feed", "least", "most"] spThg := by
  refine F.ok scThg (fun vs H Q E h => ?_) (fun cdv A outer s H vs Q E hr h => ?_)
  · obtain ⟨f, c, l, m, B, rfl, _⟩ := h
    rfl
  · obtain ⟨f, c, l, m, B, rfl, l0, lm, m8, hF, hB, q⟩ := h
    have hr2 : Room 2 _ := hr.mono (by omega)
    refine ⟨_, (pss_cons (ps_set (i := 3) scThg.nd rfl (.inl rfl) (pe_lstN (pa_cons pe_int (pa_cons pe_int (pa_cons pe_int (pa_cons pe_int (pa_cons pe_int (pa_cons pe_int (pa_cons pe_int (pa_cons pe_int pa_nil))))))))))
      (Evl.pss_cut (ps_set (i := 4) scThg.nd rfl (.inl rfl) (pe_op op_add (pv 1) (pe_call GD hr2 (by rfl) gD FD.kp bD .nil pass0 (pa_cons (pv 0) (pa_cons (pe_op op_sub (pe_op op_add (pv 2) pe_int) (pv 1)) pa_nil)))))
      (pss_cons (ps_set (i := 5) scThg.nd rfl (.inl rfl) (pe_lstN pa_nil))
      (pss_cons (ps_for PassesOwn.never rfl (pi_range1 (by rfl) T.z_range (pa_cons (pv 4) pa_nil)) (pg_name (i := 6) scThg.nd rfl (.inl rfl)) (pss_one (ps_expr (pe_bm PySem.F.plainAttrs_list PySem.F.slot_list_append PySem.F.type_list_append mt_append (pv 5) (pa_cons (pe_bm PySem.F.plainAttrs_list PySem.F.slot_list_pop PySem.F.type_list_pop mt_popAt (pv 3) (pa_cons (pe_call GD hr2 (by rfl) gD FD.kp bD .nil pass0 (pa_cons (pv 0) (pa_cons (pe_callB call_len_seq (by rfl) T.z_len (by decide +kernel) (pa_cons (pv 3) pa_nil)) pa_nil))) pa_nil)) pa_nil)))))
      (pss_one (ps_ret (pv 5))))))), ?_⟩
    refine ⟨by show 8 ≤ sizeLine; decide, fun L H1 nL s1 hL _ => ?_⟩
    have nLf : L ≠ f := hF.nf nL
    have nLc : L ≠ c := hF.nc nL
    refine Evl.q_cut (M := fun σ' H' => ∃ n : Nat, σ' = [some (.ref f), some (.int l), some (.int m), some (.ref L), some (.int n), none, none] ∧ l ≤ n ∧ (n : Int) ≤ m ∧ Feed H' f c (B + 1) ∧ Ke (· = f) H H' ∧ H' L = some (.lst (([1, 2, 3, 4, 5, 6, 7, 8] : List Int).map V.int))) ?_ ?_
    · have F1 : Feed H1 f c B := hF.same s1
      refine ⟨_, rfl, _, rfl, _, rfl, _, _, rfl, rfl, _, rfl, _, _, rfl, rfl, f, c, _, B, rfl, by omega, by omega, F1, by omega, fun d H2 d0 d1 F2 b2 => ?_⟩
      refine ⟨_, _, rfl, rfl, (l + d).toNat, ?_, by omega, by omega, F2, (Ke.same s1).trans (.but F1 b2), (b2 L nLf).trans hL⟩
      rw [Int.toNat_of_nonneg (by omega)]
      rfl
    rintro σ' H2 ⟨n, rfl, ln, nm, F2, k2, hL2⟩
    refine ⟨Nat.zero_le _, fun S H3 nS s3 hS _ => ?_⟩
    have nSL : S ≠ L := Ne.symm (ne_of_none hL2 nS)
    have nSf : S ≠ f := F2.nf nS
    have nSc : S ≠ c := F2.nc nS
    have frS : Frs H S := .ke k2 F2 (.of nS)
    have frL : Frs H L := .of nL
    refine ⟨_, rfl, n, rfl, by omega, by omega, for_range (Pv := fun i σ H' => ∃ (y6 : Option V) (left ks : List Int), σ = [some (.ref f), some (.int l), some (.int m), some (.ref L), some (.int n), some (.ref S), y6] ∧ Feed H' f c (B + 1 + i) ∧ Ke (· = f) H H' ∧ H' L = some (.lst (left.map V.int)) ∧ H' S = some (.lst (ks.map V.int)) ∧
      left.length = 8 - i ∧ ks.length = i ∧ (ks ++ left).Perm [1, 2, 3, 4, 5, 6, 7, 8]) ?_ ?_ ?_⟩
    · exact ⟨none, _, [], rfl, F2.same s3, k2.trans (.same s3), s3 _ _ hL2, hS, rfl, rfl, .refl _⟩
    · rintro i σ H' hi ⟨y6, left, ks, rfl, F4, k4, hL4, hS4, ll, lk, pm⟩
      have hi : i < n := by simpa using hi
      refine ⟨_, rfl, .inl ⟨rfl, _, .of hS4⟩, _, rfl, .inl ⟨rfl, _, .of hL4⟩, _, rfl, _, rfl, L, _, rfl, .inl (.of hL4), f, c, _, B + 1 + i, rfl, ?_, ?_, F4, by omega, fun d H5 d0 d1 F5 b5 => ?_⟩
      · rw [List.length_map]
        omega
      · rw [List.length_map]
        omega
      rw [List.length_map] at d1
      have dl : d.toNat < left.length := by omega
      have hL5 : H5 L = some (.lst (left.map V.int)) := (b5 L nLf).trans hL4
      have hS5 : H5 S = some (.lst (ks.map V.int)) := (b5 S nSf).trans hS4
      have k5 : Ke (· = f) H H5 := k4.trans (.but F4 b5)
      refine ⟨L, _, d, d.toNat, .int left[d.toNat], rfl, rfl, hL5, by omega, by omega, by rw [List.length_map]; exact ix_seq d0 d1, by rw [List.getElem?_map, List.getElem?_eq_getElem dl]; rfl, ?_⟩
      refine ⟨S, _, _, rfl, rfl, by rw [upd_ne nSL]; exact hS5, by rw [List.length_map]; exact small1000 (by omega), ?_⟩
      refine ⟨_, left.eraseIdx d.toNat, ks ++ [left[d.toNat]], rfl, ((F5.upd nLf nLc).upd nSf nSc).mono (by omega), (k5.write frL hL5).write frS (by rw [upd_ne nSL]; exact hS5), ?_, ?_, ?_, ?_, ?_⟩
      · rw [upd_ne (Ne.symm nSL), upd_same, erase_map]
      · rw [upd_same, List.map_append]
        rfl
      · rw [erase_len dl]
        omega
      · rw [List.length_append, lk]
        rfl
      · refine List.Perm.trans ?_ pm
        rw [List.append_assoc]
        exact (List.Perm.refl ks).append (perm_pop (List.getElem?_eq_getElem dl))
    · rintro σ H' ⟨y6, left, ks, rfl, F4, k4, hL4, hS4, ll, lk, pm⟩
      have lk' : ks.length = n := by simpa using lk
      have nd : (ks ++ left).Nodup := pm.nodup_iff.mpr (by decide)
      refine ⟨_, rfl, q ks S H' (F4.mono (by omega)) k4 frS hS4 ⟨(List.nodup_append.mp nd).1, fun k hk => ?_, by omega⟩ (by omega) (by omega)⟩
      have hm : k ∈ ([1, 2, 3, 4, 5, 6, 7, 8] : List Int) := pm.mem_iff.mp (List.mem_append_left _ hk)
      simp only [List.mem_cons, List.not_mem_nil, or_false] at hm
      omega
/-- sclaim(feed, things, most) -/
def spClm : Sp := fun vs H Q _ => ∃ (f c t : Addr) (m : Int) (B : Nat) (ks : List Int), vs = [.ref f, .ref t, .int m] ∧ 0 ≤ m ∧ m ≤ 8 ∧ H t = some (.lst (ks.map V.int)) ∧ Thg ks ∧ Feed H f c B ∧ B ≤ 2 ^ 58 ∧
  ∀ (cs : List Int) (p : Addr) (H' : Hp), Feed H' f c (B + 20) → Ke (· = f) H H' → Frs H p → H' p = some (.tup (cs.map V.int)) → IsCl cs → (∀ s ∈ cs, (s.natAbs : Int) ∈ ks) → (cs.length : Int) ≤ m → Q (.ref p) H'
theorem abs_nd : ∀ {l : List Int}, (l.map fun s => (s.natAbs : Int)).Nodup → l.Nodup ∧ ∀ k ∈ l, k ≠ 0 → -k ∉ l := fun {l} h => by
  refine ⟨(List.pairwise_map.mp h).imp (fun {a b} z e => z (by rw [e])), fun k hk h0 hn => ?_⟩
  have inj : ∀ a ∈ l, ∀ b ∈ l, (a.natAbs : Int) = b.natAbs → a = b := fun a ha b hb e => by
    obtain ⟨i, hi, ei⟩ := List.getElem_of_mem ha
    obtain ⟨j, hj, ej⟩ := List.getElem_of_mem hb
    have hij : (l.map fun s => (s.natAbs : Int))[i]'(by rw [List.length_map]; exact hi) = (l.map fun s => (s.natAbs : Int))[j]'(by rw [List.length_map]; exact hj) := by
      rw [List.getElem_map, List.getElem_map, ei, ej]
      exact e
    have := (List.getElem_inj h).mp hij
    subst this
    rw [← ei, ← ej]
  have := inj k hk (-k) hn (by omega)
  omega
theorem cl_of {says left ks ns : List Int} (T : Thg ks) (pm : ((says.map fun s => (s.natAbs : Int)) ++ left).Perm ks) (pn : ns.Perm says) (so : ns.Pairwise (· ≤ ·)) : IsCl ns ∧ ∀ s ∈ ns, (s.natAbs : Int) ∈ ks := by
  have nd := (List.nodup_append.mp (pm.nodup_iff.mpr T.nd)).1
  obtain ⟨n1, n2⟩ := abs_nd nd
  have mem : ∀ s ∈ ns, (s.natAbs : Int) ∈ ks := fun s hs => pm.mem_iff.mp (List.mem_append_left _ (List.mem_map.mpr ⟨s, pn.mem_iff.mp hs, rfl⟩))
  have nn : ns.Nodup := pn.nodup_iff.mpr n1
  have bd : ∀ s ∈ ns, s ≠ 0 ∧ -8 ≤ s ∧ s ≤ 8 := fun s hs => by
    have := T.one _ (mem s hs)
    omega
  refine ⟨⟨?_, bd, fun k hk hn => n2 k (pn.mem_iff.mp hk) (bd k hk).1 (pn.mem_iff.mp hn), ?_⟩, mem⟩
  · have := List.Pairwise.and so nn
    exact this.imp fun {a b} h => by
      obtain ⟨h1, h2⟩ := h
      omega
  · have l1 := pn.length_eq
    have l2 := pm.length_eq
    rw [List.length_append, List.length_map] at l2
    have := T.len
    omega
theorem ok_clm {f : Addr} {fd : FuncData} {k : Nat} (F : Fun K "_law_sclaim" "_law_sclaim" sClm f fd) (T : Zs mg) (FD : Fun K "_law_sdraw" "_law_sdraw" sDrw fD fdD) (bD : Binds K fdD ["feed", "many"] []) (gD : mg "_law_sdraw" = some (.ref fD)) (GD : FnOk P w K mg base CX0 2 fD fdD ["feed", "many"] spDrw) :
    FnOk P w K mg base CX0 (k + 3) f fd ["feed", "things", "most"] spClm := by
  refine F.ok scClm (fun vs H Q E h => ?_) (fun cdv A outer s H vs Q E hr h => ?_)
  · obtain ⟨f, c, t, m, B, ks, rfl, _⟩ := h
    rfl
  · obtain ⟨f, c, t, m, B, ks, rfl, m0, m8, ht, Tk, hF, hB, q⟩ := h
    have hr2 : Room 2 _ := hr.mono (by omega)
    refine ⟨_, (Evl.pss_cut (ps_set (i := 3) scClm.nd rfl (.inl rfl) (pe_callTy call_list_ofN (by rfl) T.z_list (by decide +kernel) (pa_cons (pv 1) pa_nil)))
      (pss_cons (ps_set (i := 4) scClm.nd rfl (.inl rfl) (pe_lstN pa_nil))
      (Evl.pss_cut (ps_for PassesOwn.never rfl (pi_range1 (by rfl) T.z_range (pa_cons (pe_callB (call_min2 rfl) (by rfl) T.z_min (by decide +kernel) (pa_cons (pe_callB call_len_seq (by rfl) T.z_len (by decide +kernel) (pa_cons (pv 3) pa_nil)) (pa_cons (pe_call GD hr2 (by rfl) gD FD.kp bD .nil pass0 (pa_cons (pv 0) (pa_cons (pe_op op_add (pv 2) pe_int) pa_nil))) pa_nil))) pa_nil)) (pg_name (i := 5) scClm.nd rfl (.inl rfl)) (pss_cons (ps_set (i := 6) scClm.nd rfl (.inl rfl) (pe_bm PySem.F.plainAttrs_list PySem.F.slot_list_pop PySem.F.type_list_pop mt_popAt (pv 3) (pa_cons (pe_call GD hr2 (by rfl) gD FD.kp bD .nil pass0 (pa_cons (pv 0) (pa_cons (pe_callB call_len_seq (by rfl) T.z_len (by decide +kernel) (pa_cons (pv 3) pa_nil)) pa_nil))) pa_nil)))
      (pss_one (ps_expr (pe_bm PySem.F.plainAttrs_list PySem.F.slot_list_append PySem.F.type_list_append mt_append (pv 4) (pa_cons (pe_ix ix_list (pe_lstN (pa_cons (pv 6) (pa_cons (pe_op op_sub pe_int (pv 6)) pa_nil))) (pe_call GD hr2 (by rfl) gD FD.kp bD .nil pass0 (pa_cons (pv 0) (pa_cons pe_int pa_nil))) (fun _ _ => rfl)) pa_nil))))))
      (pss_one (ps_ret (pe_callTy call_tuple_ofN (by rfl) T.z_tuple (by decide +kernel) (pa_cons (pe_callB cr_sortedN (by rfl) T.z_sorted (by decide +kernel) (pa_cons (pv 4) pa_nil)) pa_nil))))))), ?_⟩
    -- left
    refine Evl.q_cut (M := fun σ' H' => ∃ L, σ' = [some (.ref f), some (.ref t), some (.int m), some (.ref L), none, none, none] ∧ H L = none ∧ Same H H' ∧ H' L = some (.lst (ks.map V.int))) ?_ ?_
    · exact ⟨_, rfl, t, _, rfl, .inl (.of ht), fun L H1 nL s1 hL _ => ⟨L, rfl, nL, s1, hL⟩⟩
    rintro σ' H1 ⟨L, rfl, nL, s1, hL⟩
    refine ⟨Nat.zero_le _, fun S H2 nS s2 hS _ => ?_⟩
    have F2 : Feed H2 f c B := hF.same (s1.trans s2)
    have nLf : L ≠ f := hF.nf nL
    have nLc : L ≠ c := hF.nc nL
    have nSL : S ≠ L := Ne.symm (ne_of_none hL nS)
    have nSf : S ≠ f := (hF.same s1).nf nS
    have nSc : S ≠ c := (hF.same s1).nc nS
    have frL : Frs H L := .of nL
    have frS : Frs H S := .of (s1.free nS)
    have hL2 : H2 L = some (.lst (ks.map V.int)) := s2 _ _ hL
    -- the loop
    refine Evl.q_cut (M := fun σ' H' => ∃ (y5 y6 : Option V) (left says : List Int), σ' = [some (.ref f), some (.ref t), some (.int m), some (.ref L), some (.ref S), y5, y6] ∧ Feed H' f c (B + 20) ∧ Ke (· = f) H H' ∧ H' S = some (.lst (says.map V.int)) ∧ (says.length : Int) ≤ m ∧ ((says.map fun s => (s.natAbs : Int)) ++ left).Perm ks) ?_ ?_
    · refine ⟨_, rfl, L, _, rfl, .inl (.of hL2), _, rfl, _, rfl, _, _, rfl, rfl, f, c, _, B, rfl, by omega, by omega, F2, by omega, fun d H3 d0 d1 F3 b3 => ?_⟩
      refine ⟨_, _, rfl, ?_⟩
      generalize hn : (if d < ((ks.map V.int).length : Int) then d else ((ks.map V.int).length : Int)) = n
      have n0 : 0 ≤ n ∧ n ≤ m ∧ n ≤ ks.length := by
        rw [List.length_map] at hn
        split at hn <;> omega
      have tl := Tk.len
      have hL3 : H3 L = some (.lst (ks.map V.int)) := (b3 L nLf).trans hL2
      have hS3 : H3 S = some (.lst (([] : List Int).map V.int)) := (b3 S nSf).trans hS
      have k3 : Ke (· = f) H H3 := (Ke.same (s1.trans s2)).trans (.but F2 b3)
      refine ⟨n, rfl, by omega, by omega, for_range (Pv := fun i σ H' => ∃ (y5 y6 : Option V) (left says : List Int), σ = [some (.ref f), some (.ref t), some (.int m), some (.ref L), some (.ref S), y5, y6] ∧ Feed H' f c (B + 1 + 2 * i) ∧ Ke (· = f) H H' ∧ H' L = some (.lst (left.map V.int)) ∧ H' S = some (.lst (says.map V.int)) ∧
        left.length = ks.length - i ∧ says.length = i ∧ ((says.map fun s => (s.natAbs : Int)) ++ left).Perm ks) ?_ ?_ ?_⟩
      · exact ⟨none, none, ks, [], rfl, F3, k3, hL3, hS3, rfl, rfl, .refl _⟩
      · rintro i σ H' hi ⟨y5, y6, left, says, rfl, F4, k4, hL4, hS4, ll, ls, pm⟩
        have hi : i < n.toNat := hi
        refine ⟨_, rfl, .inl ⟨rfl, _, .of hL4⟩, _, rfl, _, rfl, L, _, rfl, .inl (.of hL4), f, c, _, B + 1 + 2 * i, rfl, ?_, ?_, F4, by omega, fun d H5 d0 d1 F5 b5 => ?_⟩
        · rw [List.length_map]
          omega
        · rw [List.length_map]
          omega
        rw [List.length_map] at d1
        have dl : d.toNat < left.length := by omega
        have hL5 : H5 L = some (.lst (left.map V.int)) := (b5 L nLf).trans hL4
        have hS5 : H5 S = some (.lst (says.map V.int)) := (b5 S nSf).trans hS4
        have k5 : Ke (· = f) H H5 := k4.trans (.but F4 b5)
        refine ⟨L, _, d, d.toNat, .int left[d.toNat], rfl, rfl, hL5, by omega, by omega, by rw [List.length_map]; exact ix_seq d0 d1, by rw [List.getElem?_map, List.getElem?_eq_getElem dl]; rfl, ?_⟩
        have pp := perm_pop (List.getElem?_eq_getElem dl)
        have y1 := Tk.one left[d.toNat] (pm.mem_iff.mp (List.mem_append_right _ (List.getElem_mem dl)))
        generalize left[d.toNat] = y at pp y1
        have F6 : Feed (upd H5 L (.lst ((left.map V.int).eraseIdx d.toNat))) f c (B + 1 + 2 * i + 1) := F5.upd nLf nLc
        have k6 : Ke (· = f) H (upd H5 L (.lst ((left.map V.int).eraseIdx d.toNat))) := k5.write frL hL5
        have hL6 : (upd H5 L (.lst ((left.map V.int).eraseIdx d.toNat))) L = some (.lst ((left.eraseIdx d.toNat).map V.int)) := by rw [upd_same, erase_map]
        have hS6 : (upd H5 L (.lst ((left.map V.int).eraseIdx d.toNat))) S = some (.lst (says.map V.int)) := by rw [upd_ne nSL]; exact hS5
        generalize (upd H5 L (.lst ((left.map V.int).eraseIdx d.toNat))) = H6 at F6 k6 hL6 hS6 ⊢
        -- says.append([thing, 0 - thing][..])
        refine ⟨_, rfl, .inl ⟨rfl, _, .of hS6⟩, _, rfl, _, rfl, _, _, rfl, rfl, by show 2 ≤ sizeLine; decide, fun p H7 np s7 hp _ => ?_⟩
        refine ⟨_, rfl, f, c, 2, B + 1 + 2 * i + 1, rfl, by decide, by decide, F6.same s7, by omega, fun e H8 e0 e1 F8 b8 => ?_⟩
        have npf : p ≠ f := F6.nf np
        have hp8 := (b8 p npf).trans hp
        have hS8 : H8 S = some (.lst (says.map V.int)) := (b8 S nSf).trans (s7 _ _ hS6)
        have hL8 : H8 L = some (.lst ((left.eraseIdx d.toNat).map V.int)) := (b8 L nLf).trans (s7 _ _ hL6)
        have k8 : Ke (· = f) H H8 := (k6.trans (.same s7)).trans (.but (F6.same s7) b8)
        have two : e = 0 ∨ e = 1 := by omega
        have go : ∀ z : Int, (z.natAbs : Int) = y → ((says ++ [z]).map (fun s => (s.natAbs : Int)) ++ left.eraseIdx d.toNat).Perm ks := fun z hz => by
          refine List.Perm.trans ?_ pm
          rw [List.map_append, List.append_assoc, List.map_singleton, hz]
          exact (List.Perm.refl _).append pp
        rcases two with rfl | rfl
        · refine ⟨p, _, 0, .int y, rfl, rfl, .of hp8, rfl, S, _, _, rfl, rfl, hS8, by rw [List.length_map]; exact small1000 (by omega), ?_⟩
          refine ⟨_, _, left.eraseIdx d.toNat, says ++ [y], rfl, (F8.upd nSf nSc).mono (by omega), k8.write frS hS8, by rw [upd_ne (Ne.symm nSL)]; exact hL8, by rw [upd_same, List.map_append]; rfl, by rw [erase_len dl]; omega, by rw [List.length_append, ls]; rfl, go y (by omega)⟩
        · refine ⟨p, _, 1, .int (0 - y), rfl, rfl, .of hp8, rfl, S, _, _, rfl, rfl, hS8, by rw [List.length_map]; exact small1000 (by omega), ?_⟩
          refine ⟨_, _, left.eraseIdx d.toNat, says ++ [0 - y], rfl, (F8.upd nSf nSc).mono (by omega), k8.write frS hS8, by rw [upd_ne (Ne.symm nSL)]; exact hL8, by rw [upd_same, List.map_append]; rfl, by rw [erase_len dl]; omega, by rw [List.length_append, ls]; rfl, go (0 - y) (by omega)⟩
      · rintro σ H' ⟨y5, y6, left, says, rfl, F4, k4, hL4, hS4, ll, ls, pm⟩
        exact ⟨y5, y6, left, says, rfl, F4.mono (by omega), k4, hS4, by omega, pm⟩
    rintro σ' H3 ⟨y5, y6, left, says, rfl, F3, k3, hS3, ls, pm⟩
    refine ⟨_, rfl, S, says, rfl, .of hS3, fun ns pn so p H4 np s4 hp _ => ?_⟩
    refine ⟨p, _, rfl, .of hp, fun p2 H5 np2 s5 hp2 _ => ?_⟩
    obtain ⟨h1, h2⟩ := cl_of Tk pm pn so
    refine q ns p2 H5 (F3.same (s4.trans s5)) (k3.trans (.same (s4.trans s5))) (.ke k3 F3 (.of (s4.free np2))) hp2 h1 h2 ?_
    rw [pn.length_eq]
    exact ls
/-- the claims css are of the things ks -/
def Of (ks : List Int) (cs : List Int) : Prop := IsCl cs ∧ ∀ s ∈ cs, (s.natAbs : Int) ∈ ks
/-- a list of claims as it grows -/
def Ls (H : Hp) (L : Addr) (css : List (List Int)) : Prop := ∃ vs, H L = some (.lst vs) ∧ vs.length = css.length ∧ ∀ (i : Nat) (x : V) (cs : List Int), vs[i]? = some x → css[i]? = some cs → TupI H x cs
theorem ix_append {α β : Type} {R : α → β → Prop} {vs : List α} {ys : List β} {v : α} {y : β} (l : vs.length = ys.length) (h : ∀ (i : Nat) (x : α) (z : β), vs[i]? = some x → ys[i]? = some z → R x z) (r : R v y) :
    ∀ (i : Nat) (x : α) (z : β), (vs ++ [v])[i]? = some x → (ys ++ [y])[i]? = some z → R x z := by
  intro i x z h1 h2
  by_cases hi : i < vs.length
  · rw [List.getElem?_append_left hi] at h1
    rw [List.getElem?_append_left (by omega)] at h2
    exact h i x z h1 h2
  · have e : i = vs.length := by
      have := (List.getElem?_eq_some_iff.mp h1).1
      rw [List.length_append, List.length_singleton] at this
      omega
    subst e
    rw [List.getElem?_append_right (Nat.le_refl _), Nat.sub_self] at h1
    rw [List.getElem?_append_right (by omega), show vs.length - ys.length = 0 by omega] at h2
    cases h1
    cases h2
    exact r
end
end Cl
namespace St
open PySem PySem.Spec PyProof.Rows L2 Nw
/-! ### set(xs) of a list of whole numbers, and sorted of it -/
/-- a set as it begins -/
abbrev bare (w : World) : Obj := { cls := .type "set", dict := none, data := .set #[] 0 (.fresh 0 0 (!w.params.followText "set-order")) }
section
variable {P : Program} {w : World} {A : Around} {E : Value → Shared → Prop} {s : Shared}
set_option maxRecDepth 100000 in
set_option maxHeartbeats 3200000 in
theorem set_of_list {l : Addr} {xs : Array Value} (ks : List Int) {Q : Value → Shared → Prop} (hA : A.handled = none) (hx : s.heap.IsList l xs) (hk : IntsAre xs.toList ks) (few : ks.length + 1 < scanBound)
    (want : ∀ (h' : Heap) (tk c : Nat), SetR w h' s.heap.objs.size (fun j => decide (j ∈ ks)) c → c ≤ ks.length → (∀ b o, s.heap.get? b = some o → h'.get? b = some o) → Q (.ref s.heap.objs.size) { s with heap := h', toks := tk }) :
    wpAny (model P w) A (call (.type "set") [.ref l]) Q E s := by
  have sz : xs.size = ks.length := by rw [← Array.length_toList]; exact IntsAre.length hk
  obtain ⟨c, tl, hmro⟩ := F.called_set.mro
  have m1 := F.called_set.made
  have m2 := F.called_set.sub
  have m3 := F.called_set.notType
  have m4 := F.called_set.canCreate
  have m5 := F.typeCall_set_1 (.ref l)
  refine wpAny_call (codeAny_of_tree (wpAny_pure ⟨Code.quiet_builtin _ (by decide +kernel), codeAny_builtin F.entry_type_call ?_⟩))
  rw [Around.under_plain (weight_type_call_type "set" [.ref l] []) rfl]
  repeat (any_goals (first | assumption | wp_step))
  refine codeAny_mono (code_set_led1 (.ref l) (E := E) (Q₁ := fun o s1 => o = .ref s.heap.objs.size ∧ s1 = { s with heap := s.heap.push (bare w) }) ⟨rfl, rfl⟩) fun r s1 hr => ?_
  cases r with
  | error e => exact hr
  | ok fl =>
    cases fl with
    | next => exact hr.elim
    | brk => exact hr.elim
    | cont => exact hr.elim
    | ret o =>
      obtain ⟨rfl, rfl⟩ := hr
      have g0 : (s.heap.push (bare w)).get? s.heap.objs.size = some (bare w) := Heap.get?_push_size _ rfl
      have t0 : Shared.TypeIs { s with heap := s.heap.push (bare w) } (.ref s.heap.objs.size) "set" := ⟨_, g0, rfl⟩
      have m6 := F.called_set.init.lookup
      have m7 := F.called_set.init.bind (.ref s.heap.objs.size)
      repeat (any_goals (first | assumption | wp_step))
      refine codeAny_mono (codeAny_call_builtin (R := wants (fun r s2 => r = .none ∧ ∃ h' tk c, s2 = { s with heap := h', toks := tk } ∧ SetR w h' s.heap.objs.size (fun j => decide (j ∈ ks)) c ∧ c ≤ ks.length ∧ ∀ b o, s.heap.get? b = some o → h'.get? b = some o) E) F.called_set.init.plain F.entry_set_init (check_set_init_1 t0 ?_)) fun r2 s2 hr2 => ?_
      · obtain ⟨ol, g1, hc, nl, hd⟩ := hx
        have lt : l < s.heap.objs.size := Heap.lt_size g1
        obtain ⟨oc, od, oda, osl⟩ := ol
        dsimp only at hc hd
        subst hc hd
        have g2 : (s.heap.push (bare w)).get? l = some { cls := .type "list", dict := od, data := .seq xs nl, slots := osl } := Heap.get?_push_of_some _ g1
        have i1 : (s.heap.push (bare w)).IsList l xs := ⟨_, g2, rfl, nl, rfl⟩
        have m8 := F.sub_list_set
        have m9 := F.sub_list_frozenset
        have m10 : (Value.type "list" == Value.type "dict") = false := by decide
        have szp : (s.heap.push (bare w)).objs.size = s.heap.objs.size + 1 := Heap.size_push ..
        unfold Builtin.«set.__init__» noKeywords Builtin.Frozenset.updateFrom
        generalize hPI : pyIter = PI
        wp_walk
        subst hPI
        refine wpAny_pyIter_list i1 (wpAny_bind (wpAny_runValue ?_))
        have ne1 : l ≠ (s.heap.push (bare w)).objs.size := by rw [szp]; exact Nat.ne_of_lt (Nat.lt_succ_of_lt lt)
        have ne2 : s.heap.objs.size ∉ [(s.heap.push (bare w)).objs.size, l] := by
          rw [szp]
          simp only [List.mem_cons, List.not_mem_nil, or_false, not_or]
          exact ⟨Nat.ne_of_lt (Nat.lt_succ_self _), Nat.ne_of_gt lt⟩
        have at_ : ∀ (i : Nat) (v : Value), xs[i]? = some v → ∃ k t, ks[i]? = some k ∧ v = .int k t := fun i v hv => by
          have hi : i < ks.length := by rw [← sz]; exact (Array.getElem?_eq_some_iff.mp hv).1
          obtain ⟨t, e⟩ := IntsAre.int_at hk i v (by rw [Array.getElem?_toList]; exact hv)
          rw [List.getD_eq_getElem?_getD, List.getElem?_eq_getElem hi, Option.getD_some] at e
          exact ⟨ks[i], t, List.getElem?_eq_getElem hi, e⟩
        have hA3 : A.in1.in1.in1.handled = none := by simp [hA]
        refine set_update_ints ((Walks.list hA3 _ l ne1 xs).toS) s.heap.objs.size ne2 ks sz few at_ (xs.size - 0) 0 _ (by omega) (Nat.zero_le _) ⟨⟨_, Heap.get?_push_size _ rfl, rfl, rfl⟩, i1.push _⟩ ⟨0, Nat.le_refl 0, setR_new_at (Heap.get?_push_of_some _ g0)⟩ ?_
        intro s' c' hm hc' hS'
        obtain ⟨h', g', d', tk', os'⟩ := s'
        obtain rfl : g' = s.gens := hm.gens
        obtain rfl : d' = s.drawn := hm.drawn
        obtain rfl : os' = s.os := hm.os
        show wpAny _ _ _ _ _ _
        refine wpAny_pure (wpAny_pure ⟨rfl, h', tk', c', rfl, hS', by omega, fun b o e => ?_⟩)
        have lb : b < s.heap.objs.size := Heap.lt_size e
        refine hm.heap b o ?_ (Heap.get?_push_of_some _ (Heap.get?_push_of_some _ e))
        rw [szp]
        simp only [List.mem_cons, List.not_mem_nil, or_false, not_or]
        exact ⟨Nat.ne_of_lt lb, Nat.ne_of_lt (Nat.lt_succ_of_lt lb)⟩
      · cases r2 with
        | error e => exact hr2
        | ok f2 =>
          cases f2 with
          | next => exact hr2.elim
          | brk => exact hr2.elim
          | cont => exact hr2.elim
          | ret r =>
            obtain ⟨rfl, h', tk, c', rfl, hS', hc', hk'⟩ := hr2
            repeat (any_goals (first | assumption | wp_step))
            exact want _ _ _ hS' hc' hk'
end
end St
namespace St
open PySem PySem.Spec PyProof.Rows L2 Nw
theorem cr_setL {X : Cx} (hc : X.calm = true) : CallR X (.type "set") (fun xs H Q => ∃ (a : Addr) (ns : List Int), xs = [.ref a] ∧ SqL X.K H a (ns.map V.int) ∧ ns.length ≤ 60 ∧ ∀ p H2 n, H p = none → Same H H2 → H2 p = some (SetO X.w p (fun j => decide (j ∈ ns)) n) → n ≤ ns.length → Q (.ref p) H2) := by
  intro pins s σ H xs us Q I r h
  obtain ⟨a, ns, rfl, hs, hl, q⟩ := h
  obtain ⟨u, rfl, ru⟩ := Vals.one r
  cases ru
  obtain ⟨its, ri, pl, _⟩ := I.list hs
  have hn : H s.heap.objs.size = none := I.hok.fresh (Nat.le_refl _)
  refine set_of_list ns (I.ok.hd hc) (PlainL.isList pl) (by rw [List.toList_toArray]; exact Vals.ints ri) (by unfold scanBound; omega) fun h' tk c R lc k => ?_
  exact ⟨.ref s.heap.objs.size, upd H s.heap.objs.size (SetO X.w s.heap.objs.size (fun j => decide (j ∈ ns)) c), I.laid (t' := tk) k (Nat.le_refl _) (setO_new R), rfl, q _ _ c hn (same_new hn) upd_same lc⟩
theorem cr_sortedS {X : Cx} (hc : X.calm = true) : CallR X (.builtin "sorted") (fun vs H Q => ∃ (a : Addr) (S : Int → Bool) (n : Nat), vs = [V.ref a] ∧ H a = some (SetO X.w a S n) ∧ n < 64 ∧ ∀ ns : List Int, ns.Pairwise (· < ·) → (∀ k : Int, k ∈ ns ↔ S k = true) → ns.length = n → New H (.lst (ns.map V.int)) Q) :=
  call_weak (cr_sortedSet hc) fun _ _ _ ⟨a, S, n, h1, h2, h3, h4⟩ => ⟨a, S, n, h1, h2, h3, fun ns p x1 x2 x3 np => (h4 ns x1 x2 x3).to p np⟩
end St
namespace St
open PySem PySem.Spec PyProof.Rows L2 Nw
section
variable {X : Cx}
/-- sorted(t), t a tuple of whole numbers: the items are gathered in a list, then a list of these is sorted in its place -/
theorem cr_sortedT : CallR X (.builtin "sorted") (fun vs H Q => ∃ (a : Addr) (ns : List Int), vs = [V.ref a] ∧ SqT X.K H a (ns.map V.int) ∧ ∀ ns' : List Int, ns'.Perm ns → ns'.Pairwise (· ≤ ·) → New H (.lst (ns'.map V.int)) Q) := by
  intro pins s σ H vs us Q I r h
  obtain ⟨a, ns, rfl, hs, q⟩ := h
  obtain ⟨its, rv, ⟨o, ho, hcl, n, hd⟩, hz⟩ := I.tuple hs
  obtain ⟨u, rfl, ru⟩ := Vals.one r
  cases ru
  have hin := Vals.ints rv
  have lz : its.length ≤ sizeLine := by rw [← Vals.length rv]; exact hz
  refine Calls.call_function_entry PyProof.Rows.kind_sorted PyProof.Rows.plain_sorted PyProof.Rows.entry_sorted (PyProof.Rows.args_sorted1 _) ?_
  unfold Builtin.«sorted»
  refine wpAny_bind (m := checkCount "sorted" 1 1 _) (wpAny_pure (wpAny_bind (wpAny_collect_seq a (.inr rfl) ho hcl hd (fun h1 k1 => ?_) (by rw [List.size_toArray]; exact lz))))
  refine wpAny_bind (wpAny_newList ?_ (by rw [List.toList_toArray]; exact lz))
  rw [List.toList_toArray]
  have at1 : (h1.push (seqObj "list" its.toArray 0)).get? h1.objs.size = some (seqObj "list" its.toArray 0) := Heap.get?_push_size _ rfl
  have up1 : ∀ b o, s.heap.get? b = some o → b ≠ h1.objs.size ∧ (h1.push (seqObj "list" its.toArray 0)).get? b = some o := fun b o e => ⟨Nat.ne_of_lt (Heap.lt_size (k1 b o e)), Heap.get?_push_of_some _ (k1 b o e)⟩
  refine wpAny_bind (wpAny_holding (wpAny_call_entry PyProof.Rows.slot_list_sort ⟨_, at1, rfl⟩ PyProof.Rows.entry_list_sort (SrtO.list_sort_ord SrtO.swo_int at1 lz (fun h2 => SrtO.ints_sortable hin h2) fun out g1 g2 => ⟨_, rfl, ?_⟩) (PyProof.Rows.args_list_sort _)))
  obtain ⟨i1, i2, i3⟩ := SrtO.ints_out hin g1 g2
  obtain ⟨ep, hat⟩ := PyProof.Rows.sortedHeap_at (out := out.toArray) at1
  have gone : s.heap.get? h1.objs.size = none := by
    cases e : s.heap.get? h1.objs.size with
    | none => rfl
    | some o => exact absurd (Heap.lt_size (k1 _ o e)) (Nat.lt_irrefl _)
  have hn : H h1.objs.size = none := I.hok.gone gone
  have old : ∀ b o, s.heap.get? b = some o → (PyProof.Rows.sortedHeap (h1.push (seqObj "list" its.toArray 0)) h1.objs.size its out.toArray).get? b = some o := fun b o e => by
    rw [PyProof.Rows.sortedHeap_old (up1 b o e).1 (Heap.lt_size (up1 b o e).2)]
    exact (up1 b o e).2
  have len : ((out.map SrtO.iv).map V.int).length ≤ sizeLine := by
    rw [List.length_map, i2.length_eq]
    rw [List.length_map] at hz
    exact hz
  refine wpAny_pure ⟨_, rfl, .ref h1.objs.size, upd H h1.objs.size (.lst ((out.map SrtO.iv).map V.int)), I.laidN (t' := s.toks) old gone hn ⟨len, out, ep, vals_of_ints i1, hat⟩, rfl, (q _ i2 i3).to _ hn⟩
end
end St
namespace St2
open PySem PySem.Spec PyProof.Rows L2 Nw
/-! ### set(t) of a tuple of whole numbers -/
/-- a set as it begins -/
abbrev bare (w : World) : Obj := { cls := .type "set", dict := none, data := .set #[] 0 (.fresh 0 0 (!w.params.followText "set-order")) }
section
variable {P : Program} {w : World} {A : Around} {E : Value → Shared → Prop} {s : Shared}
set_option maxRecDepth 100000 in
set_option maxHeartbeats 3200000 in
theorem set_of_tup {l : Addr} {xs : Array Value} (ks : List Int) {Q : Value → Shared → Prop} (hA : A.handled = none) (hx : s.heap.IsTuple l xs) (hk : IntsAre xs.toList ks) (few : ks.length + 1 < scanBound)
    (want : ∀ (h' : Heap) (tk c : Nat), SetR w h' s.heap.objs.size (fun j => decide (j ∈ ks)) c → c ≤ ks.length → (∀ b o, s.heap.get? b = some o → h'.get? b = some o) → Q (.ref s.heap.objs.size) { s with heap := h', toks := tk }) :
    wpAny (model P w) A (call (.type "set") [.ref l]) Q E s := by
  have sz : xs.size = ks.length := by rw [← Array.length_toList]; exact IntsAre.length hk
  obtain ⟨c, tl, hmro⟩ := F.called_set.mro
  have m1 := F.called_set.made
  have m2 := F.called_set.sub
  have m3 := F.called_set.notType
  have m4 := F.called_set.canCreate
  have m5 := F.typeCall_set_1 (.ref l)
  refine wpAny_call (codeAny_of_tree (wpAny_pure ⟨Code.quiet_builtin _ (by decide +kernel), codeAny_builtin F.entry_type_call ?_⟩))
  rw [Around.under_plain (weight_type_call_type "set" [.ref l] []) rfl]
  repeat (any_goals (first | assumption | wp_step))
  refine codeAny_mono (code_set_led1 (.ref l) (E := E) (Q₁ := fun o s1 => o = .ref s.heap.objs.size ∧ s1 = { s with heap := s.heap.push (bare w) }) ⟨rfl, rfl⟩) fun r s1 hr => ?_
  cases r with
  | error e => exact hr
  | ok fl =>
    cases fl with
    | next => exact hr.elim
    | brk => exact hr.elim
    | cont => exact hr.elim
    | ret o =>
      obtain ⟨rfl, rfl⟩ := hr
      have g0 : (s.heap.push (bare w)).get? s.heap.objs.size = some (bare w) := Heap.get?_push_size _ rfl
      have t0 : Shared.TypeIs { s with heap := s.heap.push (bare w) } (.ref s.heap.objs.size) "set" := ⟨_, g0, rfl⟩
      have m6 := F.called_set.init.lookup
      have m7 := F.called_set.init.bind (.ref s.heap.objs.size)
      repeat (any_goals (first | assumption | wp_step))
      refine codeAny_mono (codeAny_call_builtin (R := wants (fun r s2 => r = .none ∧ ∃ h' tk c, s2 = { s with heap := h', toks := tk } ∧ SetR w h' s.heap.objs.size (fun j => decide (j ∈ ks)) c ∧ c ≤ ks.length ∧ ∀ b o, s.heap.get? b = some o → h'.get? b = some o) E) F.called_set.init.plain F.entry_set_init (check_set_init_1 t0 ?_)) fun r2 s2 hr2 => ?_
      · obtain ⟨ol, g1, hc, nl, hd⟩ := hx
        have lt : l < s.heap.objs.size := Heap.lt_size g1
        obtain ⟨oc, od, oda, osl⟩ := ol
        dsimp only at hc hd
        subst hc hd
        have g2 : (s.heap.push (bare w)).get? l = some { cls := .type "tuple", dict := od, data := .seq xs nl, slots := osl } := Heap.get?_push_of_some _ g1
        have i1 : (s.heap.push (bare w)).IsTuple l xs := ⟨_, g2, rfl, nl, rfl⟩
        have m8 := F.sub_tuple_set
        have m9 := F.sub_tuple_frozenset
        have m10 : (Value.type "tuple" == Value.type "dict") = false := by decide
        have szp : (s.heap.push (bare w)).objs.size = s.heap.objs.size + 1 := Heap.size_push ..
        unfold Builtin.«set.__init__» noKeywords Builtin.Frozenset.updateFrom
        generalize hPI : pyIter = PI
        wp_walk
        subst hPI
        refine wpAny_pyIter_tuple i1 (wpAny_bind (wpAny_runValue ?_))
        have ne1 : l ≠ (s.heap.push (bare w)).objs.size := by rw [szp]; exact Nat.ne_of_lt (Nat.lt_succ_of_lt lt)
        have ne2 : s.heap.objs.size ∉ [(s.heap.push (bare w)).objs.size, l] := by
          rw [szp]
          simp only [List.mem_cons, List.not_mem_nil, or_false, not_or]
          exact ⟨Nat.ne_of_lt (Nat.lt_succ_self _), Nat.ne_of_gt lt⟩
        have at_ : ∀ (i : Nat) (v : Value), xs[i]? = some v → ∃ k t, ks[i]? = some k ∧ v = .int k t := fun i v hv => by
          have hi : i < ks.length := by rw [← sz]; exact (Array.getElem?_eq_some_iff.mp hv).1
          obtain ⟨t, e⟩ := IntsAre.int_at hk i v (by rw [Array.getElem?_toList]; exact hv)
          rw [List.getD_eq_getElem?_getD, List.getElem?_eq_getElem hi, Option.getD_some] at e
          exact ⟨ks[i], t, List.getElem?_eq_getElem hi, e⟩
        have hA3 : A.in1.in1.in1.handled = none := by simp [hA]
        refine set_update_ints ((Walks.tuple hA3 _ l ne1 xs).toS) s.heap.objs.size ne2 ks sz few at_ (xs.size - 0) 0 _ (by omega) (Nat.zero_le _) ⟨⟨_, Heap.get?_push_size _ rfl, rfl, rfl⟩, i1.push _⟩ ⟨0, Nat.le_refl 0, setR_new_at (Heap.get?_push_of_some _ g0)⟩ ?_
        intro s' c' hm hc' hS'
        obtain ⟨h', g', d', tk', os'⟩ := s'
        obtain rfl : g' = s.gens := hm.gens
        obtain rfl : d' = s.drawn := hm.drawn
        obtain rfl : os' = s.os := hm.os
        show wpAny _ _ _ _ _ _
        refine wpAny_pure (wpAny_pure ⟨rfl, h', tk', c', rfl, hS', by omega, fun b o e => ?_⟩)
        have lb : b < s.heap.objs.size := Heap.lt_size e
        refine hm.heap b o ?_ (Heap.get?_push_of_some _ (Heap.get?_push_of_some _ e))
        rw [szp]
        simp only [List.mem_cons, List.not_mem_nil, or_false, not_or]
        exact ⟨Nat.ne_of_lt lb, Nat.ne_of_lt (Nat.lt_succ_of_lt lb)⟩
      · cases r2 with
        | error e => exact hr2
        | ok f2 =>
          cases f2 with
          | next => exact hr2.elim
          | brk => exact hr2.elim
          | cont => exact hr2.elim
          | ret r =>
            obtain ⟨rfl, h', tk, c', rfl, hS', hc', hk'⟩ := hr2
            repeat (any_goals (first | assumption | wp_step))
            exact want _ _ _ hS' hc' hk'
theorem cr_setT {X : Cx} (hc : X.calm = true) : CallR X (.type "set") (fun xs H Q => ∃ (a : Addr) (ns : List Int), xs = [.ref a] ∧ SqT X.K H a (ns.map V.int) ∧ ns.length ≤ 60 ∧ ∀ p H2 n, H p = none → Same H H2 → H2 p = some (SetO X.w p (fun j => decide (j ∈ ns)) n) → n ≤ ns.length → Q (.ref p) H2) := by
  intro pins s σ H xs us Q I r h
  obtain ⟨a, ns, rfl, hs, hl, q⟩ := h
  obtain ⟨u, rfl, ru⟩ := Vals.one r
  cases ru
  obtain ⟨its, ri, pl, _⟩ := I.tuple hs
  have hn : H s.heap.objs.size = none := I.hok.fresh (Nat.le_refl _)
  refine set_of_tup ns (I.ok.hd hc) (show s.heap.IsTuple a its.toArray from pl) (by rw [List.toList_toArray]; exact Vals.ints ri) (by unfold scanBound; omega) fun h' tk c R lc k => ?_
  exact ⟨.ref s.heap.objs.size, upd H s.heap.objs.size (SetO X.w s.heap.objs.size (fun j => decide (j ∈ ns)) c), I.laid (t' := tk) k (Nat.le_refl _) (setO_new R), rfl, q _ _ c hn (same_new hn) upd_same lc⟩
end
end St2
namespace Od
open PySem PySem.Spec PyProof.Rows L2 GxR Nw Dr Kp
/-! ### anything: values by their data; no list among them is one of f -/
mutual
inductive OdV (f : Addr → Prop) (H : Hp) : V → PyData → Prop
  | non : OdV f H .non .none
  | bl (b : Bool) : OdV f H (.bl b) (.bool b)
  | int (i : Int) : OdV f H (.int i) (.int i)
  | str (x : Str) : OdV f H (.str x) (.str x)
  | lst {a : Addr} {xs : List V} {ds : List PyData} : H a = some (.lst xs) → ¬ f a → OdAll f H xs ds → OdV f H (.ref a) (.list ds)
  | tup {a : Addr} {xs : List V} {ds : List PyData} : H a = some (.tup xs) → OdAll f H xs ds → OdV f H (.ref a) (.tuple ds)
inductive OdAll (f : Addr → Prop) (H : Hp) : List V → List PyData → Prop
  | nil : OdAll f H [] []
  | cons {v : V} {vs : List V} {d : PyData} {ds : List PyData} : OdV f H v d → OdAll f H vs ds → OdAll f H (v :: vs) (d :: ds)
end
variable {f : Addr → Prop} {H H' : Hp}
mutual
theorem OdV.dp {K : PySem.W.Frag} : ∀ {d : PyData} {v : V}, OdV f H v d → Dp K H v d
  | .none, _, h => by cases h; exact .non
  | .bool _, _, h => by cases h; exact .bl _
  | .int _, _, h => by cases h; exact .int _
  | .str _, _, h => by cases h; exact .str _
  | .list ds, _, h => by cases h with | lst h1 _ h2 => exact .lst (.of h1) (OdAll.dp h2)
  | .tuple ds, _, h => by cases h with | tup h1 h2 => exact .tup (.of h1) (OdAll.dp h2)
  | .dict _, _, h => by cases h
theorem OdAll.dp {K : PySem.W.Frag} : ∀ {ds : List PyData} {vs : List V}, OdAll f H vs ds → DpAll K H vs ds
  | [], _, h => by cases h; exact .nil
  | d :: ds, _, h => by cases h with | cons h1 h2 => exact .cons (OdV.dp h1) (OdAll.dp h2)
end
mutual
theorem OdV.ke (k : Ke f H H') : ∀ {d : PyData} {v : V}, OdV f H v d → OdV f H' v d
  | .none, _, h => by cases h; exact .non
  | .bool _, _, h => by cases h; exact .bl _
  | .int _, _, h => by cases h; exact .int _
  | .str _, _, h => by cases h; exact .str _
  | .list ds, _, h => by cases h with | lst h1 n h2 => exact .lst (k.lst h1 n) n (OdAll.ke k h2)
  | .tuple ds, _, h => by cases h with | tup h1 h2 => exact .tup (k.tups _ _ h1) (OdAll.ke k h2)
  | .dict _, _, h => by cases h
theorem OdAll.ke (k : Ke f H H') : ∀ {ds : List PyData} {vs : List V}, OdAll f H vs ds → OdAll f H' vs ds
  | [], _, h => by cases h; exact .nil
  | d :: ds, _, h => by cases h with | cons h1 h2 => exact .cons (OdV.ke k h1) (OdAll.ke k h2)
end
theorem OdAll.len : ∀ {vs : List V} {ds : List PyData}, OdAll f H vs ds → vs.length = ds.length
  | [], _, h => by cases h; rfl
  | v :: vs, _, h => by cases h with | cons h1 h2 => rw [List.length_cons, List.length_cons, OdAll.len h2]
theorem OdAll.at : ∀ {vs : List V} {ds : List PyData} {i : Nat} {v : V}, OdAll f H vs ds → vs[i]? = some v → ∃ d, ds[i]? = some d ∧ OdV f H v d
  | [], _, _, _, _, e => by simp at e
  | v :: vs, _, 0, _, h, e => by
    cases h with
    | cons h1 h2 =>
      cases e
      exact ⟨_, rfl, h1⟩
  | v :: vs, _, i + 1, _, h, e => by
    cases h with
    | cons h1 h2 => exact OdAll.at (vs := vs) (i := i) h2 (by simpa using e)
theorem OdAll.cat : ∀ {vs us : List V} {ds es : List PyData}, OdAll f H vs ds → OdAll f H us es → OdAll f H (vs ++ us) (ds ++ es)
  | [], _, _, _, h, g => by cases h; exact g
  | v :: vs, _, _, _, h, g => by cases h with | cons h1 h2 => exact .cons h1 (OdAll.cat h2 g)
theorem OdAll.one {v : V} {d : PyData} (h : OdV f H v d) : OdAll f H [v] [d] := .cons h .nil
theorem OdAll.take : ∀ {vs : List V} {ds : List PyData} (n : Nat), OdAll f H vs ds → OdAll f H (vs.take n) (ds.take n)
  | _, _, 0, _ => by rw [List.take_zero, List.take_zero]; exact .nil
  | [], _, n + 1, h => by cases h; exact .nil
  | v :: vs, _, n + 1, h => by cases h with | cons h1 h2 => exact .cons h1 (OdAll.take n h2)
theorem OdAll.drop : ∀ {vs : List V} {ds : List PyData} (n : Nat), OdAll f H vs ds → OdAll f H (vs.drop n) (ds.drop n)
  | _, _, 0, h => by rw [List.drop_zero, List.drop_zero]; exact h
  | [], _, n + 1, h => by cases h; exact .nil
  | v :: vs, _, n + 1, h => by cases h with | cons h1 h2 => exact OdAll.drop n h2
theorem OdAll.rev : ∀ {vs : List V} {ds : List PyData}, OdAll f H vs ds → OdAll f H vs.reverse ds.reverse
  | [], _, h => by cases h; exact .nil
  | v :: vs, _, h => by
    cases h with
    | cons h1 h2 =>
      rw [List.reverse_cons, List.reverse_cons]
      exact (OdAll.rev h2).cat (.one h1)
theorem od_ints : ∀ ns : List Int, OdAll f H (ns.map V.int) (ns.map PyData.int)
  | [] => .nil
  | n :: r => .cons (.int n) (od_ints r)
/-! ### what anything is -/
def tyD : PyData → String
  | .none => "NoneType" | .bool _ => "bool" | .int _ => "int" | .str _ => "str" | .list _ => "list" | .tuple _ => "tuple" | .dict _ => "dict"
theorem OdV.ty {K : PySem.W.Frag} {d : PyData} {v : V} (h : OdV f H v d) : TyX K H v (.type (tyD d)) := by
  cases h with
  | non => exact .base .non
  | bl b => exact .base (.bl b)
  | int i => exact .base (.int i)
  | str x => exact .base (.str x)
  | lst h1 _ _ => exact .base (.lst h1)
  | tup h1 _ => exact .base (.tup h1)
def whD : PyData → Bool
  | .int _ => true
  | _ => false
def tuD : PyData → Bool
  | .tuple _ => true
  | _ => false
def numD : PyData → Int → Bool
  | .int n, m => decide (0 ≤ n) && decide (n < m)
  | _, _ => false
/-! ### small data, to be shown -/
structure Sm (B : Nat) (d : PyData) : Prop where
  sh : d.showable = true
  nd : d.hasDict = false
  dp : d.depth ≤ 6
  sz : d.shown.length ≤ B
structure SmAll (B : Nat) (ds : List PyData) : Prop where
  sh : PyData.showableAll ds = true
  nd : PyData.hasDictAll ds = false
  dp : PyData.depthAll ds ≤ 5
  sz : ∀ x ∈ PyData.shownAll ds, x.length ≤ B
theorem SmAll.nil {B : Nat} : SmAll B [] := ⟨rfl, rfl, by decide, fun _ h => nomatch h⟩
theorem SmAll.cons {B : Nat} {d : PyData} {ds : List PyData} (h : Sm B d) (h5 : d.depth ≤ 5) (t : SmAll B ds) : SmAll B (d :: ds) := by
  refine ⟨?_, ?_, ?_, fun x hx => ?_⟩
  · show (PyData.showable d && PyData.showableAll ds) = true
    rw [h.sh, t.sh]
    rfl
  · show (PyData.hasDict d || PyData.hasDictAll ds) = false
    rw [h.nd, t.nd]
    rfl
  · exact Nat.max_le.mpr ⟨h5, t.dp⟩
  · rcases List.mem_cons.mp hx with e | e
    · rw [e]
      exact h.sz
    · exact t.sz x e
theorem shownAll_len : ∀ ds : List PyData, (PyData.shownAll ds).length = ds.length
  | [] => rfl
  | _ :: r => congrArg (· + 1) (shownAll_len r)
theorem sum_le {B : Nat} : ∀ {l : List Nat}, (∀ x ∈ l, x ≤ B) → l.sum ≤ B * l.length
  | [], _ => Nat.zero_le _
  | x :: r, h => by
    have h1 := h x List.mem_cons_self
    have h2 := sum_le (l := r) fun y hy => h y (List.mem_cons_of_mem _ hy)
    rw [List.sum_cons, List.length_cons, Nat.mul_add]
    omega
theorem SmAll.sum {B : Nat} {ds : List PyData} (h : SmAll B ds) : ((PyData.shownAll ds).map (·.length)).sum ≤ B * ds.length := by
  have := sum_le (B := B) (l := (PyData.shownAll ds).map (·.length)) fun x hx => by
    obtain ⟨y, hy, rfl⟩ := List.mem_map.mp hx
    exact h.sz y hy
  rw [List.length_map, shownAll_len] at this
  exact this
theorem SmAll.list {B n B' : Nat} {ds : List PyData} (h : SmAll B ds) (l : ds.length ≤ n) (hb : B * n + 2 * n + 3 ≤ B') : Sm B' (.list ds) := by
  have e := listText_len_le (PyData.shownAll ds)
  have s := h.sum
  rw [shownAll_len] at e
  have m : B * ds.length ≤ B * n := Nat.mul_le_mul_left _ l
  exact ⟨h.sh, h.nd, by show PyData.depthAll ds + 1 ≤ 6; have := h.dp; omega, by show (listText (PyData.shownAll ds)).length ≤ B'; omega⟩
theorem SmAll.tuple {B n B' : Nat} {ds : List PyData} (h : SmAll B ds) (l : ds.length ≤ n) (hb : B * n + 2 * n + 3 ≤ B') : Sm B' (.tuple ds) := by
  have e := tupleText_len_le (PyData.shownAll ds)
  have s := h.sum
  rw [shownAll_len] at e
  have m : B * ds.length ≤ B * n := Nat.mul_le_mul_left _ l
  exact ⟨h.sh, h.nd, by show PyData.depthAll ds + 1 ≤ 6; have := h.dp; omega, by show (tupleText (PyData.shownAll ds)).length ≤ B'; omega⟩
theorem SmAll.cat {B : Nat} : ∀ {ds es : List PyData}, SmAll B ds → SmAll B es → SmAll B (ds ++ es)
  | [], _, _, g => g
  | d :: r, es, h, g => by
    have hs := h.sh
    have hn := h.nd
    have hd := h.dp
    have hz := h.sz
    have hs' : (PyData.showable d && PyData.showableAll r) = true := hs
    have hn' : (PyData.hasDict d || PyData.hasDictAll r) = false := hn
    rw [Bool.and_eq_true] at hs'
    rw [Bool.or_eq_false_iff] at hn'
    have hd' : Nat.max (PyData.depth d) (PyData.depthAll r) ≤ 5 := hd
    have z := Nat.max_le.mp hd'
    have hr : SmAll B r := ⟨hs'.2, hn'.2, z.2, fun x hx => hz x (List.mem_cons_of_mem _ hx)⟩
    exact SmAll.cons ⟨hs'.1, hn'.1, by omega, hz _ List.mem_cons_self⟩ z.1 (SmAll.cat hr g)
theorem SmAll.of {B : Nat} : ∀ {ds : List PyData}, (∀ d ∈ ds, Sm B d ∧ d.depth ≤ 5) → SmAll B ds
  | [], _ => .nil
  | d :: r, h => SmAll.cons (h d List.mem_cons_self).1 (h d List.mem_cons_self).2 (SmAll.of fun x hx => h x (List.mem_cons_of_mem _ hx))
theorem SmAll.mem {B : Nat} : ∀ {ds : List PyData}, SmAll B ds → ∀ d ∈ ds, Sm B d ∧ d.depth ≤ 5
  | [], _, d, hd => nomatch hd
  | e :: r, h, d, hd => by
    have hs' : (PyData.showable e && PyData.showableAll r) = true := h.sh
    have hn' : (PyData.hasDict e || PyData.hasDictAll r) = false := h.nd
    rw [Bool.and_eq_true] at hs'
    rw [Bool.or_eq_false_iff] at hn'
    have hd' : Nat.max (PyData.depth e) (PyData.depthAll r) ≤ 5 := h.dp
    have z := Nat.max_le.mp hd'
    rcases List.mem_cons.mp hd with u | u
    · rw [u]
      exact ⟨⟨hs'.1, hn'.1, by omega, h.sz _ List.mem_cons_self⟩, z.1⟩
    · exact SmAll.mem (ds := r) ⟨hs'.2, hn'.2, z.2, fun x hx => h.sz x (List.mem_cons_of_mem _ hx)⟩ d u
theorem Sm.mono {B B' : Nat} {d : PyData} (h : Sm B d) (l : B ≤ B') : Sm B' d := ⟨h.sh, h.nd, h.dp, Nat.le_trans h.sz l⟩
theorem small_ints : ∀ n : Fin 130, PyData.showable (.int ((n.val : Int) - 60)) = true ∧ (PyData.shown (.int ((n.val : Int) - 60))).length ≤ 3 := by decide +kernel
theorem sm_int {n : Int} (h0 : -60 ≤ n) (h1 : n < 70) : Sm 3 (.int n) := by
  have := small_ints ⟨(n + 60).toNat, by omega⟩
  rw [show (((n + 60).toNat : Nat) : Int) - 60 = n by omega] at this
  exact ⟨this.1, rfl, by show 0 ≤ 6; decide, this.2⟩
theorem OdV.un {g : Addr → Prop} (h : ∀ a, g a → f a) : ∀ {d : PyData} {v : V}, OdV f H v d → OdV g H v d := fun {d v} => OdV.rec (motive_1 := fun v d _ => OdV g H v d) (motive_2 := fun vs ds _ => OdAll g H vs ds) .non .bl .int .str (fun h1 n _ ih => .lst h1 (fun z => n (h _ z)) ih) (fun h1 _ ih => .tup h1 ih) .nil (fun _ _ i1 i2 => .cons i1 i2)
theorem OdAll.un {g : Addr → Prop} (h : ∀ a, g a → f a) : ∀ {ds : List PyData} {vs : List V}, OdAll f H vs ds → OdAll g H vs ds
  | [], _, x => by cases x; exact .nil
  | _ :: _, _, x => by cases x with | cons h1 h2 => exact .cons (OdV.un h h1) (OdAll.un h h2)
end Od
namespace Kc
open PySem PySem.Spec PyProof.Rows L2 GxR Nw Dr Kp Se Od
/-! ### is_claim, is_book: of anything -/
theorem at_int {ks : List Int} {i : Nat} {x : V} (hx : (ks.map V.int)[i]? = some x) : ∃ z, ks[i]? = some z ∧ x = V.int z := by
  rw [List.getElem?_map] at hx
  cases e : ks[i]? with
  | none =>
    rw [e] at hx
    cases hx
  | some z =>
    rw [e] at hx
    exact ⟨z, rfl, (Option.some.inj hx).symm⟩
theorem ints_flat (cs : List Int) : (cs.map V.int).all flatV = true := by
  rw [List.all_eq_true]
  intro v hv
  obtain ⟨z, _, rfl⟩ := List.mem_map.mp hv
  rfl
theorem pg_tupB {X : Cx} {K : PySem.W.Frag} {es : List Expr} {k : Nat} {t : TGs} {n : Nat} {pos : Pos} (hK : X.K = K) (hc : X.calm = true) (h : PGs X es t) (hn : (assignEach es X.env).length = n := by rfl) (hst : (assignEach es X.env).findIdx? (·.1) = none := by rfl) : PG X (.Tuple es k pos) (gTup K n t) := by
  subst hK
  exact pg_tup hc h hn hst
def sayD : PyData → Bool
  | .int n => decide (-8 ≤ n) && decide (n ≤ 8) && decide (n ≠ 0)
  | _ => false
structure Cl0 (ns : List Int) : Prop where
  up : ns.Pairwise (· < ·)
  says : ∀ k ∈ ns, k ≠ 0 ∧ -8 ≤ k ∧ k ≤ 8
  opp : ∀ k ∈ ns, -k ∉ ns
def ClD (d : PyData) : Prop := ∃ ns : List Int, d = .tuple (ns.map PyData.int) ∧ Cl0 ns
def BkD (d : PyData) : Prop := ∃ ds : List PyData, d = .tuple ds ∧ 1 ≤ ds.length ∧ ds.length ≤ 16 ∧ ∀ e ∈ ds, ClD e
theorem say_of {d : PyData} (h : sayD d = true) : ∃ n : Int, d = .int n ∧ n ≠ 0 ∧ -8 ≤ n ∧ n ≤ 8 := by
  cases d with
  | int n =>
    simp only [sayD, Bool.and_eq_true, decide_eq_true_eq] at h
    exact ⟨n, rfl, h.2, h.1.1, h.1.2⟩
  | _ => cases h
theorem say_int {n : Int} (h : n ≠ 0 ∧ -8 ≤ n ∧ n ≤ 8) : sayD (.int n) = true := by
  simp only [sayD, Bool.and_eq_true, decide_eq_true_eq]
  exact ⟨⟨h.2.1, h.2.2⟩, h.1⟩
theorem says_of : ∀ {ds : List PyData}, (∀ d ∈ ds, sayD d = true) → ∃ ns : List Int, ds = ns.map PyData.int ∧ ∀ k ∈ ns, k ≠ 0 ∧ -8 ≤ k ∧ k ≤ 8
  | [], _ => ⟨[], rfl, fun k h => nomatch h⟩
  | d :: r, h => by
    obtain ⟨n, rfl, hn⟩ := say_of (h d List.mem_cons_self)
    obtain ⟨ns, e, hs⟩ := says_of (ds := r) fun x hx => h x (List.mem_cons_of_mem _ hx)
    refine ⟨n :: ns, by rw [e]; rfl, fun k hk => ?_⟩
    rcases List.mem_cons.mp hk with z | z
    · rw [z]
      exact hn
    · exact hs k z
theorem int_inj : ∀ {l m : List Int}, l.map PyData.int = m.map PyData.int → l = m
  | [], [], _ => rfl
  | [], _ :: _, h => by cases h
  | _ :: _, [], h => by cases h
  | a :: l, b :: m, h => by
    obtain ⟨h1, h2⟩ := List.cons.inj h
    rw [PyData.int.inj h1, int_inj h2]
theorem od_is {f : Addr → Prop} {H : Hp} : ∀ {vs : List V} {ns : List Int}, OdAll f H vs (ns.map PyData.int) → vs = ns.map V.int
  | [], [], _ => rfl
  | [], _ :: _, h => by cases h
  | _ :: _, [], h => by cases h
  | v :: vs, n :: ns, h => by
    cases h with
    | cons h1 h2 =>
      cases h1
      rw [od_is h2]
      rfl
theorem no_say {ds : List PyData} {d : PyData} (hd : d ∈ ds) (h : sayD d = false) : ¬ ClD (.tuple ds) := fun ⟨ns, e, c⟩ => by
  rw [PyData.tuple.inj e] at hd
  obtain ⟨n, hn, rfl⟩ := List.mem_map.mp hd
  rw [say_int (c.says n hn)] at h
  cases h
theorem up_of : ∀ {ns : List Int}, (∀ (j : Nat) (x y : Int), ns[j]? = some x → (ns.drop 1)[j]? = some y → x < y) → ns.Pairwise (· < ·)
  | [], _ => .nil
  | [a], _ => .cons (fun _ h => nomatch h) .nil
  | a :: b :: r, h => by
    have ih := up_of (ns := b :: r) fun j x y hx hy => h (j + 1) x y (by simpa using hx) (by simpa using hy)
    have hab : a < b := h 0 a b rfl rfl
    refine .cons (fun c hc => ?_) ih
    rcases List.mem_cons.mp hc with z | z
    · rw [z]
      exact hab
    · exact Int.lt_trans hab (List.rel_of_pairwise_cons ih z)
theorem up_at {ns : List Int} (h : ns.Pairwise (· < ·)) {i : Nat} {x y : Int} (hx : ns[i]? = some x) (hy : (ns.drop 1)[i]? = some y) : x < y := by
  rw [List.getElem?_drop] at hy
  obtain ⟨l1, e1⟩ := List.getElem?_eq_some_iff.mp hx
  obtain ⟨l2, e2⟩ := List.getElem?_eq_some_iff.mp hy
  rw [← e1, ← e2]
  exact List.pairwise_iff_getElem.mp h i (1 + i) l1 l2 (by omega)
theorem cut_tail (ns : List Int) : cutV (ns.map V.int) (some 1) none = (ns.drop 1).map V.int := by
  unfold cutV
  have e : (1 : Int) = ((1 : Nat) : Int) := rfl
  rw [HT.sIx_none, e, HT.sIx_nat, ← List.map_drop]
  cases ns with
  | nil => rfl
  | cons x r =>
    rw [Nat.min_eq_left (by simp)]
    exact List.take_of_length_le (by simp)
theorem in_ints (k : Int) : ∀ cs : List Int, inV (.int k) (cs.map V.int) = true ↔ k ∈ cs
  | [] => by
    constructor
    · intro h
      cases h
    · intro h
      cases h
  | c :: r => by
    have ih := in_ints k r
    show (eqV (.int c) (.int k) || inV (.int k) (r.map V.int)) = true ↔ _
    rw [Bool.or_eq_true, ih, List.mem_cons]
    have e : eqV (.int c) (.int k) = true ↔ k = c := by
      show (c == k) = true ↔ k = c
      rw [beq_iff_eq]
      exact eq_comm
    rw [e]
structure Zi (mg : Str → Option Value) : Prop where
  z_all : mg "all" = none
  z_any : mg "any" = none
  z_zip : mg "zip" = none
  z_isinstance : mg "isinstance" = none
  z_tuple : mg "tuple" = none
  z_int : mg "int" = none
  z_bool : mg "bool" = none
  z_len : mg "len" = none
section
variable {P : Program} {w : World} {K : PySem.W.Frag} {mg : Str → Option Value} {base : Heap}
abbrev sWhp : Stmt := topS 3
theorem scWhp : FnScope ["thing"] ["thing"] (defScope sWhp) := ⟨rfl, rfl, rfl, by decide +kernel, rfl, by decide +kernel, by decide +kernel⟩
/-- is_whole(thing): of anything -/
def spWhG : Sp := fun vs H Q _ => ∃ (f0 : Addr → Prop) (v : V) (d : PyData), vs = [v] ∧ OdV f0 H v d ∧ Q (.bl (whD d)) H
theorem ok_whp {f : Addr} {fd : FuncData} {k : Nat} (F : Fun K "is_whole" "is_whole" sWhp f fd) (T : Zi mg) : FnOk P w K mg base CX0 (k + 1) f fd ["thing"] spWhG := by
  refine F.ok scWhp (fun vs H Q E h => ?_) (fun cdv A outer s H vs Q E hr h => ?_)
  · obtain ⟨f0, v, d, rfl, _⟩ := h
    rfl
  · obtain ⟨f0, v, d, rfl, hv, q⟩ := h
    refine ⟨_, (pss_one (ps_ret (pe_and (pe_callB call_isi (by rfl) T.z_isinstance (by decide +kernel) (pa_cons (pv 0) (pa_cons (pe_bltn (v := .ty "int") (u := .type "int") (by rfl) T.z_int (by decide +kernel) rfl) pa_nil))) (pe_one (pe_not (pe_callB call_isi (by rfl) T.z_isinstance (by decide +kernel) (pa_cons (pv 0) (pa_cons (pe_bltn (v := .ty "bool") (u := .type "bool") (by rfl) T.z_bool (by decide +kernel) rfl) pa_nil)))))))), ?_⟩
    have t := hv.ty (K := K)
    cases d with
    | int n => exact ⟨_, rfl, v, .ty "int", .type "int", .type "int", true, rfl, .ty _, t, kit_ty (by decide +kernel), _, rfl, _, rfl, v, .ty "bool", .type "int", .type "bool", false, rfl, .ty _, t, kit_ty (by decide +kernel), _, rfl, q⟩
    | bool b => exact ⟨_, rfl, v, .ty "int", .type "bool", .type "int", true, rfl, .ty _, t, kit_ty (by decide +kernel), _, rfl, _, rfl, v, .ty "bool", .type "bool", .type "bool", true, rfl, .ty _, t, kit_ty (by decide +kernel), _, rfl, q⟩
    | none => exact ⟨_, rfl, v, .ty "int", .type "NoneType", .type "int", false, rfl, .ty _, t, kit_ty (by decide +kernel), _, rfl, q⟩
    | str x => exact ⟨_, rfl, v, .ty "int", .type "str", .type "int", false, rfl, .ty _, t, kit_ty (by decide +kernel), _, rfl, q⟩
    | list x => exact ⟨_, rfl, v, .ty "int", .type "list", .type "int", false, rfl, .ty _, t, kit_ty (by decide +kernel), _, rfl, q⟩
    | tuple x => exact ⟨_, rfl, v, .ty "int", .type "tuple", .type "int", false, rfl, .ty _, t, kit_ty (by decide +kernel), _, rfl, q⟩
    | dict x => cases hv
abbrev sSay : Stmt := topS 4
theorem scSay : FnScope ["thing"] ["thing"] (defScope sSay) := ⟨rfl, rfl, rfl, by decide +kernel, rfl, by decide +kernel, by decide +kernel⟩
def spSyG : Sp := fun vs H Q _ => ∃ (f0 : Addr → Prop) (v : V) (d : PyData), vs = [v] ∧ OdV f0 H v d ∧ Q (.bl (sayD d)) H
theorem ok_say {f fW : Addr} {fd fdW : FuncData} {k : Nat} {tk : Tok} (F : Fun K "is_say" "is_say" sSay f fd) (M8 : mg "MOST_THINGS" = some (.int 8 tk)) (FW : Fun K "is_whole" "is_whole" sWhp fW fdW) (bW : Binds K fdW ["thing"] []) (gW : mg "is_whole" = some (.ref fW)) (GW : FnOk P w K mg base CX0 1 fW fdW ["thing"] spWhG) :
    FnOk P w K mg base CX0 (k + 2) f fd ["thing"] spSyG := by
  refine F.ok scSay (fun vs H Q E h => ?_) (fun cdv A outer s H vs Q E hr h => ?_)
  · obtain ⟨f0, v, d, rfl, _⟩ := h
    rfl
  · obtain ⟨f0, v, d, rfl, hv, q⟩ := h
    have hr1 : Room 1 _ := hr.mono (by omega)
    refine ⟨_, (pss_one (ps_ret (pe_and (pe_call GW hr1 (by rfl) gW FW.kp bW .nil pass0 (pa_cons (pv 0) pa_nil)) (pe_and (pe_chain op_le op_le (pe_un un_neg (pe_glob (v := .int 8) rfl M8 ⟨_, rfl⟩)) (pv 0) (pe_glob (v := .int 8) rfl M8 ⟨_, rfl⟩)) (pe_one (pe_cmpR op_ne (pv 0) pe_int (nomark _))))))), ?_⟩
    cases d with
    | int n =>
      cases id hv
      refine ⟨_, rfl, f0, _, .int n, rfl, hv, true, rfl, ?_⟩
      refine ⟨_, rfl, _, rfl, _, _, rfl, rfl, decide (-8 ≤ n), rfl, ?_⟩
      by_cases h1 : -8 ≤ n
      · rw [decide_eq_true h1]
        refine ⟨_, _, rfl, rfl, decide (n ≤ 8), rfl, ?_⟩
        by_cases h2 : n ≤ 8
        · rw [decide_eq_true h2]
          refine ⟨_, rfl, rfl, ?_⟩
          have e : (!decide (V.int n = V.int 0)) = sayD (.int n) := by
            simp [sayD, h1, h2]
          show Q (.bl (!decide (V.int n = V.int 0))) H
          rw [e]
          exact q
        · rw [decide_eq_false h2]
          have e : sayD (.int n) = false := by simp [sayD, h2]
          rw [e] at q
          exact q
      · rw [decide_eq_false h1]
        have e : sayD (.int n) = false := by simp [sayD, h1]
        rw [e] at q
        exact ⟨false, rfl, q⟩
    | bool b => exact ⟨_, rfl, f0, v, _, rfl, hv, false, rfl, q⟩
    | none => exact ⟨_, rfl, f0, v, _, rfl, hv, false, rfl, q⟩
    | str x => exact ⟨_, rfl, f0, v, _, rfl, hv, false, rfl, q⟩
    | list x => exact ⟨_, rfl, f0, v, _, rfl, hv, false, rfl, q⟩
    | tuple x => exact ⟨_, rfl, f0, v, _, rfl, hv, false, rfl, q⟩
    | dict x => cases hv
abbrev sRis : Stmt := topS 5
abbrev nRis : List Str := ["says", "one", "other"]
theorem scRis : FnScope nRis ["says"] (defScope sRis) := ⟨rfl, rfl, rfl, by decide +kernel, rfl, by decide +kernel, by decide +kernel⟩
/-- all(..) over zip of two tuples -/
theorem aa_zipT {K : PySem.W.Frag} {a b : Addr} {xs ys : List V} {g : TG} {tt : TT} {te : TE} {vs : List Nat} {σ : L2.St} {H1 : Hp} {stopb : Bool} {Q : VK} (hy : ys.length ≤ xs.length) (Pv : Nat → Hp → Prop) (h0 : Pv 0 H1) (hl : ∀ i H, Pv i H → SqT K H a xs ∧ SqT K H b ys)
    (hs : ∀ i x y T H, xs[i]? = some x → ys[i]? = some y → Pv i H → H T = none → g (.ref T) (wipe σ vs) (upd H T (.tup [x, y])) fun σ2 H2 => wipe σ2 vs = wipe σ vs ∧ tt σ2 H2 fun b H3 => if b = true then te σ2 H3 fun y H4 => (y = .bl stopb ∧ Q (.bl stopb) H4) ∨ (y = .bl (!stopb) ∧ Pv (i + 1) H4) else Pv (i + 1) H3) (hd : ∀ H, Pv ys.length H → Q (.bl (!stopb)) H) :
    ∃ W : Nat → Nat → Hp → Prop, (∃ m, W 0 m H1) ∧ ∀ i m H, W i m H → ((RZ.ItzT K a b).stop i H ∧ Q (.bl (!stopb)) H) ∨ ((RZ.ItzT K a b).go i H ∧ ∃ Nx : Hp → Prop, (∀ H', Nx H' → ∃ m', m' < m ∧ W (i + 1) m' H') ∧ ∀ x H', (RZ.ItzT K a b).yld i H x H' → g x (wipe σ vs) H' fun σ2 H2 => wipe σ2 vs = wipe σ vs ∧ tt σ2 H2 fun b H3 =>
      if b = true then te σ2 H3 fun y H4 => (y = .bl stopb ∧ Q (.bl stopb) H4) ∨ (y = .bl (!stopb) ∧ Nx H4) else Nx H3) := by
  refine ⟨fun i m H => i + m = ys.length ∧ Pv i H, ⟨ys.length, Nat.zero_add _, h0⟩, fun i m H ⟨e, p⟩ => ?_⟩
  obtain ⟨sa, sb⟩ := hl i H p
  cases m with
  | zero =>
    have ei : i = ys.length := by omega
    subst ei
    exact .inl ⟨⟨xs, ys, sa, sb, .inr (Nat.le_refl _)⟩, hd H p⟩
  | succ m =>
    have lt : i < ys.length := by omega
    have lx : i < xs.length := by omega
    refine .inr ⟨⟨xs, ys, xs[i], ys[i], sa, sb, List.getElem?_eq_getElem lx, List.getElem?_eq_getElem lt⟩, Pv (i + 1), fun H' q => ⟨m, Nat.lt_succ_self m, by omega, q⟩, fun v H' z => ?_⟩
    obtain ⟨T, x, y, rfl, nT, rfl, hx, hy'⟩ := z
    exact hs i x y T H (hx xs sa) (hy' ys sb) p nT
def spRiG (Pr : Addr) : Sp := fun vs H Q _ => ∃ (v : V) (ns : List Int), vs = [v] ∧ TupI H v ns ∧ TabG H Pr ∧ ∀ b H', (b = true ↔ ns.Pairwise (· < ·)) → Ke Nof H H' → Q (.bl b) H'
theorem ok_ris {f c Pr : Addr} {fd : FuncData} {k : Nat} (F : FunC K "is_rising" "is_rising" sRis f c fd) (T : Zi mg) (TB : TabB base mg c Pr) : FnOk P w K mg base CX0 (k + 3) f fd ["says"] (spRiG Pr) := by
  refine F.ok scRis (fun vs H Q E h => ?_) (fun A outer s H vs Q E hr h => ?_)
  · obtain ⟨v, ns, rfl, _⟩ := h
    rfl
  · obtain ⟨v, ns, rfl, ⟨a, rfl, ha⟩, tg, q⟩ := h
    refine ⟨_, (pss_one (ps_ret (Gx.pe_all hr (by rfl) T.z_all rfl scRis.nd TB rfl (RZ.pi_zipA (by rfl) T.z_zip (pa_cons (pv 0) (pa_cons (pe_slice sl_tupN (pv 0) (po_some pe_int) po_none) pa_nil))) (own := [("one", 1), ("other", 2)]) (tt := tYes) (blkOk_by (N := nRis) (sc := defScope sRis) (by decide +kernel)) ⟨rfl, by decide +kernel, rfl⟩ (fun _ _ _ _ _ _ _ => pg_tupB (K := K) (n := 2) rfl rfl (pgs_cons (pg_name (i := 1) scRis.nd rfl (.inl rfl)) (pgs_cons (pg_name (i := 2) scRis.nd rfl (.inl rfl)) pgs_nil))) (fun _ _ _ _ _ _ _ => pts_nil) (fun _ _ _ _ _ _ _ => (pe_cmpR op_lt (pv 1) (pv 2) (nomark _)))))), ?_⟩
    refine ⟨_, rfl, _, rfl, _, rfl, a, _, rfl, ha, fun p H1 s1 hp => ?_⟩
    rw [cut_tail] at hp
    have k1 : Ke Nof H H1 := .same s1
    have tg1 := k1.tabs _ tg
    refine ⟨a, p, _, _, rfl, .inr ⟨.of (s1 _ _ ha), .of hp, tg1, fun H2 tb => ?_⟩⟩
    have k2 : Ke Nof H1 H2 := .tabbed tg1 tb
    refine aa_zipT (xs := ns.map V.int) (ys := (ns.drop 1).map V.int) (by rw [List.length_map, List.length_map, List.length_drop]; omega) (Pv := fun i H' => Ke Nof H1 H' ∧ ∀ (j : Nat) (x y : Int), j < i → ns[j]? = some x → (ns.drop 1)[j]? = some y → x < y) ⟨k2, fun j x y h => absurd h (Nat.not_lt_zero _)⟩ (fun i H' k => ⟨.of (k.1.tups _ _ (s1 _ _ ha)), .of (k.1.tups _ _ hp)⟩) ?_ ?_
    · rintro i x y T' H3 hx hy ⟨k3, pv⟩ nT
      obtain ⟨z, hz, rfl⟩ := at_int hx
      obtain ⟨z2, hz2, rfl⟩ := at_int hy
      refine ⟨T', _, rfl, .of upd_same, rfl, _, _, rfl, _, _, rfl, rfl, rfl, ?_⟩
      have k4 : Ke Nof H1 (upd H3 T' (.tup [.int z, .int z2])) := k3.trans (.same (same_new nT))
      refine ⟨_, rfl, _, rfl, _, _, rfl, rfl, ?_⟩
      by_cases lt : z < z2
      · refine .inr ⟨?_, k4, fun j x y hj h1 h2 => ?_⟩
        · show V.bl (decide (z < z2)) = V.bl true
          rw [decide_eq_true lt]
        · rcases Nat.lt_or_ge j i with g | g
          · exact pv j x y g h1 h2
          · have ej : j = i := by omega
            subst ej
            rw [hz] at h1
            rw [hz2] at h2
            cases h1
            cases h2
            exact lt
      · refine .inl ⟨?_, q _ _ ⟨fun h => (nomatch h), fun h => absurd (up_at h hz hz2) lt⟩ (k1.trans k4)⟩
        show V.bl (decide (z < z2)) = V.bl false
        rw [decide_eq_false lt]
    · rintro H3 ⟨k3, pv⟩
      refine q _ _ ⟨fun _ => up_of fun j x y h1 h2 => pv j x y ?_ h1 h2, fun _ => rfl⟩ (k1.trans k3)
      rw [List.length_map]
      exact (List.getElem?_eq_some_iff.mp h2).1
abbrev sHop : Stmt := topS 6
abbrev nHop : List Str := ["says", "say"]
theorem scHop : FnScope nHop ["says"] (defScope sHop) := ⟨rfl, rfl, rfl, by decide +kernel, rfl, by decide +kernel, by decide +kernel⟩
def spHoG (Po : Addr) : Sp := fun vs H Q _ => ∃ (v : V) (ns : List Int), vs = [v] ∧ TupI H v ns ∧ TabG H Po ∧ ∀ b H', (b = true ↔ ∃ k ∈ ns, 0 < k ∧ -k ∈ ns) → Ke Nof H H' → Q (.bl b) H'
theorem ok_hpt {f c Po : Addr} {fd : FuncData} {k : Nat} (F : FunC K "has_opposites" "has_opposites" sHop f c fd) (T : Zi mg) (TB : TabB base mg c Po) : FnOk P w K mg base CX0 (k + 3) f fd ["says"] (spHoG Po) := by
  refine F.ok scHop (fun vs H Q E h => ?_) (fun A outer s H vs Q E hr h => ?_)
  · obtain ⟨v, ns, rfl, _⟩ := h
    rfl
  · obtain ⟨v, ns, rfl, ⟨a, rfl, ha⟩, tg, q⟩ := h
    refine ⟨_, (pss_one (ps_ret (Gx.pe_any hr (by rfl) T.z_any rfl scHop.nd TB rfl (pi_tup (pv 0)) (own := [("say", 1)]) (g := gName 1) (blkOk_by (N := nHop) (sc := defScope sHop) (by decide +kernel)) ⟨rfl, by decide +kernel, rfl⟩ (fun _ _ _ _ _ _ _ => pg_name (i := 1) scHop.nd rfl (.inl rfl)) (fun _ _ _ _ _ _ _ => (pts_one (pt_cmpR op_gt (pv 1) pe_int (nomark _)))) (fun _ _ _ _ _ _ _ => (pe_cmpR (op_in_seqB (K := K) rfl) (pe_un un_neg (pv 1)) (pv 0) (by rfl)))))), ?_⟩
    refine ⟨_, rfl, a, rfl, ⟨_, .of ha⟩, tg, fun H1 tb => ?_⟩
    have k1 : Ke Nof H H1 := .tabbed tg tb
    refine Gx.aa_tup (xs := ns.map V.int) (Pv := fun i H' => Ke Nof H H' ∧ ∀ (j : Nat) (x : Int), j < i → ns[j]? = some x → ¬ (0 < x ∧ -x ∈ ns)) ⟨k1, fun j x h => absurd h (Nat.not_lt_zero _)⟩ (fun i H' _ p => .of (p.1.tups _ _ ha)) ?_ ?_
    · rintro i x H' hx ⟨k2, pv⟩
      obtain ⟨z, hz, rfl⟩ := at_int hx
      have more : ¬ (0 < z ∧ -z ∈ ns) → ∀ (j : Nat) (x : Int), j < i + 1 → ns[j]? = some x → ¬ (0 < x ∧ -x ∈ ns) := fun nz j x hj h1 => by
        rcases Nat.lt_or_ge j i with g | g
        · exact pv j x g h1
        · have ej : j = i := by omega
          subst ej
          rw [hz] at h1
          cases h1
          exact nz
      refine ⟨rfl, _, rfl, _, _, rfl, rfl, decide (z > 0), rfl, ?_⟩
      by_cases z0 : 0 < z
      · rw [decide_eq_true (show z > 0 from z0)]
        refine ⟨_, rfl, _, rfl, _, rfl, a, _, rfl, .inr (.of (k2.tups _ _ ha)), rfl, ints_flat ns, ?_⟩
        cases e : inV (.int (-z)) (ns.map V.int) with
        | false =>
          refine .inr ⟨?_, k2, more fun h => ?_⟩
          · rfl
          · rw [(in_ints _ _).mpr h.2] at e
            cases e
        | true =>
          exact .inl ⟨rfl, q _ _ ⟨fun _ => ⟨z, List.mem_of_getElem? hz, z0, (in_ints _ _).mp e⟩, fun _ => rfl⟩ k2⟩
      · rw [decide_eq_false (show ¬ z > 0 from z0)]
        exact ⟨k2, more fun h => z0 h.1⟩
    · rintro H' ⟨k2, pv⟩
      rw [List.length_map] at pv
      refine q _ _ ⟨fun h => (nomatch h), fun h => ?_⟩ k2
      obtain ⟨k, hk, h⟩ := h
      obtain ⟨j, hj⟩ := List.getElem?_of_mem hk
      exact absurd h (pv j k (List.getElem?_eq_some_iff.mp hj).1 hj)
abbrev sIcl : Stmt := topS 7
abbrev nIcl : List Str := ["thing", "say"]
theorem scIcl : FnScope nIcl ["thing"] (defScope sIcl) := ⟨rfl, rfl, rfl, by decide +kernel, rfl, by decide +kernel, by decide +kernel⟩
def spClG (Pc Pr Po : Addr) : Sp := fun vs H Q _ => ∃ (f0 : Addr → Prop) (v : V) (d : PyData), vs = [v] ∧ OdV f0 H v d ∧ (∀ ds, d = .tuple ds → ds.length ≤ 60) ∧ TabG H Pc ∧ TabG H Pr ∧ TabG H Po ∧ ∀ b H', (b = true ↔ ClD d) → Ke Nof H H' → Q (.bl b) H'
theorem no_cl {d : PyData} (h : ∀ ds, d ≠ .tuple ds) : (false = true ↔ ClD d) := ⟨fun z => (nomatch z), fun ⟨_, e, _⟩ => absurd e (h _)⟩
theorem opp_of {ns : List Int} (h : ∀ k ∈ ns, k ≠ 0 ∧ -8 ≤ k ∧ k ≤ 8) : (∃ k ∈ ns, 0 < k ∧ -k ∈ ns) ↔ ¬ ∀ k ∈ ns, -k ∉ ns := by
  constructor
  · rintro ⟨k, hk, _, h2⟩ z
    exact z k hk h2
  · intro z
    apply Classical.byContradiction
    intro n
    refine z fun k hk hn => ?_
    obtain ⟨k0, _⟩ := h k hk
    rcases Int.lt_or_gt_of_ne k0 with g | g
    · exact n ⟨-k, hn, by omega, by rw [Int.neg_neg]; exact hk⟩
    · exact n ⟨k, hk, g, hn⟩
theorem ok_icl {f c Pc Pr Po fS fR fH : Addr} {fd fdS fdR fdH : FuncData} {k : Nat} (F : FunC K "is_claim" "is_claim" sIcl f c fd) (T : Zi mg) (TB : TabB base mg c Pc) (FS : Fun K "is_say" "is_say" sSay fS fdS) (bS : Binds K fdS ["thing"] []) (gS : mg "is_say" = some (.ref fS)) (GS : FnOk P w K mg base CX0 2 fS fdS ["thing"] spSyG)
    (kpR : PySem.W.keepIn K (.ref fR) = true) (bR : Binds K fdR ["says"] []) (gR : mg "is_rising" = some (.ref fR)) (GR : FnOk P w K mg base CX0 3 fR fdR ["says"] (spRiG Pr))
    (kpH : PySem.W.keepIn K (.ref fH) = true) (bH : Binds K fdH ["says"] []) (gH : mg "has_opposites" = some (.ref fH)) (GH : FnOk P w K mg base CX0 3 fH fdH ["says"] (spHoG Po)) :
    FnOk P w K mg base CX0 (k + 5) f fd ["thing"] (spClG Pc Pr Po) := by
  refine F.ok scIcl (fun vs H Q E h => ?_) (fun A outer s H vs Q E hr h => ?_)
  · obtain ⟨f0, v, d, rfl, _⟩ := h
    rfl
  · obtain ⟨f0, v, d, rfl, hv, _, t1, t2, t3, q⟩ := h
    have hr3 : Room (2 + 1) _ := hr.mono (by omega)
    have hr4 : Room 4 _ := hr.mono (by omega)
    refine ⟨_, (pss_cons (ps_if (pt_not (pt_val (pe_callB call_isi (by rfl) T.z_isinstance (by decide +kernel) (pa_cons (pv 0) (pa_cons (pe_bltn (v := .ty "tuple") (u := .type "tuple") (by rfl) T.z_tuple (by decide +kernel) rfl) pa_nil))))) (pss_one (ps_ret pe_bl)) pss_nil)
      (pss_cons (ps_if (pt_not (pt_val (pe_cl (Gx.pe_all hr4 (by rfl) T.z_all rfl scIcl.nd TB rfl (pi_tup (pv 0)) (own := [("say", 1)]) (g := gName 1) (tt := tYes) (blkOk_by (N := nIcl) (sc := defScope sIcl) (by decide +kernel)) ⟨rfl, by decide +kernel, rfl⟩ (fun _ _ _ _ _ _ _ => pg_name (i := 1) scIcl.nd rfl (.inl rfl)) (fun _ _ _ _ _ _ _ => pts_nil) (fun _ _ _ _ _ _ _ => pe_call GS (Gx.room_gen hr3) (by rfl) gS FS.kp bS .nil pass0 (pa_cons (pv 1) pa_nil)))))) (pss_one (ps_ret pe_bl)) pss_nil)
      (pss_one (ps_ret (pe_and (pe_call GR hr3 (by rfl) gR kpR bR .nil pass0 (pa_cons (pv 0) pa_nil)) (pe_one (pe_not (pe_call GH hr3 (by rfl) gH kpH bH .nil pass0 (pa_cons (pv 0) pa_nil))))))))), ?_⟩
    have t := hv.ty (K := K)
    cases d with
    | int n => exact ⟨_, rfl, v, .ty "tuple", .type "int", .type "tuple", false, rfl, .ty _, t, kit_ty (by decide +kernel), _, rfl, q _ _ (no_cl fun _ => nofun) (.refl _ _)⟩
    | bool b => exact ⟨_, rfl, v, .ty "tuple", .type "bool", .type "tuple", false, rfl, .ty _, t, kit_ty (by decide +kernel), _, rfl, q _ _ (no_cl fun _ => nofun) (.refl _ _)⟩
    | none => exact ⟨_, rfl, v, .ty "tuple", .type "NoneType", .type "tuple", false, rfl, .ty _, t, kit_ty (by decide +kernel), _, rfl, q _ _ (no_cl fun _ => nofun) (.refl _ _)⟩
    | str x => exact ⟨_, rfl, v, .ty "tuple", .type "str", .type "tuple", false, rfl, .ty _, t, kit_ty (by decide +kernel), _, rfl, q _ _ (no_cl fun _ => nofun) (.refl _ _)⟩
    | list x => exact ⟨_, rfl, v, .ty "tuple", .type "list", .type "tuple", false, rfl, .ty _, t, kit_ty (by decide +kernel), _, rfl, q _ _ (no_cl fun _ => nofun) (.refl _ _)⟩
    | dict x => cases hv
    | tuple ds =>
      cases id hv with
      | tup ha od =>
        rename_i a xs
        refine ⟨_, rfl, .ref a, .ty "tuple", .type "tuple", .type "tuple", true, rfl, .ty _, t, kit_ty (by decide +kernel), _, rfl, ?_⟩
        refine ⟨fun v H' => Ke Nof H H' ∧ ((v = .bl true ∧ ∀ d ∈ ds, sayD d = true) ∨ (v = .bl false ∧ ∃ d ∈ ds, sayD d = false)), fun v H2 ⟨k2, w⟩ => ?_, _, rfl, a, rfl, ⟨_, .of ha⟩, t1, fun H1 tb => ?_⟩
        · rcases w with ⟨rfl, al⟩ | ⟨rfl, d, hd, no⟩
          · obtain ⟨ns, rfl, sy⟩ := says_of al
            have ex := od_is od
            subst ex
            have tv : TupI H2 (.ref a) ns := ⟨a, rfl, k2.tups _ _ ha⟩
            refine ⟨true, rfl, ?_⟩
            refine ⟨_, rfl, .ref a, ns, rfl, tv, k2.tabs _ t2, fun b1 H3 hb1 k3 => ⟨b1, rfl, ?_⟩⟩
            cases b1 with
            | false =>
              refine q _ _ ⟨fun z => (nomatch z), fun z => ?_⟩ (k2.trans k3)
              obtain ⟨ms, e, c⟩ := z
              rw [← int_inj (PyData.tuple.inj e)] at c
              exact hb1.mpr c.up
            | true =>
              have k23 := k2.trans k3
              refine ⟨_, rfl, .ref a, ns, rfl, tv.ke k3, k23.tabs _ t3, fun b2 H4 hb2 k4 => ⟨_, rfl, ?_⟩⟩
              refine q _ _ ?_ (k23.trans k4)
              rw [opp_of sy] at hb2
              cases b2 with
              | true =>
                refine ⟨fun z => (nomatch z), fun z => ?_⟩
                obtain ⟨ms, e, c⟩ := z
                rw [← int_inj (PyData.tuple.inj e)] at c
                exact absurd c.opp (hb2.mp rfl)
              | false =>
                refine ⟨fun _ => ⟨ns, rfl, hb1.mp rfl, sy, ?_⟩, fun _ => rfl⟩
                apply Classical.byContradiction
                intro z
                cases hb2.mpr z
          · exact ⟨false, rfl, q _ _ ⟨fun z => (nomatch z), fun z => absurd z (no_say hd no)⟩ k2⟩
        have k1 : Ke Nof H H1 := .tabbed t1 tb
        refine Gx.aa_tup (xs := xs) (stopb := false) (Q := fun v H' => Ke Nof H H' ∧ ((v = .bl true ∧ ∀ d ∈ ds, sayD d = true) ∨ (v = .bl false ∧ ∃ d ∈ ds, sayD d = false))) (Pv := fun i H' => Ke Nof H H' ∧ ∀ (j : Nat) (d : PyData), j < i → ds[j]? = some d → sayD d = true) ⟨k1, fun j d h => absurd h (Nat.not_lt_zero _)⟩ (fun i H' _ p => .of (p.1.tups _ _ ha)) ?_ ?_
        · rintro i x H' hx ⟨k2, pv⟩
          obtain ⟨d, hd, ox⟩ := (od.ke k2.all).at hx
          refine ⟨rfl, _, rfl, f0, x, d, rfl, ox, ?_⟩
          cases e : sayD d with
          | false => exact .inl ⟨rfl, k2, .inr ⟨rfl, d, List.mem_of_getElem? hd, e⟩⟩
          | true =>
            refine .inr ⟨rfl, k2, fun j d' hj h1 => ?_⟩
            rcases Nat.lt_or_ge j i with g | g
            · exact pv j d' g h1
            · have ej : j = i := by omega
              subst ej
              rw [hd] at h1
              cases h1
              exact e
        · rintro H' ⟨k2, pv⟩
          refine ⟨k2, .inl ⟨rfl, fun d hd => ?_⟩⟩
          obtain ⟨j, hj⟩ := List.getElem?_of_mem hd
          exact pv j d (by rw [od.len]; exact (List.getElem?_eq_some_iff.mp hj).1) hj
end
end Kc
namespace Kc
open PySem PySem.Spec PyProof.Rows L2 GxR Nw Dr Kp Se Od
/-- len(s), s a set of whole numbers -/
theorem cr_lenS {X : Cx} : CallR X (.builtin "len") (fun xs H Q => ∃ (a : Addr) (S : Int → Bool) (n : Nat), xs = [V.ref a] ∧ H a = some (SetO X.w a S n) ∧ ∀ ks : List Int, ks.Nodup → (∀ k, S k = true ↔ k ∈ ks) → ks.length = n → Q (.int (n : Nat)) H) := by
  intro pins s σ H xs us Q I r h
  obtain ⟨a, S, n, rfl, ha, q⟩ := h
  have R := setO_get I ha
  rw [Vals.ref1 r]
  obtain ⟨o, es, ep, t, ho, hex, hd, g, nd, hm, hb, hf, hn, _⟩ := R
  refine call_len_set ho hex hd hf (by unfold scanBound at hb; omega) ⟨.int (n : Nat), H, I.tok _, ⟨_, by rw [hn]⟩, q _ nd hm (by rw [List.length_map, Array.length_toList]; exact hn)⟩
theorem up_unique : ∀ {xs ys : List Int}, xs.Pairwise (· < ·) → ys.Pairwise (· < ·) → (∀ j, j ∈ xs ↔ j ∈ ys) → xs = ys
  | [], [], _, _, _ => rfl
  | [], y :: r, _, _, h => absurd ((h y).mpr List.mem_cons_self) (by simp)
  | x :: r, [], _, _, h => absurd ((h x).mp List.mem_cons_self) (by simp)
  | x :: r, y :: t, hx, hy, h => by
    obtain ⟨x1, x2⟩ := List.pairwise_cons.mp hx
    obtain ⟨y1, y2⟩ := List.pairwise_cons.mp hy
    have e : x = y := by
      rcases List.mem_cons.mp ((h x).mp List.mem_cons_self) with e | m
      · exact e
      · rcases List.mem_cons.mp ((h y).mpr List.mem_cons_self) with e | m2
        · exact e.symm
        · have := y1 x m
          have := x1 y m2
          omega
    subst e
    rw [up_unique x2 y2 fun j => ⟨fun hj => ?_, fun hj => ?_⟩]
    · rcases List.mem_cons.mp ((h j).mp (List.mem_cons_of_mem _ hj)) with e | m
      · have := x1 j hj
        omega
      · exact m
    · rcases List.mem_cons.mp ((h j).mpr (List.mem_cons_of_mem _ hj)) with e | m
      · have := y1 j hj
        omega
      · exact m
theorem nd_le : ∀ {ks as : List Int}, ks.Nodup → (∀ k ∈ ks, k ∈ as) → ks.length ≤ as.length
  | [], _, _, _ => Nat.zero_le _
  | k :: r, as, nd, h => by
    obtain ⟨n1, n2⟩ := List.nodup_cons.mp nd
    have hk := h k List.mem_cons_self
    have ih := nd_le (ks := r) (as := as.erase k) n2 fun x hx => (List.mem_erase_of_ne (show x ≠ k from fun e => n1 (by rw [← e]; exact hx))).mpr (h x (List.mem_cons_of_mem _ hx))
    rw [List.length_erase_of_mem hk] at ih
    have : 0 < as.length := List.length_pos_of_mem hk
    rw [List.length_cons]
    omega
def ab (k : Int) : Int := if k < 0 then -k else k
theorem ab_eq {a b : Int} (h : ab a = ab b) : a = b ∨ a = -b := by
  unfold ab at h
  split at h <;> split at h <;> omega
theorem ab_neg (a : Int) : ab (-a) = ab a := by
  unfold ab
  split <;> split <;> omega
/-- the things are unlike just where no say is with its opposite -/
theorem card {ns ks : List Int} {n : Nat} (up : ns.Pairwise (· < ·)) (nz : ∀ k ∈ ns, k ≠ 0) (nd : ks.Nodup) (me : ∀ k, k ∈ ns.map ab ↔ k ∈ ks) (hn : ks.length = n) : n = ns.length ↔ ∀ k ∈ ns, -k ∉ ns := by
  constructor
  · intro e k hk hm
    have le := nd_le (ks := ks) (as := (ns.erase k).map ab) nd fun x hx => by
      obtain ⟨y, hy, rfl⟩ := List.mem_map.mp ((me x).mpr hx)
      by_cases z : y = k
      · subst z
        exact List.mem_map.mpr ⟨-y, (List.mem_erase_of_ne (show -y ≠ y from fun e => nz y hk (by omega))).mpr hm, ab_neg y⟩
      · exact List.mem_map.mpr ⟨y, (List.mem_erase_of_ne z).mpr hy, rfl⟩
    rw [List.length_map, List.length_erase_of_mem hk] at le
    have : 0 < ns.length := List.length_pos_of_mem hk
    omega
  · intro op
    have nd2 : (ns.map ab).Nodup := by
      refine List.pairwise_map.mpr (List.Pairwise.imp_of_mem (fun {a b} ha hb lt e => ?_) up)
      rcases ab_eq e with z | z
      · omega
      · exact op b hb (z ▸ ha)
    have l1 := nd_le nd2 fun k hk => (me k).mp hk
    have l2 := nd_le nd fun k hk => (me k).mpr hk
    rw [List.length_map] at l1 l2
    omega
theorem ints_eqv : ∀ {l m : List Int}, PyData.eqv (.list (l.map PyData.int)) (.list (m.map PyData.int)) = true ↔ l = m := fun {l m} => by
  show PyData.eqvAll (l.map PyData.int) (m.map PyData.int) = true ↔ l = m
  induction l generalizing m with
  | nil =>
    cases m with
    | nil => exact ⟨fun _ => rfl, fun _ => rfl⟩
    | cons a r => simp [PyData.eqvAll]
  | cons a r ih =>
    cases m with
    | nil => simp [PyData.eqvAll]
    | cons b t =>
      simp only [List.map_cons, PyData.eqvAll, Bool.and_eq_true, ih, List.cons.injEq]
      simp [PyData.eqv]
structure Zj (mg : Str → Option Value) : Prop where
  z_len : mg "len" = none
  z_list : mg "list" = none
  z_set : mg "set" = none
  z_sorted : mg "sorted" = none
  z_abs : mg "abs" = none
  z_isinstance : mg "isinstance" = none
  z_tuple : mg "tuple" = none
  z_int : mg "int" = none
  z_bool : mg "bool" = none
section
variable {P : Program} {w : World} {K : PySem.W.Frag} {mg : Str → Option Value} {base : Heap}
abbrev sSwh : Stmt := topS 13
theorem scSwh : FnScope ["thing"] ["thing"] (defScope sSwh) := ⟨rfl, rfl, rfl, by decide +kernel, rfl, by decide +kernel, by decide +kernel⟩
theorem ok_swh {f : Addr} {fd : FuncData} {k : Nat} (F : Fun K "_law_swhole" "_law_swhole" sSwh f fd) (T : Zj mg) : FnOk P w K mg base CX0 (k + 1) f fd ["thing"] spWhG := by
  refine F.ok scSwh (fun vs H Q E h => ?_) (fun cdv A outer s H vs Q E hr h => ?_)
  · obtain ⟨f0, v, d, rfl, _⟩ := h
    rfl
  · obtain ⟨f0, v, d, rfl, hv, q⟩ := h
    refine ⟨_, (pss_one (ps_ret (pe_and (pe_callB call_isi (by rfl) T.z_isinstance (by decide +kernel) (pa_cons (pv 0) (pa_cons (pe_bltn (v := .ty "int") (u := .type "int") (by rfl) T.z_int (by decide +kernel) rfl) pa_nil))) (pe_one (pe_not (pe_callB call_isi (by rfl) T.z_isinstance (by decide +kernel) (pa_cons (pv 0) (pa_cons (pe_bltn (v := .ty "bool") (u := .type "bool") (by rfl) T.z_bool (by decide +kernel) rfl) pa_nil)))))))), ?_⟩
    have t := hv.ty (K := K)
    cases d with
    | int n => exact ⟨_, rfl, v, .ty "int", .type "int", .type "int", true, rfl, .ty _, t, kit_ty (by decide +kernel), _, rfl, _, rfl, v, .ty "bool", .type "int", .type "bool", false, rfl, .ty _, t, kit_ty (by decide +kernel), _, rfl, q⟩
    | bool b => exact ⟨_, rfl, v, .ty "int", .type "bool", .type "int", true, rfl, .ty _, t, kit_ty (by decide +kernel), _, rfl, _, rfl, v, .ty "bool", .type "bool", .type "bool", true, rfl, .ty _, t, kit_ty (by decide +kernel), _, rfl, q⟩
    | none => exact ⟨_, rfl, v, .ty "int", .type "NoneType", .type "int", false, rfl, .ty _, t, kit_ty (by decide +kernel), _, rfl, q⟩
    | str x => exact ⟨_, rfl, v, .ty "int", .type "str", .type "int", false, rfl, .ty _, t, kit_ty (by decide +kernel), _, rfl, q⟩
    | list x => exact ⟨_, rfl, v, .ty "int", .type "list", .type "int", false, rfl, .ty _, t, kit_ty (by decide +kernel), _, rfl, q⟩
    | tuple x => exact ⟨_, rfl, v, .ty "int", .type "tuple", .type "int", false, rfl, .ty _, t, kit_ty (by decide +kernel), _, rfl, q⟩
    | dict x => cases hv
abbrev sIbk : Stmt := topS 8
abbrev nIbk : List Str := ["thing", "claim"]
theorem scIbk : FnScope nIbk ["thing"] (defScope sIbk) := ⟨rfl, rfl, rfl, by decide +kernel, rfl, by decide +kernel, by decide +kernel⟩
def L60 (d : PyData) : Prop := ∀ ds, d = .tuple ds → ds.length ≤ 60
def spBoG (Pb Pc Pr Po : Addr) : Sp := fun vs H Q _ => ∃ (f0 : Addr → Prop) (v : V) (d : PyData), vs = [v] ∧ OdV f0 H v d ∧ (∀ ds, d = .tuple ds → ds.length ≤ 16 → ∀ e ∈ ds, L60 e) ∧ TabG H Pb ∧ TabG H Pc ∧ TabG H Pr ∧ TabG H Po ∧ ∀ b H', (b = true ↔ BkD d) → Ke Nof H H' → Q (.bl b) H'
theorem no_bk {d : PyData} (h : ∀ ds, d ≠ .tuple ds) : (false = true ↔ BkD d) := ⟨fun z => (nomatch z), fun ⟨_, e, _⟩ => absurd e (h _)⟩
theorem ok_ibk {f c Pb Pc Pr Po fC : Addr} {fd fdC : FuncData} {k : Nat} {tk : Tok} (F : FunC K "is_book" "is_book" sIbk f c fd) (T : Zi mg) (M16 : mg "MOST_CLAIMS" = some (.int 16 tk)) (TB : TabB base mg c Pb)
    (kpC : PySem.W.keepIn K (.ref fC) = true) (bC : Binds K fdC ["thing"] []) (gC : mg "is_claim" = some (.ref fC)) (GC : FnOk P w K mg base CX0 5 fC fdC ["thing"] (spClG Pc Pr Po)) :
    FnOk P w K mg base CX0 (k + 8) f fd ["thing"] (spBoG Pb Pc Pr Po) := by
  refine F.ok scIbk (fun vs H Q E h => ?_) (fun A outer s H vs Q E hr h => ?_)
  · obtain ⟨f0, v, d, rfl, _⟩ := h
    rfl
  · obtain ⟨f0, v, d, rfl, hv, l6, t0, t1, t2, t3, q⟩ := h
    have hr6 : Room (5 + 1) _ := hr.mono (by omega)
    have hr7 : Room 7 _ := hr.mono (by omega)
    refine ⟨_, (pss_cons (ps_if (pt_not (pt_val (pe_callB call_isi (by rfl) T.z_isinstance (by decide +kernel) (pa_cons (pv 0) (pa_cons (pe_bltn (v := .ty "tuple") (u := .type "tuple") (by rfl) T.z_tuple (by decide +kernel) rfl) pa_nil))))) (pss_one (ps_ret pe_bl)) pss_nil)
      (pss_one (ps_ret (pe_and (pe_chain op_le op_le pe_int (pe_callB call_len_seq (by rfl) T.z_len (by decide +kernel) (pa_cons (pv 0) pa_nil)) (pe_glob (v := .int 16) rfl M16 ⟨_, rfl⟩)) (pe_one (pe_cl (Gx.pe_all hr7 (by rfl) T.z_all rfl scIbk.nd TB rfl (pi_tup (pv 0)) (own := [("claim", 1)]) (g := gName 1) (tt := tYes) (blkOk_by (N := nIbk) (sc := defScope sIbk) (by decide +kernel)) ⟨rfl, by decide +kernel, rfl⟩ (fun _ _ _ _ _ _ _ => pg_name (i := 1) scIbk.nd rfl (.inl rfl)) (fun _ _ _ _ _ _ _ => pts_nil) (fun _ _ _ _ _ _ _ => pe_call GC (Gx.room_gen hr6) (by rfl) gC kpC bC .nil pass0 (pa_cons (pv 1) pa_nil))))))))), ?_⟩
    have t := hv.ty (K := K)
    cases d with
    | int n => exact ⟨_, rfl, v, .ty "tuple", .type "int", .type "tuple", false, rfl, .ty _, t, kit_ty (by decide +kernel), _, rfl, q _ _ (no_bk fun _ => nofun) (.refl _ _)⟩
    | bool b => exact ⟨_, rfl, v, .ty "tuple", .type "bool", .type "tuple", false, rfl, .ty _, t, kit_ty (by decide +kernel), _, rfl, q _ _ (no_bk fun _ => nofun) (.refl _ _)⟩
    | none => exact ⟨_, rfl, v, .ty "tuple", .type "NoneType", .type "tuple", false, rfl, .ty _, t, kit_ty (by decide +kernel), _, rfl, q _ _ (no_bk fun _ => nofun) (.refl _ _)⟩
    | str x => exact ⟨_, rfl, v, .ty "tuple", .type "str", .type "tuple", false, rfl, .ty _, t, kit_ty (by decide +kernel), _, rfl, q _ _ (no_bk fun _ => nofun) (.refl _ _)⟩
    | list x => exact ⟨_, rfl, v, .ty "tuple", .type "list", .type "tuple", false, rfl, .ty _, t, kit_ty (by decide +kernel), _, rfl, q _ _ (no_bk fun _ => nofun) (.refl _ _)⟩
    | dict x => cases hv
    | tuple ds =>
      cases id hv with
      | tup ha od =>
        rename_i a xs
        have lx := od.len
        refine ⟨_, rfl, .ref a, .ty "tuple", .type "tuple", .type "tuple", true, rfl, .ty _, t, kit_ty (by decide +kernel), _, rfl, ?_⟩
        refine ⟨_, rfl, a, _, rfl, .inr (.of ha), _, _, rfl, rfl, decide (1 ≤ (xs.length : Int)), rfl, ?_⟩
        by_cases h1 : 1 ≤ (xs.length : Int)
        · rw [decide_eq_true h1]
          refine ⟨_, _, rfl, rfl, decide ((xs.length : Int) ≤ 16), rfl, ?_⟩
          by_cases h2 : (xs.length : Int) ≤ 16
          · rw [decide_eq_true h2]
            have lo : 1 ≤ ds.length := by omega
            have hi : ds.length ≤ 16 := by omega
            refine ⟨fun v H' => Ke Nof H H' ∧ ((v = .bl true ∧ ∀ e ∈ ds, ClD e) ∨ (v = .bl false ∧ ∃ e ∈ ds, ¬ ClD e)), fun v H2 ⟨k2, w⟩ => ?_, _, rfl, a, rfl, ⟨_, .of ha⟩, t0, fun H1 tb => ?_⟩
            · rcases w with ⟨rfl, al⟩ | ⟨rfl, e, he, no⟩
              · exact q _ _ ⟨fun _ => ⟨ds, rfl, lo, hi, al⟩, fun _ => rfl⟩ k2
              · refine q _ _ ⟨fun z => (nomatch z), fun z => ?_⟩ k2
                obtain ⟨es, ee, _, _, al⟩ := z
                rw [← PyData.tuple.inj ee] at al
                exact absurd (al e he) no
            have k1 : Ke Nof H H1 := .tabbed t0 tb
            refine Gx.aa_tup (xs := xs) (stopb := false) (Q := fun v H' => Ke Nof H H' ∧ ((v = .bl true ∧ ∀ e ∈ ds, ClD e) ∨ (v = .bl false ∧ ∃ e ∈ ds, ¬ ClD e))) (Pv := fun i H' => Ke Nof H H' ∧ ∀ (j : Nat) (d : PyData), j < i → ds[j]? = some d → ClD d) ⟨k1, fun j d h => absurd h (Nat.not_lt_zero _)⟩ (fun i H' _ p => .of (p.1.tups _ _ ha)) ?_ ?_
            · rintro i x H' hx ⟨k2, pv⟩
              obtain ⟨d, hd, ox⟩ := (od.ke k2.all).at hx
              refine ⟨rfl, _, rfl, f0, x, d, rfl, ox, l6 ds rfl hi d (List.mem_of_getElem? hd), k2.tabs _ t1, k2.tabs _ t2, k2.tabs _ t3, fun b H3 hb k3 => ?_⟩
              have k4 := k2.trans k3
              cases b with
              | false => exact .inl ⟨rfl, k4, .inr ⟨rfl, d, List.mem_of_getElem? hd, fun z => by cases hb.mpr z⟩⟩
              | true =>
                refine .inr ⟨rfl, k4, fun j d' hj h1 => ?_⟩
                rcases Nat.lt_or_ge j i with g | g
                · exact pv j d' g h1
                · have ej : j = i := by omega
                  subst ej
                  rw [hd] at h1
                  cases h1
                  exact hb.mp rfl
            · rintro H' ⟨k2, pv⟩
              refine ⟨k2, .inl ⟨rfl, fun d hd => ?_⟩⟩
              obtain ⟨j, hj⟩ := List.getElem?_of_mem hd
              exact pv j d (by rw [lx]; exact (List.getElem?_eq_some_iff.mp hj).1) hj
          · rw [decide_eq_false h2]
            refine q _ _ ⟨fun z => (nomatch z), fun z => ?_⟩ (.refl _ _)
            obtain ⟨es, ee, _, hi, _⟩ := z
            rw [← PyData.tuple.inj ee] at hi
            omega
        · rw [decide_eq_false h1]
          refine ⟨false, rfl, q _ _ ⟨fun z => (nomatch z), fun z => ?_⟩ (.refl _ _)⟩
          obtain ⟨es, ee, lo, _, _⟩ := z
          rw [← PyData.tuple.inj ee] at lo
          omega
end
end Kc
namespace Kc
open PySem PySem.Spec PyProof.Rows L2 GxR Nw Dr Kp Se Od
section
variable {P : Program} {w : World} {K : PySem.W.Frag} {mg : Str → Option Value} {base : Heap}
abbrev sSic : Stmt := topS 16
abbrev nSic : List Str := ["thing", "say"]
theorem scSic : FnScope nSic ["thing"] (defScope sSic) := ⟨rfl, rfl, rfl, by decide +kernel, rfl, by decide +kernel, by decide +kernel⟩
theorem ok_sic {f fW Pc Pr Po : Addr} {fd fdW : FuncData} {k : Nat} (F : Fun K "_law_s_is_claim" "_law_s_is_claim" sSic f fd) (T : Zj mg) (FW : Fun K "_law_swhole" "_law_swhole" sSwh fW fdW) (bW : Binds K fdW ["thing"] []) (gW : mg "_law_swhole" = some (.ref fW)) (GW : FnOk P w K mg base CX0 1 fW fdW ["thing"] spWhG) :
    FnOk P w K mg base CX0 (k + 2) f fd ["thing"] (spClG Pc Pr Po) := by
  refine F.ok scSic (fun vs H Q E h => ?_) (fun cdv A outer s H vs Q E hr h => ?_)
  · obtain ⟨f0, v, d, rfl, _⟩ := h
    rfl
  · obtain ⟨f0, v, d, rfl, hv, l60, _, _, _, q⟩ := h
    have hr1 : Room 1 _ := hr.mono (by omega)
    refine ⟨_, (pss_cons (ps_if (pt_not (pt_val (pe_callB call_isi (by rfl) T.z_isinstance (by decide +kernel) (pa_cons (pv 0) (pa_cons (pe_bltn (v := .ty "tuple") (u := .type "tuple") (by rfl) T.z_tuple (by decide +kernel) rfl) pa_nil))))) (pss_one (ps_ret pe_bl)) pss_nil)
      (Evl.pss_cut (ps_for PassesOwn.never rfl (pi_tup (pv 0)) (pg_name (i := 1) scSic.nd rfl (.inl rfl)) (pss_one (ps_if (PW.pt (pw_or (pt_not (pt_val (pe_call GW hr1 (by rfl) gW FW.kp bW .nil pass0 (pa_cons (pv 1) pa_nil)))) (pw_or (pt_cmpR op_eq (pv 1) pe_int (nomark _)) (pw_or1 (pt_cmpR op_gt (pe_callB call_abs (by rfl) T.z_abs (by decide +kernel) (pa_cons (pv 1) pa_nil)) pe_int (nomark _)))))) (pss_one (ps_ret pe_bl)) pss_nil)))
      (pss_cons (ps_if (pt_cmpR (op_neD hr.units) (pe_callTy call_list_ofN (by rfl) T.z_list (by decide +kernel) (pa_cons (pv 0) pa_nil)) (pe_callB (St.cr_sortedS rfl) (by rfl) T.z_sorted (by decide +kernel) (pa_cons (pe_callTy (St2.cr_setT rfl) (by rfl) T.z_set (by decide +kernel) (pa_cons (pv 0) pa_nil)) pa_nil)) (nomark _)) (pss_one (ps_ret pe_bl)) pss_nil)
      (pss_one (ps_ret (pe_cmpR op_eq (pe_callB cr_lenS (by rfl) T.z_len (by decide +kernel) (pa_cons (pe_callTy (St.cr_setL rfl) (by rfl) T.z_set (by decide +kernel) (pa_cons (pe_lc (own := [("say", 1)]) (g := (gName 1)) (tt := tYes) rfl scSic.nd (pi_tup (pv 0)) (blkOk_by (N := nSic) (sc := defScope sSic) (by decide +kernel)) (fun _ _ _ _ _ => (pg_name (i := 1) scSic.nd rfl (.inl rfl))) (fun _ _ _ _ _ => pts_nil) (fun _ _ _ _ _ => (pe_callB call_abs (by rfl) T.z_abs (by decide +kernel) (pa_cons (pv 1) pa_nil)))) pa_nil)) pa_nil)) (pe_callB call_len_seq (by rfl) T.z_len (by decide +kernel) (pa_cons (pv 0) pa_nil)) (nomark _))))))), ?_⟩
    have t := hv.ty (K := K)
    cases d with
    | int n => exact ⟨_, rfl, v, .ty "tuple", .type "int", .type "tuple", false, rfl, .ty _, t, kit_ty (by decide +kernel), _, rfl, q _ _ (no_cl fun _ => nofun) (.refl _ _)⟩
    | bool b => exact ⟨_, rfl, v, .ty "tuple", .type "bool", .type "tuple", false, rfl, .ty _, t, kit_ty (by decide +kernel), _, rfl, q _ _ (no_cl fun _ => nofun) (.refl _ _)⟩
    | none => exact ⟨_, rfl, v, .ty "tuple", .type "NoneType", .type "tuple", false, rfl, .ty _, t, kit_ty (by decide +kernel), _, rfl, q _ _ (no_cl fun _ => nofun) (.refl _ _)⟩
    | str x => exact ⟨_, rfl, v, .ty "tuple", .type "str", .type "tuple", false, rfl, .ty _, t, kit_ty (by decide +kernel), _, rfl, q _ _ (no_cl fun _ => nofun) (.refl _ _)⟩
    | list x => exact ⟨_, rfl, v, .ty "tuple", .type "list", .type "tuple", false, rfl, .ty _, t, kit_ty (by decide +kernel), _, rfl, q _ _ (no_cl fun _ => nofun) (.refl _ _)⟩
    | dict x => cases hv
    | tuple ds =>
      cases id hv with
      | tup ha od =>
        rename_i a xs
        have lx := od.len
        refine ⟨_, rfl, .ref a, .ty "tuple", .type "tuple", .type "tuple", true, rfl, .ty _, t, kit_ty (by decide +kernel), _, rfl, ?_⟩
        refine Evl.q_cut (M := fun σ' H' => ∃ y, σ' = [some (.ref a), y] ∧ H' = H ∧ ∀ d ∈ ds, sayD d = true) ?_ ?_
        · refine ⟨_, rfl, a, rfl, ⟨_, .of ha⟩, for_tup (K := K) (a := a) (xs := xs) (Pv := fun i σ H' => ∃ y, σ = [some (.ref a), y] ∧ H' = H ∧ ∀ (j : Nat) (d : PyData), j < i → ds[j]? = some d → sayD d = true) ?_ (fun i σ H' _ p => ?_) ?_ ?_⟩
          · exact ⟨none, rfl, rfl, fun j d h => absurd h (Nat.not_lt_zero _)⟩
          · obtain ⟨_, _, rfl, _⟩ := p
            exact .of ha
          · rintro i x σ H1 hx ⟨y, rfl, rfl, pv⟩
            obtain ⟨d, hd, ox⟩ := od.at hx
            have no : sayD d = false → Q (.bl false) H1 := fun e => q _ _ ⟨fun z => (nomatch z), fun z => absurd z (no_say (List.mem_of_getElem? hd) e)⟩ (.refl _ _)
            have yes : sayD d = true → ∀ (j : Nat) (d : PyData), j < i + 1 → ds[j]? = some d → sayD d = true := fun e j d' hj h1 => by
              rcases Nat.lt_or_ge j i with g | g
              · exact pv j d' g h1
              · have ej : j = i := by omega
                subst ej
                rw [hd] at h1
                cases h1
                exact e
            cases d with
            | int n =>
              cases id ox
              refine ⟨_, rfl, f0, _, .int n, rfl, ox, true, rfl, ?_⟩
              refine ⟨_, rfl, rfl, decide (V.int n = V.int 0), rfl, ?_⟩
              by_cases n0 : n = 0
              · subst n0
                exact no rfl
              · rw [decide_eq_false (fun z => n0 (V.int.inj z))]
                refine ⟨_, rfl, n, rfl, _, _, rfl, rfl, decide (ab n > 8), rfl, ?_⟩
                by_cases n8 : ab n > 8
                · rw [decide_eq_true n8]
                  refine no ?_
                  unfold ab at n8
                  simp only [sayD, Bool.and_eq_false_iff, decide_eq_false_iff_not]
                  split at n8 <;> omega
                · rw [decide_eq_false n8]
                  refine ⟨_, rfl, rfl, yes (say_int ?_)⟩
                  unfold ab at n8
                  split at n8 <;> omega
            | bool b => exact ⟨_, rfl, f0, x, _, rfl, ox, false, rfl, no rfl⟩
            | none => exact ⟨_, rfl, f0, x, _, rfl, ox, false, rfl, no rfl⟩
            | str z => exact ⟨_, rfl, f0, x, _, rfl, ox, false, rfl, no rfl⟩
            | list z => exact ⟨_, rfl, f0, x, _, rfl, ox, false, rfl, no rfl⟩
            | tuple z => exact ⟨_, rfl, f0, x, _, rfl, ox, false, rfl, no rfl⟩
            | dict z => cases ox
          · rintro σ H1 ⟨y, rfl, rfl, pv⟩
            refine ⟨y, rfl, rfl, fun d hd => ?_⟩
            obtain ⟨j, hj⟩ := List.getElem?_of_mem hd
            exact pv j d (by rw [lx]; exact (List.getElem?_eq_some_iff.mp hj).1) hj
        rintro σ' H1 ⟨y, rfl, rfl, al⟩
        obtain ⟨ns, rfl, sy⟩ := says_of al
        have ex := od_is od
        subst ex
        have l6 : ns.length ≤ 60 := by have := l60 _ rfl; rw [List.length_map] at this; exact this
        refine ⟨_, rfl, a, _, rfl, .inr (.of ha), fun L H2 nL s2 hL _ => ?_⟩
        refine ⟨_, rfl, a, ns, rfl, .of (s2 _ _ ha), l6, fun p H3 n np s3 hp ln => ?_⟩
        refine ⟨p, _, n, rfl, hp, by omega, fun ms up me lm Z H4 nZ s4 hZ _ => ?_⟩
        have hL4 := s4 _ _ (s3 _ _ hL)
        have s14 := (s2.trans s3).trans s4
        have ha4 := s14 _ _ ha
        refine ⟨.list (ns.map PyData.int), .list (ms.map PyData.int), (OdV.lst (f := Nof) hL4 (fun z => z) (od_ints ns)).dp, (OdV.lst (f := Nof) hZ (fun z => z) (od_ints ms)).dp, shaped_list (flat_ints _), shaped_list (flat_ints _), _, rfl, ?_⟩
        have me' : ∀ j, j ∈ ns ↔ j ∈ ms := fun j => by rw [me j]; simp
        cases e : PyData.eqv (.list (ns.map PyData.int)) (.list (ms.map PyData.int)) with
        | false =>
          refine q _ _ ⟨fun z => (nomatch z), fun z => ?_⟩ (.same s14)
          obtain ⟨us, ee, c⟩ := z
          rw [← int_inj (PyData.tuple.inj ee)] at c
          rw [ints_eqv.mpr (up_unique c.up up me')] at e
          cases e
        | true =>
          have en := ints_eqv.mp e
          rw [← en] at up
          refine ⟨_, rfl, a, rfl, ⟨_, .of ha4⟩, fun D nD => ?_⟩
          refine lc_tup (xs := ns.map V.int) (Pv := fun j H' => Same H4 H' ∧ H' D = some (.lst (((ns.take j).map ab).map V.int))) ⟨same_new nD, upd_same⟩ (fun j H' _ p => .of (p.1 _ _ ha4)) ?_ ?_
          · rintro j x H5 hx ⟨s5, hD⟩
            obtain ⟨z, hz, rfl⟩ := at_int hx
            have lj := (List.getElem?_eq_some_iff.mp hz).1
            refine ⟨rfl, _, rfl, z, rfl, _, hD, small1000 (by rw [List.length_map, List.length_map, List.length_take]; omega), fun b o w => ?_, ?_⟩
            · rw [upd_ne (ne_of_none w nD)]
              exact s5 _ _ w
            · rw [upd_same, List.take_add_one, hz, List.map_append, List.map_append]
              rfl
          · rintro H5 ⟨s5, hD⟩
            rw [List.length_map, List.take_length] at hD
            refine ⟨D, ns.map ab, rfl, .of hD, by rw [List.length_map]; exact l6, fun p2 H6 n2 np2 s6 hp2 l2 => ?_⟩
            refine ⟨p2, _, n2, rfl, hp2, fun ks nd me2 lk => ?_⟩
            have s16 := (s14.trans s5).trans s6
            refine ⟨_, rfl, a, _, rfl, .inr (.of (s16 _ _ ha)), rfl, ?_⟩
            have cd := card up (fun k hk => (sy k hk).1) nd (fun k => by rw [← me2 k]; simp) lk
            refine q _ _ ?_ (.same s16)
            rw [decide_eq_true_iff, List.length_map]
            constructor
            · intro z
              have := V.int.inj z
              exact ⟨ns, rfl, up, sy, cd.mp (by omega)⟩
            · rintro ⟨us, ee, c⟩
              rw [← int_inj (PyData.tuple.inj ee)] at c
              rw [cd.mpr c.opp]
end
end Kc
namespace Kc
open PySem PySem.Spec PyProof.Rows L2 GxR Nw Dr Kp Se Od
structure Zq (mg : Str → Option Value) : Prop where
  z_len : mg "len" = none
  z_all : mg "all" = none
  z_isinstance : mg "isinstance" = none
  z_tuple : mg "tuple" = none
section
variable {P : Program} {w : World} {K : PySem.W.Frag} {mg : Str → Option Value} {base : Heap}
abbrev sSib : Stmt := topS 18
abbrev nSib : List Str := ["thing", "one"]
theorem scSib : FnScope nSib ["thing"] (defScope sSib) := ⟨rfl, rfl, rfl, by decide +kernel, rfl, by decide +kernel, by decide +kernel⟩
theorem ok_sib {f fC Pb Pc Pr Po : Addr} {fd fdC : FuncData} {k : Nat} (F : Fun K "_law_s_is_book" "_law_s_is_book" sSib f fd) (T : Zq mg) (FC : Fun K "_law_s_is_claim" "_law_s_is_claim" sSic fC fdC) (bC : Binds K fdC ["thing"] []) (gC : mg "_law_s_is_claim" = some (.ref fC)) (GC : FnOk P w K mg base CX0 2 fC fdC ["thing"] (spClG Pc Pr Po)) :
    FnOk P w K mg base CX0 (k + 3) f fd ["thing"] (spBoG Pb Pc Pr Po) := by
  refine F.ok scSib (fun vs H Q E h => ?_) (fun cdv A outer s H vs Q E hr h => ?_)
  · obtain ⟨f0, v, d, rfl, _⟩ := h
    rfl
  · obtain ⟨f0, v, d, rfl, hv, l6, t0, t1, t2, t3, q⟩ := h
    have hr2 : Room 2 _ := hr.mono (by omega)
    refine ⟨_, (pss_cons (ps_if (PW.pt (pw_or (pt_not (pt_val (pe_callB call_isi (by rfl) T.z_isinstance (by decide +kernel) (pa_cons (pv 0) (pa_cons (pe_bltn (v := .ty "tuple") (u := .type "tuple") (by rfl) T.z_tuple (by decide +kernel) rfl) pa_nil))))) (pw_or1 (pt_not (pt_chain op_lt op_lt pe_int (pe_callB call_len_seq (by rfl) T.z_len (by decide +kernel) (pa_cons (pv 0) pa_nil)) pe_int))))) (pss_one (ps_ret pe_bl)) pss_nil)
      (pss_one (ps_ret (pe_callB (cr_all rfl) (by rfl) T.z_all (by decide +kernel) (pa_cons (pe_lc (own := [("one", 1)]) (g := (gName 1)) (tt := tYes) rfl scSib.nd (pi_tup (pv 0)) (blkOk_by (N := nSib) (sc := defScope sSib) (by decide +kernel)) (fun _ _ _ _ _ => (pg_name (i := 1) scSib.nd rfl (.inl rfl))) (fun _ _ _ _ _ => pts_nil) (fun _ _ _ _ _ => (pe_call GC hr2 (by rfl) gC FC.kp bC .nil pass0 (pa_cons (pv 1) pa_nil)))) pa_nil))))), ?_⟩
    have t := hv.ty (K := K)
    cases d with
    | int n => exact ⟨_, rfl, v, .ty "tuple", .type "int", .type "tuple", false, rfl, .ty _, t, kit_ty (by decide +kernel), _, rfl, q _ _ (no_bk fun _ => nofun) (.refl _ _)⟩
    | bool b => exact ⟨_, rfl, v, .ty "tuple", .type "bool", .type "tuple", false, rfl, .ty _, t, kit_ty (by decide +kernel), _, rfl, q _ _ (no_bk fun _ => nofun) (.refl _ _)⟩
    | none => exact ⟨_, rfl, v, .ty "tuple", .type "NoneType", .type "tuple", false, rfl, .ty _, t, kit_ty (by decide +kernel), _, rfl, q _ _ (no_bk fun _ => nofun) (.refl _ _)⟩
    | str x => exact ⟨_, rfl, v, .ty "tuple", .type "str", .type "tuple", false, rfl, .ty _, t, kit_ty (by decide +kernel), _, rfl, q _ _ (no_bk fun _ => nofun) (.refl _ _)⟩
    | list x => exact ⟨_, rfl, v, .ty "tuple", .type "list", .type "tuple", false, rfl, .ty _, t, kit_ty (by decide +kernel), _, rfl, q _ _ (no_bk fun _ => nofun) (.refl _ _)⟩
    | dict x => cases hv
    | tuple ds =>
      cases id hv with
      | tup ha od =>
        rename_i a xs
        have lx := od.len
        refine ⟨_, rfl, .ref a, .ty "tuple", .type "tuple", .type "tuple", true, rfl, .ty _, t, kit_ty (by decide +kernel), _, rfl, ?_⟩
        refine ⟨_, rfl, a, _, rfl, .inr (.of ha), _, _, rfl, rfl, decide (0 < (xs.length : Int)), rfl, ?_⟩
        by_cases h1 : 0 < (xs.length : Int)
        · rw [decide_eq_true h1]
          refine ⟨_, _, rfl, rfl, decide ((xs.length : Int) < 17), rfl, ?_⟩
          by_cases h2 : (xs.length : Int) < 17
          · rw [decide_eq_true h2]
            have lo : 1 ≤ ds.length := by omega
            have hi : ds.length ≤ 16 := by omega
            refine ⟨_, rfl, a, rfl, ⟨_, .of ha⟩, fun D nD => ?_⟩
            refine lc_tup (xs := xs) (Pv := fun j H' => Ke Nof H H' ∧ ∃ bs : List Bool, H' D = some (.lst (bs.map V.bl)) ∧ bs.length = j ∧ ∀ (i : Nat) (b : Bool) (d : PyData), bs[i]? = some b → ds[i]? = some d → (b = true ↔ ClD d)) ⟨.same (same_new nD), [], upd_same, rfl, fun i b d e => by simp at e⟩ (fun j H' _ p => .of (p.1.tups _ _ ha)) ?_ ?_
            · rintro j x H5 hx ⟨k5, bs, hD, lb, hb⟩
              obtain ⟨d, hd, ox⟩ := (od.ke k5.all).at hx
              have lj := (List.getElem?_eq_some_iff.mp hx).1
              refine ⟨rfl, _, rfl, f0, x, d, rfl, ox, l6 ds rfl hi d (List.mem_of_getElem? hd), k5.tabs _ t1, k5.tabs _ t2, k5.tabs _ t3, fun b H6 cb k6 => ?_⟩
              have hD6 := k6.lst hD fun z => z
              refine ⟨_, hD6, small1000 (by rw [List.length_map]; omega), (k5.trans k6).write (.of nD) hD6, bs ++ [b], by rw [upd_same, List.map_append]; rfl, by rw [List.length_append, lb]; rfl, fun i c e h1 h2 => ?_⟩
              rcases Nat.lt_or_ge i bs.length with g | g
              · rw [List.getElem?_append_left g] at h1
                exact hb i c e h1 h2
              · rw [List.getElem?_append_right g] at h1
                have ei : i = j := by
                  have := (List.getElem?_eq_some_iff.mp h1).1
                  simp at this
                  omega
                subst ei
                rw [hd] at h2
                cases h2
                rw [← lb, Nat.sub_self] at h1
                cases h1
                exact cb
            · rintro H5 ⟨k5, bs, hD, lb, hb⟩
              refine ⟨D, bs, rfl, .of hD, q _ _ ?_ k5⟩
              rw [List.all_eq_true]
              constructor
              · intro al
                refine ⟨ds, rfl, lo, hi, fun e he => ?_⟩
                obtain ⟨i, hi'⟩ := List.getElem?_of_mem he
                have li := (List.getElem?_eq_some_iff.mp hi').1
                have hb' := List.getElem?_eq_getElem (show i < bs.length by omega)
                exact (hb i _ e hb' hi').mp (al _ (List.mem_of_getElem? hb'))
              · rintro ⟨es, ee, _, _, al⟩ b hb'
                rw [← PyData.tuple.inj ee] at al
                obtain ⟨i, hi'⟩ := List.getElem?_of_mem hb'
                have li := (List.getElem?_eq_some_iff.mp hi').1
                have hd := List.getElem?_eq_getElem (show i < ds.length by omega)
                exact (hb i b _ hi' hd).mpr (al _ (List.mem_of_getElem? hd))
          · rw [decide_eq_false h2]
            refine q _ _ ⟨fun z => (nomatch z), fun z => ?_⟩ (.refl _ _)
            obtain ⟨es, ee, _, hi, _⟩ := z
            rw [← PyData.tuple.inj ee] at hi
            omega
        · rw [decide_eq_false h1]
          refine ⟨false, rfl, q _ _ ⟨fun z => (nomatch z), fun z => ?_⟩ (.refl _ _)⟩
          obtain ⟨es, ee, lo, _, _⟩ := z
          rw [← PyData.tuple.inj ee] at lo
          omega
end
end Kc
namespace Rvt
open PySem PySem.Spec PyProof.Rows L2
/-! ### t[::-1], t a tuple -/
theorem pick_part (xs : Array Value) : ∀ k, k ≤ xs.size → ((List.range k).filterMap fun (m : Nat) => xs[(((xs.size : Int) - 1) + (m : Int) * (-1)).toNat]?) = xs.toList.reverse.take k
  | 0, _ => rfl
  | k + 1, h => by
    rw [List.range_succ, List.filterMap_append, pick_part xs k (by omega), List.take_add_one]
    have e : (((xs.size : Int) - 1) + (k : Int) * (-1)).toNat = xs.size - 1 - k := by omega
    have e2 : xs.toList.reverse[k]? = xs[xs.size - 1 - k]? := by
      rw [List.getElem?_reverse (by rw [Array.length_toList]; omega), Array.length_toList, Array.getElem?_toList]
    rw [e2]
    cases z : xs[xs.size - 1 - k]? with
    | none =>
      rw [List.filterMap_cons]
      simp only [e, z]
      rfl
    | some v =>
      rw [List.filterMap_cons]
      simp only [e, z]
      rfl
theorem pick_rev (xs : Array Value) : ((List.range xs.size).filterMap fun (m : Nat) => xs[(((xs.size : Int) - 1) + (m : Int) * (-1)).toNat]?) = xs.toList.reverse := by
  rw [pick_part xs xs.size (Nat.le_refl _)]
  exact List.take_of_length_le (by rw [List.length_reverse, Array.length_toList]; exact Nat.le_refl _)
section
variable {prog : Program} {w : World} {A : Around} {E : Value → Shared → Prop} {s : Shared}
theorem adjust_rev (n : Nat) : Builtin.Slice.sliceAdjust none none (-1) (n : Int) = ((n : Int) - 1, -1) := by
  unfold Builtin.Slice.sliceAdjust
  simp
theorem places_rev (n : Nat) : Builtin.Slice.slicePlaces ((n : Int) - 1) (-1) (-1) = n := by
  unfold Builtin.Slice.slicePlaces
  simp
  omega
theorem sliceApplied_rev {sl : Addr} {vs : Value} {n : Nat} {Q : Int × Int × Nat → Shared → Prop} (hs : s.heap.IsSliceOf sl .none .none vs) (ps : IsPart vs (some (-1)))
    (h : Q ((n : Int) - 1, -1, n) s) : wpAny (model prog w) A (Builtin.Slice.sliceApplied (.ref sl) (pure (n : Int))) Q E s := by
  obtain ⟨os, hos, hcs, hds⟩ := id hs
  unfold Builtin.Slice.sliceApplied Builtin.Slice.sliceFields
  refine wpAny_bind (wpAny_bind (wpAny_field hos hds (x := .none) rfl (wpAny_bind (wpAny_field hos hds (x := .none) rfl (wpAny_bind (wpAny_field hos hds (x := vs) rfl (wpAny_pure ?_)))))))
  refine wpAny_bind (HT.slicePart_ ps ?_)
  show wpAny _ _ (if ((-1 : Int) == 0) = true then _ else _) _ _ s
  rw [if_neg (by decide)]
  refine wpAny_bind (HT.slicePart_ .none (wpAny_bind (HT.slicePart_ .none (wpAny_bind (wpAny_pure ?_)))))
  show wpAny _ _ (match Builtin.Slice.sliceAdjust none none (-1) (n : Int) with | (lo, hi) => pure (lo, (-1 : Int), Builtin.Slice.slicePlaces lo hi (-1))) _ _ s
  rw [adjust_rev n]
  show wpAny _ _ (pure ((n : Int) - 1, (-1 : Int), Builtin.Slice.slicePlaces ((n : Int) - 1) (-1) (-1))) _ _ s
  rw [places_rev]
  exact wpAny_pure h
theorem getItem_tuple_rev {t sl : Addr} {items : Array Value} {vs : Value} {Q : Value → Shared → Prop} (ht : IsTup s.heap t items) (hs : s.heap.IsSliceOf sl .none .none vs) (ps : IsPart vs (some (-1)))
    (h : Q (.ref s.heap.objs.size) { s with heap := s.heap.push { cls := .type "tuple", data := .seq items.toList.reverse.toArray } })
    (hsz : items.size ≤ sizeLine) : wpAny (model prog w) A (getItem (.ref t) (.ref sl)) Q E s := by
  have htake : sizeOk (.seq items.toList.reverse.toArray) := by
    show items.toList.reverse.toArray.size ≤ sizeLine
    rw [List.size_toArray, List.length_reverse, Array.length_toList]
    exact hsz
  obtain ⟨os, hos, hcs, hds⟩ := id hs
  have hTs : s.TypeIs (.ref sl) "slice" := ⟨os, hos, hcs⟩
  unfold getItem
  try with_reducible refine wpAny_holding ?_
  first | refine wpAny_bind (wpAny_pure ?_) | skip
  refine wpAny_bind (wpAny_sequenceKey ht.typeIs (by decide) ?_)
  refine wpAny_bind (wpAny_callSpecial?_slot (name := Str.ofString "__getitem__") ht.typeIs PyProof.Rows.slot_tuple_getitem
    (wpAny_call_entry PyProof.Rows.slot_tuple_getitem ht.typeIs PyProof.Rows.entry_tuple_getitem ?_ (PyProof.Rows.args_tuple_getitem _ _)))
  show wpAny _ _ (Builtin.Tuple.tupleItemsOf (.ref t) >>= _) _ _ s
  refine wpAny_bind (PyProof.Rows.tupleItemsOf_ ht ?_)
  refine wpAny_bind (wpAny_typeOf hTs ?_)
  rw [if_pos (by decide)]
  refine wpAny_bind (sliceApplied_rev hs ps ?_)
  have hno : ¬ ((((items.size : Int) - 1) == 0 && (-1 : Int) == 1 && items.size == items.size) = true) := by
    intro q
    rw [Bool.and_eq_true, Bool.and_eq_true] at q
    exact absurd q.1.2 (by decide)
  show wpAny _ _ (if (((items.size : Int) - 1) == 0 && (-1 : Int) == 1 && items.size == items.size) = true then _ else _) _ _ s
  rw [if_neg hno, pick_rev]
  first
    | exact wpAny_bind (m := Builtin.Tuple.tupleExact _) (wpAny_newObj_type (wpAny_pure ⟨_, rfl, wpAny_pure h⟩) htake)
    | exact wpAny_bind (m := Builtin.Tuple.tupleExact _) (wpAny_newObj_type (wpAny_bind (wpAny_pure (wpAny_pure ⟨_, rfl, wpAny_pure h⟩))) htake)
    | exact wpAny_bind (wpAny_bind (m := Builtin.Tuple.tupleExact _) (wpAny_newObj_type (wpAny_pure (wpAny_pure ⟨_, rfl, wpAny_pure h⟩)) htake))
    | exact wpAny_bind (wpAny_bind (m := Builtin.Tuple.tupleExact _) (wpAny_newObj_type (wpAny_pure ⟨_, rfl, wpAny_pure h⟩) htake))
end
section
variable {X : Cx}
def tRevT (K : PySem.W.Frag) (te : TE) : TE := fun σ H Q => te σ H fun x H1 => ∃ a xs, x = .ref a ∧ SqT K H1 a xs ∧ Nw.New H1 (.tup xs.reverse) Q
theorem pe_revT {e : Expr} {te : TE} {k : Nat} {p1 p2 p3 pos : Pos} (he : PE X e te) : PE X (.Subscript e (.Slice none none (some (.UnaryOp .USub (.Constant (.int 1) k p1) p2)) p3) pos) (tRevT X.K te) := by
  refine ⟨fun pins s σ H Q I h => ?_⟩
  refine Subscript_ (thn (he.run pins s σ H _ I h) fun v s1 ⟨x, H1, I1, r1, q1⟩ => ?_)
  obtain ⟨a, xs, ex, hx, q⟩ := q1
  subst ex
  cases r1
  have hst : PO X (some (.UnaryOp .USub (.Constant (.int 1) k p1) p2)) (tPart (tUn (rU fun i => .int (-i)) (tC (.int 1)))) := po_some (pe_un un_neg pe_int)
  refine wpAny_Slice (thn (po_none.run pins s1 σ H1 (fun o H2 => o = none ∧ H2 = H1) I1 ⟨rfl, rfl⟩) fun vl s2 ⟨l, H2, I2, pl, el, e2⟩ => ?_)
  subst el e2
  refine thn (po_none.run pins s2 σ H2 (fun o H3 => o = none ∧ H3 = H2) I2 ⟨rfl, rfl⟩) fun vu s3 ⟨u, H3, I3, pu, eu, e3⟩ => ?_
  subst eu e3
  refine thn (hst.run pins s3 σ H3 (fun o H4 => o = some (-1) ∧ H4 = H3) I3 ⟨1, rfl, -1, rfl, rfl, rfl⟩) fun vs s4 ⟨o, H4, I4, ps, eo, e4⟩ => ?_
  subst eo e4
  cases pl
  cases pu
  have I5 : Inv X pins σ H4 { s4 with heap := s4.heap.push { cls := .type "slice", data := .fields #[.none, .none, vs] } } := I4.kept (t' := s4.toks) fun b ob q => Heap.get?_push_of_some _ q
  obtain ⟨its, r, ht, hz⟩ := I5.tuple hx
  have hlen := r.length
  show wpAny (model X.prog X.w) X.A (subscriptTail e (.Slice none none (some (.UnaryOp .USub (.Constant (.int 1) k p1) p2)) p3) (.ref a) (.ref s4.heap.objs.size)) (EP X pins σ Q) X.xe { s4 with heap := s4.heap.push { cls := .type "slice", data := .fields #[.none, .none, vs] } }
  refine tail_any (ops := [.ref a, .ref s4.heap.objs.size]) ht.typeIs (PyProof.Rows.slot_tuple_getitem.lookup) ?_ (by with_unfolding_all rfl)
  refine getItem_tuple_rev ht (Heap.IsSliceOf.new _ .none .none vs) ps ?_ (by rw [List.size_toArray]; omega)
  rw [List.toList_toArray]
  refine ⟨.ref _, _, I5.laid (t' := s4.toks) (o := .tup xs.reverse) (fun b ob q => Heap.get?_push_of_some _ q) (Nat.le_refl _) ?_, rfl, q.to _ (I5.hok.fresh (Nat.le_refl _))⟩
  exact ⟨by rw [List.length_reverse]; exact hz, _, r.reverse, IsTup.new _ _⟩
end
end Rvt
namespace Idt
open PySem PySem.Spec PyProof.Rows L2
/-! ### x in t, t a tuple, both by their data -/
def rInDT (K : PySem.W.Frag) : R2 := fun x y H Q => ∃ d ds, Dp K H x d ∧ Dp K H y (.tuple ds) ∧ SeqAt.shaped d = true ∧ SeqAt.shaped (.tuple ds) = true ∧ Q (.bl (ds.any fun z => PyData.eqv z d)) H
theorem op_inDT {X : Cx} (hu : X.A.units + 65 < cLine) : OpR X (compareOp .In) (rInDT X.K) := by
  intro pins s σ H x y v u Q I rx ry h
  obtain ⟨d, ds, hd, he, sd, se, q⟩ := h
  obtain ⟨as, r1⟩ := Dp.reads I d x v hd rx
  obtain ⟨bs, r2⟩ := Dp.reads I (.tuple ds) y u he ry
  exact SeqAt.in_tuple_reads r2 r1 (SeqAt.canLay_of_shaped se) (SeqAt.canLay_of_shaped sd) (room_in_shaped sd hu) ⟨.bl _, H, I, rfl, q⟩
end Idt
namespace Srm
open PySem PySem.Spec PyProof.Rows L2
/-! ### sorted(t), t a tuple of whole numbers and truths -/
theorem lt_bi (a : Bool) (b : Int) (u : Tok) : Gives (Builtin.«int.__lt__» ⟨[.bool a, .int b u], []⟩) (.val (Value.bool (decide ((if a = true then (1 : Int) else 0) < b)))) :=
  .of_wp fun M A E s Q h => by obtain ⟨hp, g, d, tk, os⟩ := s; wp_walk; exact ⟨_, rfl, h⟩
theorem gt_bi (a : Bool) (b : Int) (u : Tok) : Gives (Builtin.«int.__gt__» ⟨[.bool a, .int b u], []⟩) (.val (Value.bool (decide (b < (if a = true then (1 : Int) else 0))))) :=
  .of_wp fun M A E s Q h => by obtain ⟨hp, g, d, tk, os⟩ := s; wp_walk; exact ⟨_, rfl, h⟩
/-- a whole number or a truth -/
def Nm (v : Value) : Prop := (∃ i t, v = .int i t) ∨ ∃ b, v = .bool b
section
variable {prog : Program} {w : World} {A : Around} {s : Shared}
theorem rc_nm {x y : Value} (hx : Nm x) (hy : Nm y) : ∃ b : Bool, ∀ (E : Value → Shared → Prop) (Q : Value → Shared → Prop), Q (.bool b) s → wpAny (model prog w) A (richCompare .Lt x y) Q E s := by
  rcases hx with ⟨i, t, rfl⟩ | ⟨p, rfl⟩ <;> rcases hy with ⟨j, u, rfl⟩ | ⟨q, rfl⟩
  · exact ⟨_, fun E Q h => P.lt_int h⟩
  · exact ⟨_, fun E Q h => SeqAt.rc_sub_first_or (typeIs_int s i t) rfl (by decide) F.sub_bool_int F.slot_bool_gt_refl (call_gives F.slot_bool_gt_refl rfl F.entry_int_gt (F.args_int_gt_2 _ _) (gt_bi q i t) ⟨nofun, h⟩) (.inl rfl)⟩
  · exact ⟨_, fun E Q h => SeqAt.rc_left_or rfl (typeIs_int s j u) (by decide) F.sub_int_bool F.slot_bool_lt (call_gives F.slot_bool_lt rfl F.entry_int_lt (F.args_int_lt_2 _ _) (lt_bi p j u) ⟨nofun, h⟩) (.inl rfl)⟩
  · exact ⟨_, fun E Q h => lt_bool h⟩
theorem one_nm {f : Bool} {x y : Value} (hx : Nm x) (hy : Nm y) (same : f = true → (∃ i t j u, x = .int i t ∧ y = .int j u) ∨ ∃ p q, x = .bool p ∧ y = .bool q) : ∃ b : Bool, wpAny (model prog w) A (oneLt' f x y) (fun r s' => s' = s ∧ r = b) (fun _ _ => False) s := by
  cases f with
  | false =>
    obtain ⟨b, hb⟩ := rc_nm (prog := prog) (w := w) (A := A) (s := s) hx hy
    refine ⟨b, ?_⟩
    rw [oneLt'_eq]
    simp only [Bool.false_eq_true, if_false]
    exact wpAny_bind (hb _ _ (wpAny_truthy_bool ⟨rfl, rfl⟩))
  | true =>
    rcases same rfl with ⟨i, t, j, u, rfl, rfl⟩ | ⟨p, q, rfl, rfl⟩
    · exact ⟨_, oneLt_int ⟨rfl, rfl⟩⟩
    · exact ⟨_, PySem.W.oneLt_bool ⟨rfl, rfl⟩⟩
theorem first_nm : ∀ {vs : List Value}, (∀ v ∈ vs, Nm v) → vs.mapM firstOfTuple' = (pure (vs.map fun _ => none) : Sem _)
  | [], _ => by simp
  | v :: r, h => by
    have e : firstOfTuple' v = pure none := by
      rcases h v List.mem_cons_self with ⟨i, t, rfl⟩ | ⟨b, rfl⟩ <;> rfl
    rw [List.mapM_cons, e, first_nm fun x hx => h x (List.mem_cons_of_mem _ hx)]
    simp
def tyN : Value → Value
  | .bool _ => .type "bool"
  | _ => .type "int"
theorem type_nm : ∀ {vs : List Value}, (∀ v ∈ vs, Nm v) → vs.mapM typeOf = (pure (vs.map tyN) : Sem _)
  | [], _ => by simp
  | v :: r, h => by
    have e : typeOf v = pure (tyN v) := by
      rcases h v List.mem_cons_self with ⟨i, t, rfl⟩ | ⟨b, rfl⟩ <;> rfl
    rw [List.mapM_cons, e, type_nm fun x hx => h x (List.mem_cons_of_mem _ hx)]
    simp
theorem kind_nm {v1 v2 : Value} {vs : List Value} (h : ∀ v ∈ v1 :: v2 :: vs, Nm v) : (keyKind' (v1 :: v2 :: vs).toArray = pure oneType' ∧ ∀ v ∈ v1 :: v2 :: vs, tyN v = tyN v1) ∨ keyKind' (v1 :: v2 :: vs).toArray = pure general' := by
  rw [keyKind'_eq, List.mapM_toArray, first_nm h]
  simp only [map_pure, pure_bind]
  rw [if_neg (by simp), if_neg (by simp)]
  rw [oneTypeOnly'_eq, List.mapM_toArray, type_nm h]
  simp only [map_pure, pure_bind]
  have h0 : (List.map tyN (v1 :: v2 :: vs)).toArray[0]? = some (tyN v1) := by simp
  rw [h0]
  simp only []
  cases e : ((List.map tyN (v1 :: v2 :: vs)).toArray.all fun x => x == tyN v1) with
  | true =>
    refine .inl ⟨by simp, fun v hv => ?_⟩
    rw [List.all_toArray, List.all_map, List.all_eq_true] at e
    exact eq_of_beq (e v hv)
  | false => exact .inr (by simp)
theorem same_nm {x y : Value} (hx : Nm x) (hy : Nm y) (e : tyN x = tyN y) : (∃ i t j u, x = .int i t ∧ y = .int j u) ∨ ∃ p q, x = .bool p ∧ y = .bool q := by
  rcases hx with ⟨i, t, rfl⟩ | ⟨p, rfl⟩ <;> rcases hy with ⟨j, u, rfl⟩ | ⟨q, rfl⟩
  · exact .inl ⟨_, _, _, _, rfl, rfl⟩
  · exact absurd e (by simp [tyN])
  · exact absurd e (by simp [tyN])
  · exact .inr ⟨_, _, rfl, rfl⟩
theorem sortable_nm {a : Addr} {vs : List Value} (h : ∀ v ∈ vs, Nm v) (h2 : 2 ≤ vs.length) : Srt.Sortable prog w A s a vs := by
  intro h' _
  match vs, h, h2 with
  | v1 :: v2 :: r, h, _ =>
    rcases kind_nm h with ⟨e, al⟩ | e
    · refine ⟨oneType', fun Q E hq => by rw [e]; exact wpAny_pure hq, fun p q hp hq => ?_⟩
      exact one_nm (f := true) (h _ hp) (h _ hq) fun _ => same_nm (h _ hp) (h _ hq) ((al _ hp).trans (al _ hq).symm)
    · refine ⟨general', fun Q E hq => by rw [e]; exact wpAny_pure hq, fun p q hp hq => ?_⟩
      exact one_nm (f := false) (h _ hp) (h _ hq) fun z => (nomatch z)
  | [], _, h => exact absurd h (by decide)
  | [v], _, h => exact absurd h (by simp)
end
def bkN : Value → V
  | .int i _ => .int i
  | .bool b => .bl b
  | _ => .non
def NmV (x : V) : Prop := (∃ i, x = .int i) ∨ ∃ b, x = .bl b
theorem nm_of : ∀ {xs : List V} {us : List Value}, Vals xs us → (∀ x ∈ xs, NmV x) → (∀ u ∈ us, Nm u) ∧ xs = us.map bkN
  | _, _, .nil, _ => ⟨fun u hu => (nomatch hu), rfl⟩
  | x :: xs, u :: us, .cons r t, h => by
    obtain ⟨h1, h2⟩ := nm_of t fun y hy => h y (List.mem_cons_of_mem _ hy)
    have e : Nm u ∧ x = bkN u := by
      rcases h x List.mem_cons_self with ⟨i, rfl⟩ | ⟨b, rfl⟩
      · obtain ⟨tk, rfl⟩ := r
        exact ⟨.inl ⟨_, _, rfl⟩, rfl⟩
      · cases r
        exact ⟨.inr ⟨_, rfl⟩, rfl⟩
    refine ⟨fun v hv => ?_, by rw [List.map_cons, ← e.2, ← h2]⟩
    rcases List.mem_cons.mp hv with z | z
    · rw [z]
      exact e.1
    · exact h1 v z
theorem vals_nm : ∀ {us : List Value}, (∀ u ∈ us, Nm u) → Vals (us.map bkN) us
  | [], _ => .nil
  | u :: us, h => by
    refine .cons ?_ (vals_nm fun v hv => h v (List.mem_cons_of_mem _ hv))
    rcases h u List.mem_cons_self with ⟨i, t, rfl⟩ | ⟨b, rfl⟩
    · exact ⟨t, rfl⟩
    · rfl
section
variable {X : Cx}
theorem cr_sortedM : CallR X (.builtin "sorted") (fun vs H Q => ∃ (a : Addr) (xs : List V), vs = [V.ref a] ∧ SqT X.K H a xs ∧ (∀ x ∈ xs, NmV x) ∧ ∀ ys : List V, ys.Perm xs → Nw.New H (.lst ys) Q) := by
  intro pins s σ H vs us Q I r h
  obtain ⟨a, xs, rfl, hs, hn, q⟩ := h
  obtain ⟨its, rv, ⟨o, ho, hcl, n, hd⟩, hz⟩ := I.tuple hs
  obtain ⟨u, rfl, ru⟩ := Vals.one r
  cases ru
  obtain ⟨nm, ex⟩ := nm_of rv hn
  have lz : its.length ≤ sizeLine := by rw [← Vals.length rv]; exact hz
  refine Calls.call_function_entry PyProof.Rows.kind_sorted PyProof.Rows.plain_sorted PyProof.Rows.entry_sorted (PyProof.Rows.args_sorted1 _) ?_
  unfold Builtin.«sorted»
  refine wpAny_bind (m := checkCount "sorted" 1 1 _) (wpAny_pure (wpAny_bind (wpAny_collect_seq a (.inr rfl) ho hcl hd (fun h1 k1 => ?_) (by rw [List.size_toArray]; exact lz))))
  refine wpAny_bind (wpAny_newList ?_ (by rw [List.toList_toArray]; exact lz))
  rw [List.toList_toArray]
  have at1 : (h1.push (seqObj "list" its.toArray 0)).get? h1.objs.size = some (seqObj "list" its.toArray 0) := Heap.get?_push_size _ rfl
  have up1 : ∀ b o, s.heap.get? b = some o → b ≠ h1.objs.size ∧ (h1.push (seqObj "list" its.toArray 0)).get? b = some o := fun b o e => ⟨Nat.ne_of_lt (Heap.lt_size (k1 b o e)), Heap.get?_push_of_some _ (k1 b o e)⟩
  refine wpAny_bind (wpAny_holding (wpAny_call_entry PyProof.Rows.slot_list_sort ⟨_, at1, rfl⟩ PyProof.Rows.entry_list_sort (Srt.list_sort_any at1 lz (fun h2 => sortable_nm nm h2) fun out pm => ⟨_, rfl, ?_⟩) (PyProof.Rows.args_list_sort _)))
  obtain ⟨ep, hat⟩ := PyProof.Rows.sortedHeap_at (out := out.toArray) at1
  have gone : s.heap.get? h1.objs.size = none := by
    cases e : s.heap.get? h1.objs.size with
    | none => rfl
    | some o => exact absurd (Heap.lt_size (k1 _ o e)) (Nat.lt_irrefl _)
  have hn' : H h1.objs.size = none := I.hok.gone gone
  have old : ∀ b o, s.heap.get? b = some o → (PyProof.Rows.sortedHeap (h1.push (seqObj "list" its.toArray 0)) h1.objs.size its out.toArray).get? b = some o := fun b o e => by
    rw [PyProof.Rows.sortedHeap_old (up1 b o e).1 (Heap.lt_size (up1 b o e).2)]
    exact (up1 b o e).2
  have len : (out.map bkN).length ≤ sizeLine := by
    rw [List.length_map, pm.length_eq]
    exact lz
  have vo : Vals (out.map bkN) out := vals_nm fun v hv => nm v (pm.mem_iff.mp hv)
  refine wpAny_pure ⟨_, rfl, .ref h1.objs.size, upd H h1.objs.size (.lst (out.map bkN)), I.laidN (t' := s.toks) old gone hn' ⟨len, out, ep, vo, hat⟩, rfl, (q _ (by rw [ex]; exact pm.map bkN)).to _ hn'⟩
end
end Srm
namespace Kc
open PySem PySem.Spec PyProof.Rows L2 GxR Nw Dr Kp Se Od
theorem units65 {k : Nat} {A : Around} (hr : Room k A) : A.units + 65 < cLine := by
  have := hr.un
  omega
structure Zu (mg : Str → Option Value) : Prop where
  z_len : mg "len" = none
  z_list : mg "list" = none
  z_tuple : mg "tuple" = none
  z_sorted : mg "sorted" = none
  z_range : mg "range" = none
section
variable {P : Program} {w : World} {K : PySem.W.Frag} {mg : Str → Option Value} {base : Heap}
abbrev sSbe : Stmt := topS 17
abbrev nSbe : List Str := ["feed", "claim", "at", "found", "odd", "say", "k"]
theorem scSbe : FnScope nSbe ["feed", "claim"] (defScope sSbe) := ⟨rfl, rfl, rfl, by decide +kernel, rfl, by decide +kernel, by decide +kernel⟩
/-- the body's derivation: every rule that it needs is there; the reading is still to be written -/
theorem der_sbe {f fD : Addr} {fdD : FuncData} {cdv : Value} {A : Around} {outer : List Env} {s : Shared} {H : Hp} {E : XK} (T : Zu mg) (FD : Fun K "_law_sdraw" "_law_sdraw" sDrw fD fdD) (bD : Binds K fdD ["feed", "many"] []) (gD : mg "_law_sdraw" = some (.ref fD)) (GD : FnOk P w K mg base CX0 2 fD fdD ["feed", "many"] spDrw)
    (hr : Room 2 (A.deeper (envOfC "_law_s_bent" (defScope sSbe) s.heap.objs.size f cdv))) : ∃ t, PSs (cxOf CX0 P w K mg base nSbe "_law_s_bent" (defScope sSbe) f cdv A outer s H E).nox (defBody sSbe) t := by
  have hr2 := hr
  exact ⟨_, (Evl.pss_cut (ps_set (i := 2) scSbe.nd rfl (.inl rfl) (pe_call GD hr2 (by rfl) gD FD.kp bD .nil pass0 (pa_cons (pv 0) (pa_cons (pe_op op_add (pe_callB call_len_seq (by rfl) T.z_len (by decide +kernel) (pa_cons (pv 1) pa_nil)) pe_int) pa_nil))))
      (Evl.pss_cut (ps_set (i := 3) scSbe.nd rfl (.inl rfl) (pe_lstN (pa_cons (Rvt.pe_revT (pv 1)) (pa_cons (pe_op op_catTN (pv 1) (pe_slice sl_tupN (pv 1) po_none (po_some pe_int))) (pa_cons (pe_op op_catTN (pe_slice sl_tupN (pv 1) po_none (po_some pe_int)) (pv 1)) (pa_cons (pe_callTy call_list_ofN (by rfl) T.z_list (by decide +kernel) (pa_cons (pv 1) pa_nil)) pa_nil))))))
      (Evl.pss_cut (ps_set (i := 3) scSbe.nd rfl (.inl rfl) (pe_op op_catN (pv 3) (pe_lstN (pa_cons (pe_tupN (pa_cons (pv 1) pa_nil)) (pa_cons pe_non (pa_cons pe_int (pa_cons pe_bl (pa_cons pe_str (pa_cons pe_str (pa_cons (pe_lstN pa_nil) (pa_cons (pe_tupN pa_nil) pa_nil)))))))))))
      (Evl.pss_cut (ps_for PassesOwn.never rfl (pi_tup (pe_tupN (pa_cons pe_int (pa_cons pe_int (pa_cons (pe_un un_neg pe_int) (pa_cons (pe_op op_pow pe_int pe_int) (pa_cons (pe_op op_sub pe_int (pe_op op_pow pe_int pe_int)) (pa_cons pe_bl (pa_cons pe_bl (pa_cons pe_non (pa_cons pe_str (pa_cons (pe_lstN (pa_cons pe_int pa_nil)) (pa_cons (pe_tupN (pa_cons pe_int pa_nil)) (pa_cons pe_int (pa_cons (pe_un un_neg pe_int) (pa_cons pe_int (pa_cons (pe_un un_neg pe_int) pa_nil))))))))))))))))) (pg_name (i := 4) scSbe.nd rfl (.inl rfl)) (Evl.pss_cut (ps_expr (pe_bm PySem.F.plainAttrs_list PySem.F.slot_list_append PySem.F.type_list_append mt_append (pv 3) (pa_cons (pe_op op_catTN (pe_op op_catTN (pe_slice sl_tupN (pv 1) po_none (po_some (pv 2))) (pe_tupN (pa_cons (pv 4) pa_nil))) (pe_slice sl_tupN (pv 1) (po_some (pv 2)) po_none)) pa_nil)))
      (Evl.pss_cut (ps_if (pt_cmpR (Idt.op_inDT (units65 hr)) (pv 4) (pe_tupN (pa_cons pe_int (pa_cons (pe_un un_neg pe_int) (pa_cons pe_int (pa_cons (pe_un un_neg pe_int) (pa_cons pe_int (pa_cons (pe_un un_neg pe_int) (pa_cons pe_int pa_nil)))))))) (by rfl)) (pss_one (ps_expr (pe_bm PySem.F.plainAttrs_list PySem.F.slot_list_append PySem.F.type_list_append mt_append (pv 3) (pa_cons (pe_callTy call_tuple_ofN (by rfl) T.z_tuple (by decide +kernel) (pa_cons (pe_callB Srm.cr_sortedM (by rfl) T.z_sorted (by decide +kernel) (pa_cons (pe_op op_catTN (pv 1) (pe_tupN (pa_cons (pv 4) pa_nil))) pa_nil)) pa_nil)) pa_nil)))) pss_nil)
      (pss_one (ps_expr (pe_bm PySem.F.plainAttrs_list PySem.F.slot_list_append PySem.F.type_list_append mt_append (pv 3) (pa_cons (pe_op op_catTN (pe_op op_catTN (pe_slice sl_tupN (pv 1) po_none (po_some (pv 2))) (pe_tupN (pa_cons (pv 4) pa_nil))) (pe_slice sl_tupN (pv 1) (po_some (pe_op op_add (pv 2) pe_int)) po_none)) pa_nil)))))))
      (Evl.pss_cut (ps_for PassesOwn.never rfl (pi_tup (pv 1)) (pg_name (i := 5) scSbe.nd rfl (.inl rfl)) (pss_one (ps_expr (pe_bm PySem.F.plainAttrs_list PySem.F.slot_list_append PySem.F.type_list_append mt_append (pv 3) (pa_cons (pe_callTy call_tuple_ofN (by rfl) T.z_tuple (by decide +kernel) (pa_cons (pe_callB Srm.cr_sortedM (by rfl) T.z_sorted (by decide +kernel) (pa_cons (pe_op op_catTN (pv 1) (pe_tupN (pa_cons (pe_op op_sub pe_int (pv 5)) pa_nil))) pa_nil)) pa_nil)) pa_nil)))))
      (Evl.pss_cut (ps_if (pt_cmpR op_gt (pe_callB call_len_seq (by rfl) T.z_len (by decide +kernel) (pa_cons (pv 1) pa_nil)) pe_int (nomark _)) (pss_one (ps_expr (pe_bm PySem.F.plainAttrs_list PySem.F.slot_list_append PySem.F.type_list_append mt_append (pv 3) (pa_cons (pe_callTy call_tuple_ofN (by rfl) T.z_tuple (by decide +kernel) (pa_cons (pe_callB Srm.cr_sortedM (by rfl) T.z_sorted (by decide +kernel) (pa_cons (pe_op op_catTN (pv 1) (pe_tupN (pa_cons (pe_op op_sub pe_int (pe_ix ix_tup (pv 1) pe_int (fun _ _ => rfl))) (pa_cons (pe_op op_sub pe_int (pe_ix ix_tup (pv 1) (pe_un un_neg pe_int) (fun _ _ => rfl))) pa_nil)))) pa_nil)) pa_nil)) pa_nil)))) pss_nil)
      (pss_cons (ps_expr (pe_bm PySem.F.plainAttrs_list PySem.F.slot_list_append PySem.F.type_list_append mt_append (pv 3) (pa_cons (pe_callTy call_tuple_ofN (by rfl) T.z_tuple (by decide +kernel) (pa_cons (pe_lc (own := [("k", 6)]) (g := (gName 6))  rfl scSbe.nd (pi_range2 (by rfl) T.z_range (pa_cons (pe_un un_neg pe_int) (pa_cons pe_int pa_nil))) (blkOk_by (N := nSbe) (sc := defScope sSbe) (by decide +kernel)) (fun _ _ _ _ _ => (pg_name (i := 6) scSbe.nd rfl (.inl rfl))) (fun _ _ _ _ _ => (pts_one (pt_cmpR op_ne (pv 6) pe_int (nomark _)))) (fun _ _ _ _ _ => (pv 6))) pa_nil)) pa_nil)))
      (pss_one (ps_ret (pv 3))))))))))⟩
end
end Kc
namespace Rpa
open PySem PySem.Spec PyProof.Rows L2
/-- repr of anything by its data, where nothing is being shown -/
theorem cr_reprA {X : Cx} (hg : X.A.guards = some []) (hu : X.A.units + 70 < cLine) : CallR X (.builtin "repr") (fun xs H Q => ∃ (x : V) (d : PyData), xs = [x] ∧ Dp X.K H x d ∧ d.showable = true ∧ d.hasDict = false ∧ d.depth ≤ 64 ∧ d.shown.length ≤ sizeLine ∧ Q (.str d.shown) H) := by
  intro pins s σ H xs us Q I r h
  obtain ⟨x, d, rfl, hd, hs, hn, dp, sz, q⟩ := h
  obtain ⟨u, rfl, hu'⟩ := vals1 r
  cases id hd with
  | non =>
    obtain rfl : u = .none := hu'
    exact PySem.P.repr_of_none ⟨.str _, H, I.tok _, ⟨_, rfl⟩, q⟩
  | bl b =>
    obtain rfl : u = .bool b := hu'
    exact PySem.P.repr_of_bool ⟨.str _, H, I.tok _, ⟨_, rfl⟩, q⟩
  | int i =>
    obtain ⟨t, rfl⟩ := hu'
    exact PySem.P.repr_of_int (by simpa [PyData.showable] using hs) ⟨.str _, H, I.tok _, ⟨_, rfl⟩, q⟩
  | str z =>
    obtain ⟨t, rfl⟩ := hu'
    exact PySem.P.repr_of_str ⟨.str _, H, I.tok _, ⟨_, rfl⟩, q⟩ sz
  | lst _ _ =>
    rename_i a _ _ _ _
    obtain rfl : u = .ref a := hu'
    obtain ⟨as, r1⟩ := Dp.reads I _ (.ref a) (.ref a) hd rfl
    exact repr_of_reads' r1 hs (PyData.noDict_hsm hn) hg (by omega) (fun _ _ e => e) (fun h' u tk k => ⟨.str _, H, I.turnedL (ch := []) (fun b o _ e => k b o e) (fun b hb => absurd hb (by simp)), ⟨_, rfl⟩, q⟩) sz
  | tup _ _ =>
    rename_i a _ _ _ _
    obtain rfl : u = .ref a := hu'
    obtain ⟨as, r1⟩ := Dp.reads I _ (.ref a) (.ref a) hd rfl
    exact repr_of_reads' r1 hs (PyData.noDict_hsm hn) hg (by omega) (fun _ _ e => e) (fun h' u tk k => ⟨.str _, H, I.turnedL (ch := []) (fun b o _ e => k b o e) (fun b hb => absurd hb (by simp)), ⟨_, rfl⟩, q⟩) sz
end Rpa
namespace Kc
open PySem PySem.Spec PyProof.Rows L2 GxR Nw Dr Kp Se Od
/-! ### sizes of what is bent -/
/-- an item of a bent claim -/
structure It (d : PyData) : Prop where
  sm : Sm 45 d
  dp : d.depth ≤ 4
  ln : L60 d
/-- a bent claim, or any other thing that is asked -/
structure Bent (d : PyData) : Prop where
  sm : Sm 2000 d
  dp : d.depth ≤ 5
  ln : L60 d
  in_ : ∀ ds, d = .tuple ds → ∀ e ∈ ds, L60 e
theorem no_l60 {d : PyData} (h : ∀ ds, d ≠ .tuple ds) : L60 d := fun ds e => absurd e (h ds)
theorem it_int {n : Int} (h0 : -60 ≤ n) (h1 : n < 70) : It (.int n) := ⟨(sm_int h0 h1).mono (by decide), by show 0 ≤ 4; decide, no_l60 fun _ => nofun⟩
theorem it_big : It (.int (10 ^ 39)) := ⟨⟨by decide +kernel, rfl, by show 0 ≤ 6; decide, by decide +kernel⟩, by show 0 ≤ 4; decide, no_l60 fun _ => nofun⟩
theorem it_low : It (.int (0 - 10 ^ 39)) := ⟨⟨by decide +kernel, rfl, by show 0 ≤ 6; decide, by decide +kernel⟩, by show 0 ≤ 4; decide, no_l60 fun _ => nofun⟩
theorem it_bool (b : Bool) : It (.bool b) := ⟨⟨rfl, rfl, by show 0 ≤ 6; decide, by cases b <;> decide +kernel⟩, by show 0 ≤ 4; decide, no_l60 fun _ => nofun⟩
theorem it_none : It .none := ⟨⟨rfl, rfl, by show 0 ≤ 6; decide, by decide +kernel⟩, by show 0 ≤ 4; decide, no_l60 fun _ => nofun⟩
theorem it_two : It (.str "2") := ⟨⟨rfl, rfl, by show 0 ≤ 6; decide, by decide +kernel⟩, by show 0 ≤ 4; decide, no_l60 fun _ => nofun⟩
theorem it_list : It (.list [.int 1]) := ⟨⟨by decide +kernel, rfl, by decide, by decide +kernel⟩, by decide, no_l60 fun _ => nofun⟩
theorem it_tup : It (.tuple [.int 1]) := ⟨⟨by decide +kernel, rfl, by decide, by decide +kernel⟩, by decide, fun ds e => by rw [← PyData.tuple.inj e]; decide⟩
theorem dp_all : ∀ {ds : List PyData} {n : Nat}, (∀ d ∈ ds, d.depth ≤ n) → PyData.depthAll ds ≤ n
  | [], _, _ => Nat.zero_le _
  | d :: r, n, h => Nat.max_le.mpr ⟨h d List.mem_cons_self, dp_all (ds := r) fun x hx => h x (List.mem_cons_of_mem _ hx)⟩
theorem It.bent {d : PyData} (h : It d) (i : ∀ ds, d = .tuple ds → ∀ e ∈ ds, L60 e) : Bent d := ⟨h.sm.mono (by decide), by have := h.dp; omega, h.ln, i⟩
theorem bent_tuple {ds : List PyData} (h : ∀ d ∈ ds, It d) (l : ds.length ≤ 20) : Bent (.tuple ds) where
  sm := (SmAll.of fun d hd => ⟨(h d hd).sm, Nat.le_trans (h d hd).dp (by decide)⟩).tuple l (by decide)
  dp := by
    show PyData.depthAll ds + 1 ≤ 5
    have := dp_all fun d hd => (h d hd).dp
    omega
  ln := fun es e => by rw [← PyData.tuple.inj e]; omega
  in_ := fun es e d hd => (h d (by rw [PyData.tuple.inj e]; exact hd)).ln
theorem bent_list {ds : List PyData} (h : ∀ d ∈ ds, It d) (l : ds.length ≤ 20) : Bent (.list ds) where
  sm := (SmAll.of fun d hd => ⟨(h d hd).sm, Nat.le_trans (h d hd).dp (by decide)⟩).list l (by decide)
  dp := by
    show PyData.depthAll ds + 1 ≤ 5
    have := dp_all fun d hd => (h d hd).dp
    omega
  ln := no_l60 fun _ => nofun
  in_ := fun es e => absurd e nofun
theorem it_says {ns : List Int} (h : ∀ k ∈ ns, -60 ≤ k ∧ k < 70) : ∀ d ∈ ns.map PyData.int, It d := fun d hd => by
  obtain ⟨n, hn, rfl⟩ := List.mem_map.mp hd
  exact it_int (h n hn).1 (h n hn).2
end Kc
namespace Kc
open PySem PySem.Spec PyProof.Rows L2 GxR Nw Dr Kp Se Od
theorem ke_wrG {G : Addr → Prop} {H : Hp} {p : Addr} {xs : List V} {o : HO} (g : G p) (hp : H p = some (.lst xs)) : Ke G H (upd H p o) := by
  refine ⟨fun b x e _ m => ?_, fun Q hQ => ?_, fun b ys e => ?_⟩
  · rw [upd_ne (show b ≠ p from fun z => m (by rw [z]; exact g))]
    exact e
  · obtain ⟨qs, e, t⟩ := hQ
    exact ⟨qs, by rw [upd_ne fun z => by rw [z, hp] at e; cases e]; exact e, t⟩
  · rw [upd_ne fun z => by rw [z, hp] at e; cases e]
    exact e
def nmD : V → PyData
  | .int i => .int i
  | .bl b => .bool b
  | _ => .none
theorem od_nm {f : Addr → Prop} {H : Hp} : ∀ {xs : List V}, (∀ x ∈ xs, Srm.NmV x) → OdAll f H xs (xs.map nmD)
  | [], _ => .nil
  | x :: r, h => by
    have t := od_nm (f := f) (H := H) (xs := r) fun y hy => h y (List.mem_cons_of_mem _ hy)
    rcases h x List.mem_cons_self with ⟨i, rfl⟩ | ⟨b, rfl⟩
    · exact .cons (.int i) t
    · exact .cons (.bl b) t
theorem odS {f : Addr → Prop} {H H' : Hp} {vs : List V} {ds : List PyData} (h : OdAll f H vs ds) (s : Same H H') : OdAll f H' vs ds := h.ke (.same s)
theorem odVS {f : Addr → Prop} {H H' : Hp} {v : V} {d : PyData} (h : OdV f H v d) (s : Same H H') : OdV f H' v d := h.ke (.same s)
theorem odC {f : Addr → Prop} {H : Hp} {us : List V} {ds : List PyData} (h : OdAll f H us ds) (lo hi : Option Int) : ∃ es, OdAll f H (cutV us lo hi) es ∧ es.length ≤ ds.length ∧ ∀ d ∈ es, d ∈ ds := by
  refine ⟨_, (h.drop (HT.sIx us.length 0 lo)).take (HT.sIx us.length us.length hi - HT.sIx us.length 0 lo), ?_, fun d hd => List.mem_of_mem_drop (List.mem_of_mem_take hd)⟩
  rw [List.length_take, List.length_drop]
  omega
theorem cut_len (us : List V) (lo hi : Option Int) : (cutV us lo hi).length ≤ us.length := by
  unfold cutV
  rw [List.length_take, List.length_drop]
  omega
theorem it_claim {cs : List Int} (c : IsCl cs) : It (.tuple (cs.map PyData.int)) where
  sm := (SmAll.of (B := 3) fun d hd => by
    obtain ⟨n, hn, rfl⟩ := List.mem_map.mp hd
    have := c.says n hn
    exact ⟨sm_int (by omega) (by omega), Nat.zero_le _⟩).tuple (n := 8) (by rw [List.length_map]; exact c.len) (by decide)
  dp := by
    show PyData.depthAll (cs.map PyData.int) + 1 ≤ 4
    have := flat_depth _ (flat_ints cs)
    omega
  ln := fun ds e => by
    have := c.len
    rw [← PyData.tuple.inj e, List.length_map]
    omega
theorem cl_it {cs : List Int} (c : IsCl cs) : ∀ d ∈ cs.map PyData.int, It d := it_says fun k hk => by
  have := c.says k hk
  omega
theorem cat_it {as bs : List PyData} (h : ∀ d ∈ as, It d) (g : ∀ d ∈ bs, It d) : ∀ d ∈ as ++ bs, It d := fun d hd => (List.mem_append.mp hd).elim (h d) (g d)
theorem one_it {d : PyData} (h : It d) : ∀ e ∈ [d], It e := fun e he => by rw [List.mem_singleton.mp he]; exact h
theorem it_str1 : It (.str "1") := ⟨⟨rfl, rfl, by show 0 ≤ 6; decide, by decide +kernel⟩, by show 0 ≤ 4; decide, no_l60 fun _ => nofun⟩
theorem it_str0 : It (.str "") := ⟨⟨rfl, rfl, by show 0 ≤ 6; decide, by decide +kernel⟩, by show 0 ≤ 4; decide, no_l60 fun _ => nofun⟩
def ds15 : List PyData := [.int 0, .int 9, .int (-9), .int (10 ^ 39), .int (0 - 10 ^ 39), .bool true, .bool false, .none, .str "2", .list [.int 1], .tuple [.int 1], .int 1, .int (-1), .int 8, .int (-8)]
theorem it15 : ∀ d ∈ ds15, It d := fun d hd => by
  unfold ds15 at hd
  simp only [List.mem_cons, List.not_mem_nil, or_false] at hd
  rcases hd with rfl | rfl | rfl | rfl | rfl | rfl | rfl | rfl | rfl | rfl | rfl | rfl | rfl | rfl | rfl
  · exact it_int (by omega) (by omega)
  · exact it_int (by omega) (by omega)
  · exact it_int (by omega) (by omega)
  · exact it_big
  · exact it_low
  · exact it_bool _
  · exact it_bool _
  · exact it_none
  · exact it_two
  · exact it_list
  · exact it_tup
  · exact it_int (by omega) (by omega)
  · exact it_int (by omega) (by omega)
  · exact it_int (by omega) (by omega)
  · exact it_int (by omega) (by omega)
theorem flat15 : ∀ d ∈ ds15, SeqAt.shaped d = true := by decide +kernel
/-- what has been found, at D -/
structure Gr (f c D : Addr) (B n : Nat) (us : List V) (H H' : Hp) : Prop where
  F : Feed H' f c (B + 1)
  k : Ke (· = f) H H'
  hD : H' D = some (.lst us)
  od : ∃ ds, OdAll (fun b => b = f ∨ b = D) H' us ds ∧ ∀ d ∈ ds, Bent d
  ln : us.length ≤ n
section
variable {f c D : Addr} {B n : Nat} {us : List V} {H H1 H2 : Hp}
theorem Gr.app (g : Gr f c D B n us H H1) (fr : Frs H D) (nf : D ≠ f) (nc : D ≠ c) (s : Same H1 H2) {v : V} {d : PyData} (ov : OdV (fun b => b = f ∨ b = D) H2 v d) (b : Bent d) : Gr f c D B (n + 1) (us ++ [v]) H (upd H2 D (.lst (us ++ [v]))) := by
  have hD2 := s _ _ g.hD
  obtain ⟨ds, od, bt⟩ := g.od
  have kw : Ke (fun b => b = f ∨ b = D) H2 (upd H2 D (.lst (us ++ [v]))) := ke_wrG (.inr rfl) hD2
  refine ⟨(g.F.same s).upd nf nc, (g.k.trans (.same s)).write fr hD2, upd_same, ⟨ds ++ [d], ((odS od s).cat (.one ov)).ke kw, fun e he => ?_⟩, ?_⟩
  · rcases List.mem_append.mp he with z | z
    · exact bt e z
    · rw [List.mem_singleton.mp z]
      exact b
  · rw [List.length_append]
    have := g.ln
    show us.length + 1 ≤ n + 1
    omega
theorem Gr.mono {m : Nat} (g : Gr f c D B n us H H1) (l : n ≤ m) : Gr f c D B m us H H1 := ⟨g.F, g.k, g.hD, g.od, Nat.le_trans g.ln l⟩
/-- the same with the odd things at X -/
structure Lp (f c D X : Addr) (B n : Nat) (xs us : List V) (H H' : Hp) : Prop extends Gr f c D B n us H H' where
  hX : H' X = some (.tup xs)
  ox : OdAll (fun b => b = f ∨ b = D) H' xs ds15
theorem Lp.app {X : Addr} {xs : List V} (g : Lp f c D X B n xs us H H1) (fr : Frs H D) (nf : D ≠ f) (nc : D ≠ c) (s : Same H1 H2) {v : V} {d : PyData} (ov : OdV (fun b => b = f ∨ b = D) H2 v d) (b : Bent d) : Lp f c D X B (n + 1) xs (us ++ [v]) H (upd H2 D (.lst (us ++ [v]))) := by
  have hD2 := s _ _ g.hD
  have kw : Ke (fun b => b = f ∨ b = D) H2 (upd H2 D (.lst (us ++ [v]))) := ke_wrG (.inr rfl) hD2
  exact { toGr := g.toGr.app fr nf nc s ov b, hX := kw.tups _ _ (s _ _ g.hX), ox := (odS g.ox s).ke kw }
theorem Lp.mono {X : Addr} {xs : List V} {m : Nat} (g : Lp f c D X B n xs us H H1) (l : n ≤ m) : Lp f c D X B m xs us H H1 := { toGr := g.toGr.mono l, hX := g.hX, ox := g.ox }
end
theorem num_in {d : PyData} (h : (([1, -1, 8, -8, 9, -9, 0] : List Int).map PyData.int).any (fun z => PyData.eqv z d) = true) : (∃ i, d = .int i) ∨ ∃ b, d = .bool b := by
  obtain ⟨z, hz, e⟩ := List.any_eq_true.mp h
  obtain ⟨i, _, rfl⟩ := List.mem_map.mp hz
  cases d with
  | int j => exact .inl ⟨j, rfl⟩
  | bool b => exact .inr ⟨b, rfl⟩
  | _ => exact absurd e (by simp [PyData.eqv])
theorem nm_ints {ns : List Int} : ∀ x ∈ ns.map V.int, Srm.NmV x := fun x hx => by
  obtain ⟨i, _, rfl⟩ := List.mem_map.mp hx
  exact .inl ⟨i, rfl⟩
/-- whole numbers, and one thing more, in some order -/
theorem bent_perm {f : Addr → Prop} {H : Hp} {p : Addr} {ys xs : List V} (pm : ys.Perm xs) (nm : ∀ x ∈ xs, Srm.NmV x) (it : ∀ x ∈ xs, It (nmD x)) (l : xs.length ≤ 20) (hp : H p = some (.tup ys)) : ∃ d, OdV f H (.ref p) d ∧ Bent d := by
  refine ⟨.tuple (ys.map nmD), .tup hp (od_nm fun x hx => nm x (pm.mem_iff.mp hx)), bent_tuple (fun d hd => ?_) (by rw [List.length_map, pm.length_eq]; exact l)⟩
  obtain ⟨x, hx, rfl⟩ := List.mem_map.mp hd
  exact it x (pm.mem_iff.mp hx)
section
variable {P : Program} {w : World} {K : PySem.W.Frag} {mg : Str → Option Value} {base : Heap}
/-- bent(feed, claim) -/
def spSbe : Sp := fun vs H Q _ => ∃ (f c a : Addr) (B : Nat) (cs : List Int), vs = [.ref f, .ref a] ∧ Feed H f c B ∧ B ≤ 2 ^ 58 ∧ H a = some (.tup (cs.map V.int)) ∧ IsCl cs ∧
  ∀ (p : Addr) (us : List V) (ds : List PyData) (H' : Hp), Feed H' f c (B + 1) → Ke (· = f) H H' → Frs H p → H' p = some (.lst us) → OdAll (· = f) H' us ds → (∀ d ∈ ds, Bent d) → us.length ≤ 100 → Q (.ref p) H'
theorem ok_sbe {f fD : Addr} {fd fdD : FuncData} {k : Nat} (F : Fun K "_law_s_bent" "_law_s_bent" sSbe f fd) (T : Zu mg) (FD : Fun K "_law_sdraw" "_law_sdraw" sDrw fD fdD) (bD : Binds K fdD ["feed", "many"] []) (gD : mg "_law_sdraw" = some (.ref fD)) (GD : FnOk P w K mg base CX0 2 fD fdD ["feed", "many"] spDrw) :
    FnOk P w K mg base CX0 (k + 3) f fd ["feed", "claim"] spSbe := by
  refine F.ok scSbe (fun vs H Q E h => ?_) (fun cdv A outer s H vs Q E hr h => ?_)
  · obtain ⟨f, c, a, B, cs, rfl, _⟩ := h
    rfl
  · obtain ⟨f, c, a, B, cs, rfl, hF, hB, ha, Cl, q⟩ := h
    have hr2 : Room 2 _ := hr.mono (by omega)
    refine ⟨_, (Evl.pss_cut (ps_set (i := 2) scSbe.nd rfl (.inl rfl) (pe_call GD hr2 (by rfl) gD FD.kp bD .nil pass0 (pa_cons (pv 0) (pa_cons (pe_op op_add (pe_callB call_len_seq (by rfl) T.z_len (by decide +kernel) (pa_cons (pv 1) pa_nil)) pe_int) pa_nil))))
      (Evl.pss_cut (ps_set (i := 3) scSbe.nd rfl (.inl rfl) (pe_lstN (pa_cons (Rvt.pe_revT (pv 1)) (pa_cons (pe_op op_catTN (pv 1) (pe_slice sl_tupN (pv 1) po_none (po_some pe_int))) (pa_cons (pe_op op_catTN (pe_slice sl_tupN (pv 1) po_none (po_some pe_int)) (pv 1)) (pa_cons (pe_callTy call_list_ofN (by rfl) T.z_list (by decide +kernel) (pa_cons (pv 1) pa_nil)) pa_nil))))))
      (Evl.pss_cut (ps_set (i := 3) scSbe.nd rfl (.inl rfl) (pe_op op_catN (pv 3) (pe_lstN (pa_cons (pe_tupN (pa_cons (pv 1) pa_nil)) (pa_cons pe_non (pa_cons pe_int (pa_cons pe_bl (pa_cons pe_str (pa_cons pe_str (pa_cons (pe_lstN pa_nil) (pa_cons (pe_tupN pa_nil) pa_nil)))))))))))
      (Evl.pss_cut (ps_for PassesOwn.never rfl (pi_tup (pe_tupN (pa_cons pe_int (pa_cons pe_int (pa_cons (pe_un un_neg pe_int) (pa_cons (pe_op op_pow pe_int pe_int) (pa_cons (pe_op op_sub pe_int (pe_op op_pow pe_int pe_int)) (pa_cons pe_bl (pa_cons pe_bl (pa_cons pe_non (pa_cons pe_str (pa_cons (pe_lstN (pa_cons pe_int pa_nil)) (pa_cons (pe_tupN (pa_cons pe_int pa_nil)) (pa_cons pe_int (pa_cons (pe_un un_neg pe_int) (pa_cons pe_int (pa_cons (pe_un un_neg pe_int) pa_nil))))))))))))))))) (pg_name (i := 4) scSbe.nd rfl (.inl rfl)) (Evl.pss_cut (ps_expr (pe_bm PySem.F.plainAttrs_list PySem.F.slot_list_append PySem.F.type_list_append mt_append (pv 3) (pa_cons (pe_op op_catTN (pe_op op_catTN (pe_slice sl_tupN (pv 1) po_none (po_some (pv 2))) (pe_tupN (pa_cons (pv 4) pa_nil))) (pe_slice sl_tupN (pv 1) (po_some (pv 2)) po_none)) pa_nil)))
      (Evl.pss_cut (ps_if (pt_cmpR (Idt.op_inDT (units65 hr)) (pv 4) (pe_tupN (pa_cons pe_int (pa_cons (pe_un un_neg pe_int) (pa_cons pe_int (pa_cons (pe_un un_neg pe_int) (pa_cons pe_int (pa_cons (pe_un un_neg pe_int) (pa_cons pe_int pa_nil)))))))) (by rfl)) (pss_one (ps_expr (pe_bm PySem.F.plainAttrs_list PySem.F.slot_list_append PySem.F.type_list_append mt_append (pv 3) (pa_cons (pe_callTy call_tuple_ofN (by rfl) T.z_tuple (by decide +kernel) (pa_cons (pe_callB Srm.cr_sortedM (by rfl) T.z_sorted (by decide +kernel) (pa_cons (pe_op op_catTN (pv 1) (pe_tupN (pa_cons (pv 4) pa_nil))) pa_nil)) pa_nil)) pa_nil)))) pss_nil)
      (pss_one (ps_expr (pe_bm PySem.F.plainAttrs_list PySem.F.slot_list_append PySem.F.type_list_append mt_append (pv 3) (pa_cons (pe_op op_catTN (pe_op op_catTN (pe_slice sl_tupN (pv 1) po_none (po_some (pv 2))) (pe_tupN (pa_cons (pv 4) pa_nil))) (pe_slice sl_tupN (pv 1) (po_some (pe_op op_add (pv 2) pe_int)) po_none)) pa_nil)))))))
      (Evl.pss_cut (ps_for PassesOwn.never rfl (pi_tup (pv 1)) (pg_name (i := 5) scSbe.nd rfl (.inl rfl)) (pss_one (ps_expr (pe_bm PySem.F.plainAttrs_list PySem.F.slot_list_append PySem.F.type_list_append mt_append (pv 3) (pa_cons (pe_callTy call_tuple_ofN (by rfl) T.z_tuple (by decide +kernel) (pa_cons (pe_callB Srm.cr_sortedM (by rfl) T.z_sorted (by decide +kernel) (pa_cons (pe_op op_catTN (pv 1) (pe_tupN (pa_cons (pe_op op_sub pe_int (pv 5)) pa_nil))) pa_nil)) pa_nil)) pa_nil)))))
      (Evl.pss_cut (ps_if (pt_cmpR op_gt (pe_callB call_len_seq (by rfl) T.z_len (by decide +kernel) (pa_cons (pv 1) pa_nil)) pe_int (nomark _)) (pss_one (ps_expr (pe_bm PySem.F.plainAttrs_list PySem.F.slot_list_append PySem.F.type_list_append mt_append (pv 3) (pa_cons (pe_callTy call_tuple_ofN (by rfl) T.z_tuple (by decide +kernel) (pa_cons (pe_callB Srm.cr_sortedM (by rfl) T.z_sorted (by decide +kernel) (pa_cons (pe_op op_catTN (pv 1) (pe_tupN (pa_cons (pe_op op_sub pe_int (pe_ix ix_tup (pv 1) pe_int (fun _ _ => rfl))) (pa_cons (pe_op op_sub pe_int (pe_ix ix_tup (pv 1) (pe_un un_neg pe_int) (fun _ _ => rfl))) pa_nil)))) pa_nil)) pa_nil)) pa_nil)))) pss_nil)
      (pss_cons (ps_expr (pe_bm PySem.F.plainAttrs_list PySem.F.slot_list_append PySem.F.type_list_append mt_append (pv 3) (pa_cons (pe_callTy call_tuple_ofN (by rfl) T.z_tuple (by decide +kernel) (pa_cons (pe_lc (own := [("k", 6)]) (g := (gName 6))  rfl scSbe.nd (pi_range2 (by rfl) T.z_range (pa_cons (pe_un un_neg pe_int) (pa_cons pe_int pa_nil))) (blkOk_by (N := nSbe) (sc := defScope sSbe) (by decide +kernel)) (fun _ _ _ _ _ => (pg_name (i := 6) scSbe.nd rfl (.inl rfl))) (fun _ _ _ _ _ => (pts_one (pt_cmpR op_ne (pv 6) pe_int (nomark _)))) (fun _ _ _ _ _ => (pv 6))) pa_nil)) pa_nil)))
      (pss_one (ps_ret (pv 3)))))))))), ?_⟩
    have l8 := Cl.len
    have lm : (cs.map V.int).length = cs.length := List.length_map ..
    have ic := cl_it Cl
    -- at
    refine Evl.q_cut (M := fun σ' H' => ∃ n : Nat, σ' = [some (.ref f), some (.ref a), some (.int (n : Nat)), none, none, none, none] ∧ Feed H' f c (B + 1) ∧ Ke (· = f) H H') ?_ ?_
    · refine ⟨_, rfl, _, rfl, a, _, rfl, .inr (.of ha), _, _, rfl, rfl, f, c, _, B, rfl, by omega, by omega, hF, by omega, fun d H1 d0 d1 F1 b1 => ⟨d.toNat, ?_, F1, .but hF b1⟩⟩
      rw [Int.toNat_of_nonneg d0]
      rfl
    rintro σ' H1 ⟨n, rfl, F1, k1⟩
    have ha1 := k1.tups _ _ ha
    -- found
    refine Evl.q_cut (M := fun σ' H' => ∃ (D r1 r2 r3 L : Addr), σ' = [some (.ref f), some (.ref a), some (.int (n : Nat)), some (.ref D), none, none, none] ∧ Feed H' f c (B + 1) ∧ Ke (· = f) H H' ∧ H' r1 = some (.tup (cs.map V.int).reverse) ∧ H' r2 = some (.tup (cs.map V.int ++ cutV (cs.map V.int) none (some 1))) ∧ H' r3 = some (.tup (cutV (cs.map V.int) none (some 1) ++ cs.map V.int)) ∧ H' L = some (.lst (cs.map V.int)) ∧ L ≠ f ∧ H' D = some (.lst [.ref r1, .ref r2, .ref r3, .ref L])) ?_ ?_
    · have lc := cut_len (cs.map V.int) none (some 1)
      refine ⟨_, rfl, a, _, rfl, .of ha1, fun r1 G1 n1 t1 h1 _ => ?_⟩
      refine ⟨_, rfl, _, rfl, 1, rfl, a, _, rfl, t1 _ _ ha1, fun p2 G2 t2 h2 => ?_⟩
      have a2 := t2 _ _ (t1 _ _ ha1)
      refine ⟨a, p2, _, _, rfl, rfl, a2, h2, Nat.le_trans (by omega : _ ≤ 20) (by decide), fun r2 G3 t3 h3 => ?_⟩
      have a3 := t3 _ _ a2
      refine ⟨_, rfl, 1, rfl, a, _, rfl, a3, fun p4 G4 t4 h4 => ?_⟩
      have a4 := t4 _ _ a3
      refine ⟨_, rfl, p4, a, _, _, rfl, rfl, h4, a4, Nat.le_trans (by omega : _ ≤ 20) (by decide), fun r3 G5 t5 h5 => ?_⟩
      have a5 := t5 _ _ a4
      refine ⟨_, rfl, a, _, rfl, .inr (.of a5), fun L G6 nL t6 h6 _ => ?_⟩
      refine ⟨by show 4 ≤ sizeLine; decide, fun D G7 nD t7 hD _ => ?_⟩
      have u6 := t7
      have u5 := t6.trans u6
      have u4 := t5.trans u5
      have u3 := t4.trans u4
      have u2 := t3.trans u3
      have u1 := t2.trans u2
      have u0 := t1.trans u1
      have F5 : Feed G5 f c (B + 1) := F1.same (t1.trans (t2.trans (t3.trans (t4.trans t5))))
      exact ⟨D, r1, r2, r3, L, rfl, F1.same u0, k1.trans (.same u0), u1 _ _ h1, u3 _ _ h3, u5 _ _ h5, u6 _ _ h6, F5.nf nL, hD⟩
    clear F1 k1 ha1 H1
    rintro σ' H1 ⟨D0, r1, r2, r3, L, rfl, F1, k1, h1, h2, h3, h4, nLf, hD0⟩
    have ha1 := k1.tups _ _ ha
    refine Evl.q_cut (M := fun σ' H' => ∃ (D : Addr) (us : List V), σ' = [some (.ref f), some (.ref a), some (.int (n : Nat)), some (.ref D), none, none, none] ∧ Frs H D ∧ D ≠ f ∧ D ≠ c ∧ Gr f c D B 12 us H H') ?_ ?_
    · refine ⟨_, rfl, _, rfl, by show 1 ≤ sizeLine; decide, fun u G1 nu t1 hu _ => ?_⟩
      refine ⟨Nat.zero_le _, fun L2 G2 n2 t2 hL2 _ => ?_⟩
      refine ⟨Nat.zero_le _, fun u3 G3 n3 t3 hu3 _ => ?_⟩
      refine ⟨by show 8 ≤ sizeLine; decide, fun W G4 nW t4 hW _ => ?_⟩
      refine ⟨D0, W, _, _, rfl, rfl, (t1.trans (t2.trans (t3.trans t4))) _ _ hD0, hW, by show 12 ≤ sizeLine; decide, fun D G5 nD t5 hD _ => ?_⟩
      have v4 := t1.trans (t2.trans (t3.trans t4))
      have w3 := t5
      have w2 := t4.trans w3
      have w1 := t3.trans w2
      have w0 := t2.trans w1
      have u0 := t1.trans w0
      have F4 := F1.same v4
      have nDf := F4.nf nD
      have nDc := F4.nc nD
      have kD : Ke (· = f) H G4 := k1.trans (.same v4)
      have g1 : ¬ (L = f ∨ L = D) := fun z => z.elim nLf fun e => ne_of_none (v4 _ _ h4) nD e
      have g2 : ¬ (L2 = f ∨ L2 = D) := fun z => z.elim ((F1.same t1).nf n2) fun e => ne_of_none ((t3.trans t4) _ _ hL2) nD e
      obtain ⟨es, oe, le, me⟩ := odC (od_ints (f := fun b => b = f ∨ b = D) (H := G5) cs) none (some 1)
      have ie : ∀ d ∈ es, It d := fun d hd => ic d (me d hd)
      rw [List.length_map] at le
      refine ⟨D, _, rfl, .ke kD F4 (.of nD), nDf, nDc, F4.same t5, kD.trans (.same t5), hD, ⟨_, .cons (.tup (u0 _ _ h1) (od_ints cs).rev) (.cons (.tup (u0 _ _ h2) ((od_ints cs).cat oe)) (.cons (.tup (u0 _ _ h3) (oe.cat (od_ints cs))) (.cons (.lst (u0 _ _ h4) g1 (od_ints cs))
        (.cons (.tup (w0 _ _ hu) (.one (.tup (u0 _ _ ha1) (od_ints cs)))) (.cons .non (.cons (.int 5) (.cons (.bl true) (.cons (.str "1") (.cons (.str "") (.cons (.lst (w1 _ _ hL2) g2 .nil) (.cons (.tup (w2 _ _ hu3) .nil) .nil))))))))))), fun d hd => ?_⟩, by show 12 ≤ 12; decide⟩
      simp only [List.mem_cons, List.not_mem_nil, or_false] at hd
      rcases hd with rfl | rfl | rfl | rfl | rfl | rfl | rfl | rfl | rfl | rfl | rfl | rfl
      · exact bent_tuple (fun d hd => ic d (List.mem_reverse.mp hd)) (by rw [List.length_reverse, List.length_map]; omega)
      · exact bent_tuple (cat_it ic ie) (by rw [List.length_append, List.length_map]; omega)
      · exact bent_tuple (cat_it ie ic) (by rw [List.length_append, List.length_map]; omega)
      · exact bent_list ic (by rw [List.length_map]; omega)
      · exact bent_tuple (one_it (it_claim Cl)) (by show 1 ≤ 20; decide)
      · exact it_none.bent fun ds e => nomatch e
      · exact (it_int (n := 5) (by omega) (by omega)).bent fun ds e => nomatch e
      · exact (it_bool true).bent fun ds e => nomatch e
      · exact it_str1.bent fun ds e => nomatch e
      · exact it_str0.bent fun ds e => nomatch e
      · exact bent_list (fun d hd => (nomatch hd)) (Nat.zero_le _)
      · exact bent_tuple (fun d hd => (nomatch hd)) (Nat.zero_le _)
    clear F1 k1 ha1 h1 h2 h3 h4 nLf hD0 H1
    rintro σ' H1 ⟨D, us0, rfl, frD, nDf, nDc, g1⟩
    -- the odd things
    refine Evl.q_cut (M := fun σ' H' => ∃ (y4 : Option V) (us : List V), σ' = [some (.ref f), some (.ref a), some (.int (n : Nat)), some (.ref D), y4, none, none] ∧ Gr f c D B 57 us H H') ?_ ?_
    · refine ⟨_, rfl, _, _, rfl, rfl, ⟨by decide, by decide, by decide⟩, _, _, rfl, rfl, ⟨by decide, by decide, by decide⟩, _, _, rfl, rfl, by show 1 ≤ sizeLine; decide, fun L G1 nL t1 hL _ => ?_⟩
      refine ⟨by show 1 ≤ sizeLine; decide, fun u G2 nu t2 hu _ => ?_⟩
      refine ⟨_, rfl, _, rfl, by show 15 ≤ sizeLine; decide, fun X G3 nX t3 hX _ => ?_⟩
      have u0 := t1.trans (t2.trans t3)
      have nL' : ¬ (L = f ∨ L = D) := fun z => z.elim (g1.F.nf nL) fun e => ne_of_none g1.hD nL e.symm
      have ox : OdAll (fun b => b = f ∨ b = D) G3 [V.int 0, .int 9, .int (-9), .int (10 ^ 39), .int (0 - 10 ^ 39), .bl true, .bl false, .non, .str "2", .ref L, .ref u, .int 1, .int (-1), .int 8, .int (-8)] ds15 :=
        .cons (.int _) (.cons (.int _) (.cons (.int _) (.cons (.int _) (.cons (.int _) (.cons (.bl _) (.cons (.bl _) (.cons .non (.cons (.str _) (.cons (.lst ((t2.trans t3) _ _ hL) nL' (.one (.int 1))) (.cons (.tup (t3 _ _ hu) (.one (.int 1))) (.cons (.int _) (.cons (.int _) (.cons (.int _) (.cons (.int _) .nil))))))))))))))
      obtain ⟨ds0, od0, bt0⟩ := g1.od
      refine ⟨X, rfl, ⟨_, .of hX⟩, for_tup (K := K) (a := X) (xs := [V.int 0, .int 9, .int (-9), .int (10 ^ 39), .int (0 - 10 ^ 39), .bl true, .bl false, .non, .str "2", .ref L, .ref u, .int 1, .int (-1), .int 8, .int (-8)]) (Pv := fun i σ H' => ∃ (y4 : Option V) (us : List V), σ = [some (.ref f), some (.ref a), some (.int (n : Nat)), some (.ref D), y4, none, none] ∧ Lp f c D X B (12 + 3 * i) [V.int 0, .int 9, .int (-9), .int (10 ^ 39), .int (0 - 10 ^ 39), .bl true, .bl false, .non, .str "2", .ref L, .ref u, .int 1, .int (-1), .int 8, .int (-8)] us H H') ?_ (fun i σ H' _ p => ?_) ?_ ?_⟩
      · exact ⟨none, us0, rfl, { F := g1.F.same u0, k := g1.k.trans (.same u0), hD := u0 _ _ g1.hD, od := ⟨ds0, odS od0 u0, bt0⟩, ln := g1.ln, hX := hX, ox := ox }⟩
      · obtain ⟨_, _, _, g⟩ := p
        exact .of g.hX
      · clear u0 nL' ox od0 bt0 g1 hX hu hL t1 t2 t3 nL nu nX
        generalize [V.int 0, .int 9, .int (-9), .int (10 ^ 39), .int (0 - 10 ^ 39), .bl true, .bl false, .non, .str "2", .ref L, .ref u, .int 1, .int (-1), .int 8, .int (-8)] = xs
        rintro i x σ H2 hx ⟨y4, us, rfl, g2⟩
        obtain ⟨d, hd, ov⟩ := g2.ox.at hx
        have li : i < 15 := (List.getElem?_eq_some_iff.mp hd).1
        have md := List.mem_of_getElem? hd
        have itd := it15 d md
        have l2 := g2.ln
        -- with the odd one between
        refine Evl.q_cut (M := fun σ' H' => ∃ us, σ' = [some (.ref f), some (.ref a), some (.int (n : Nat)), some (.ref D), some x, none, none] ∧ Lp f c D X B (12 + 3 * i + 1) xs us H H') ?_ ?_
        · have ha2 := g2.k.tups _ _ ha
          refine ⟨_, rfl, .inl ⟨rfl, _, .of g2.hD⟩, _, rfl, _, rfl, (n : Nat), rfl, a, _, rfl, ha2, fun p1 G1 t1 h1 => ?_⟩
          refine ⟨_, rfl, by show 1 ≤ sizeLine; decide, fun u G2 nu t2 hu _ => ?_⟩
          have c1 := cut_len (cs.map V.int) none (some (n : Nat))
          have c2 := cut_len (cs.map V.int) (some (n : Nat)) none
          refine ⟨p1, u, _, _, rfl, rfl, t2 _ _ h1, hu, Nat.le_trans (by show _ + 1 ≤ 20; omega) (by decide), fun p2 G3 t3 h2 => ?_⟩
          have u3 := t1.trans (t2.trans t3)
          refine ⟨_, rfl, _, rfl, (n : Nat), rfl, a, _, rfl, u3 _ _ ha2, fun p3 G4 t4 h3 => ?_⟩
          refine ⟨p2, p3, _, _, rfl, rfl, t4 _ _ h2, h3, Nat.le_trans (by rw [List.length_append]; show _ + 1 + _ ≤ 20; omega) (by decide), fun p4 G5 t5 h4 => ?_⟩
          have u5 := u3.trans (t4.trans t5)
          refine ⟨D, _, _, rfl, rfl, u5 _ _ g2.hD, small1000 (by omega), ?_⟩
          obtain ⟨e1, o1, n1, m1⟩ := odC (od_ints (f := fun b => b = f ∨ b = D) (H := G5) cs) none (some (n : Nat))
          obtain ⟨e2, o2, n2, m2⟩ := odC (od_ints (f := fun b => b = f ∨ b = D) (H := G5) cs) (some (n : Nat)) none
          rw [List.length_map] at n1 n2
          exact ⟨_, rfl, g2.app frD nDf nDc u5 (.tup h4 ((o1.cat (.one (odVS ov u5))).cat o2)) (bent_tuple (cat_it (cat_it (fun d hd => ic d (m1 d hd)) (one_it itd)) fun d hd => ic d (m2 d hd)) (by rw [List.length_append, List.length_append]; show _ + 1 + _ ≤ 20; omega))⟩
        clear ov l2 g2 us H2
        rintro σ' H2 ⟨us, rfl, g2⟩
        obtain ⟨d', hd', ov⟩ := g2.ox.at hx
        rw [hd] at hd'
        cases hd'
        have l2 := g2.ln
        -- in order, where it can be put in order
        refine Evl.q_cut (M := fun σ' H' => ∃ us, σ' = [some (.ref f), some (.ref a), some (.int (n : Nat)), some (.ref D), some x, none, none] ∧ Lp f c D X B (12 + 3 * i + 2) xs us H H') ?_ ?_
        · have ha2 := g2.k.tups _ _ ha
          refine ⟨_, rfl, _, rfl, _, rfl, _, rfl, by show 7 ≤ sizeLine; decide, fun u G1 nu t1 hu _ => ?_⟩
          refine ⟨d, ([1, -1, 8, -8, 9, -9, 0] : List Int).map PyData.int, (odVS ov t1).dp, .tup (.of hu) (dp_ints [1, -1, 8, -8, 9, -9, 0]), flat15 d md, shaped_tuple (flat_ints _), _, rfl, ite2 (fun e => ?_) (fun e => ?_)⟩
          · have nmx : Srm.NmV x ∧ nmD x = d := by
              rcases num_in e with ⟨j, rfl⟩ | ⟨b, rfl⟩
              · cases ov
                exact ⟨.inl ⟨_, rfl⟩, rfl⟩
              · cases ov
                exact ⟨.inr ⟨_, rfl⟩, rfl⟩
            refine ⟨_, rfl, .inl ⟨rfl, _, .of (t1 _ _ g2.hD)⟩, _, rfl, _, rfl, by show 1 ≤ sizeLine; decide, fun u2 G2 nu2 t2 hu2 _ => ?_⟩
            refine ⟨a, u2, _, _, rfl, rfl, (t1.trans t2) _ _ ha2, hu2, Nat.le_trans (by show _ + 1 ≤ 20; omega) (by decide), fun p G3 t3 hp => ?_⟩
            have nms : ∀ y ∈ cs.map V.int ++ [x], Srm.NmV y := fun y hy => (List.mem_append.mp hy).elim (nm_ints y) fun z => by rw [List.mem_singleton.mp z]; exact nmx.1
            refine ⟨p, _, rfl, .of hp, nms, fun ys pm L1 G4 nL1 t4 hL1 _ => ?_⟩
            refine ⟨L1, ys, rfl, .of hL1, fun t G5 nt t5 ht _ => ?_⟩
            have u5 := t1.trans (t2.trans (t3.trans (t4.trans t5)))
            refine ⟨D, _, _, rfl, rfl, u5 _ _ g2.hD, small1000 (by omega), ?_⟩
            have its : ∀ y ∈ cs.map V.int ++ [x], It (nmD y) := fun y hy => by
              rcases List.mem_append.mp hy with z | z
              · obtain ⟨j, hj, rfl⟩ := List.mem_map.mp z
                exact ic _ (List.mem_map.mpr ⟨j, hj, rfl⟩)
              · rw [List.mem_singleton.mp z, nmx.2]
                exact itd
            obtain ⟨d2, o2, b2⟩ := bent_perm (f := fun b => b = f ∨ b = D) pm nms its (by rw [List.length_append]; show _ + 1 ≤ 20; omega) ht
            exact ⟨_, rfl, g2.app frD nDf nDc u5 o2 b2⟩
          · obtain ⟨ds0, od0, bt0⟩ := g2.od
            exact ⟨us, rfl, { F := g2.F.same t1, k := g2.k.trans (.same t1), hD := t1 _ _ g2.hD, od := ⟨ds0, odS od0 t1, bt0⟩, ln := Nat.le_succ_of_le l2, hX := t1 _ _ g2.hX, ox := odS g2.ox t1 }⟩
        clear ov l2 g2 us H2
        rintro σ' H2 ⟨us, rfl, g2⟩
        obtain ⟨d', hd', ov⟩ := g2.ox.at hx
        rw [hd] at hd'
        cases hd'
        have l2 := g2.ln
        -- with the odd one instead
        have ha2 := g2.k.tups _ _ ha
        refine ⟨_, rfl, .inl ⟨rfl, _, .of g2.hD⟩, _, rfl, _, rfl, (n : Nat), rfl, a, _, rfl, ha2, fun p1 G1 t1 h1 => ?_⟩
        refine ⟨_, rfl, by show 1 ≤ sizeLine; decide, fun u G2 nu t2 hu _ => ?_⟩
        have c1 := cut_len (cs.map V.int) none (some (n : Nat))
        have c2 := cut_len (cs.map V.int) (some ((n : Int) + 1)) none
        refine ⟨p1, u, _, _, rfl, rfl, t2 _ _ h1, hu, Nat.le_trans (by show _ + 1 ≤ 20; omega) (by decide), fun p2 G3 t3 h2 => ?_⟩
        have u3 := t1.trans (t2.trans t3)
        refine ⟨_, rfl, _, rfl, _, _, rfl, rfl, (n : Int) + 1, rfl, a, _, rfl, u3 _ _ ha2, fun p3 G4 t4 h3 => ?_⟩
        refine ⟨p2, p3, _, _, rfl, rfl, t4 _ _ h2, h3, Nat.le_trans (by rw [List.length_append]; show _ + 1 + _ ≤ 20; omega) (by decide), fun p4 G5 t5 h4 => ?_⟩
        have u5 := u3.trans (t4.trans t5)
        refine ⟨D, _, _, rfl, rfl, u5 _ _ g2.hD, small1000 (by omega), ?_⟩
        obtain ⟨e1, o1, n1, m1⟩ := odC (od_ints (f := fun b => b = f ∨ b = D) (H := G5) cs) none (some (n : Nat))
        obtain ⟨e2, o2, n2, m2⟩ := odC (od_ints (f := fun b => b = f ∨ b = D) (H := G5) cs) (some ((n : Int) + 1)) none
        rw [List.length_map] at n1 n2
        exact ⟨_, _, rfl, (g2.app frD nDf nDc u5 (.tup h4 ((o1.cat (.one (odVS ov u5))).cat o2)) (bent_tuple (cat_it (cat_it (fun d hd => ic d (m1 d hd)) (one_it itd)) fun d hd => ic d (m2 d hd)) (by rw [List.length_append, List.length_append]; show _ + 1 + _ ≤ 20; omega))).mono (by omega)⟩
      · rintro σ H2 ⟨y4, us, rfl, g2⟩
        exact ⟨y4, us, rfl, g2.toGr.mono (by show 12 + 3 * 15 ≤ 57; decide)⟩
    clear g1 us0 H1
    rintro σ' H1 ⟨y4, us1, rfl, g1⟩
    have it_neg : ∀ j ∈ cs, It (.int (0 - j)) := fun j hj => by
      have := Cl.says j hj
      exact it_int (by omega) (by omega)
    -- with the opposite of each
    refine Evl.q_cut (M := fun σ' H' => ∃ (y5 : Option V) (us : List V), σ' = [some (.ref f), some (.ref a), some (.int (n : Nat)), some (.ref D), y4, y5, none] ∧ Gr f c D B 65 us H H') ?_ ?_
    · refine ⟨_, rfl, a, rfl, ⟨_, .of (g1.k.tups _ _ ha)⟩, for_tup (K := K) (a := a) (xs := cs.map V.int) (Pv := fun i σ H' => ∃ (y5 : Option V) (us : List V), σ = [some (.ref f), some (.ref a), some (.int (n : Nat)), some (.ref D), y4, y5, none] ∧ Gr f c D B (57 + i) us H H') ?_ (fun i σ H' _ p => ?_) ?_ ?_⟩
      · exact ⟨none, us1, rfl, g1⟩
      · obtain ⟨_, _, _, g⟩ := p
        exact .of (g.k.tups _ _ ha)
      · rintro i x σ H2 hx ⟨y5, us, rfl, g2⟩
        obtain ⟨z, hz, rfl⟩ := at_int hx
        have li := (List.getElem?_eq_some_iff.mp hz).1
        have mz := List.mem_of_getElem? hz
        have ha2 := g2.k.tups _ _ ha
        have l2 := g2.ln
        refine ⟨_, rfl, .inl ⟨rfl, _, .of g2.hD⟩, _, rfl, _, rfl, _, _, rfl, rfl, by show 1 ≤ sizeLine; decide, fun u2 G2 nu2 t2 hu2 _ => ?_⟩
        refine ⟨a, u2, _, _, rfl, rfl, t2 _ _ ha2, hu2, Nat.le_trans (by show _ + 1 ≤ 20; omega) (by decide), fun p G3 t3 hp => ?_⟩
        have nms : ∀ y ∈ cs.map V.int ++ [V.int (0 - z)], Srm.NmV y := fun y hy => (List.mem_append.mp hy).elim (nm_ints y) fun z => by rw [List.mem_singleton.mp z]; exact .inl ⟨_, rfl⟩
        refine ⟨p, _, rfl, .of hp, nms, fun ys pm L1 G4 nL1 t4 hL1 _ => ?_⟩
        refine ⟨L1, ys, rfl, .of hL1, fun t G5 nt t5 ht _ => ?_⟩
        have u5 := t2.trans (t3.trans (t4.trans t5))
        refine ⟨D, _, _, rfl, rfl, u5 _ _ g2.hD, small1000 (by omega), ?_⟩
        have its : ∀ y ∈ cs.map V.int ++ [V.int (0 - z)], It (nmD y) := fun y hy => by
          rcases List.mem_append.mp hy with z | z
          · obtain ⟨j, hj, rfl⟩ := List.mem_map.mp z
            exact ic _ (List.mem_map.mpr ⟨j, hj, rfl⟩)
          · rw [List.mem_singleton.mp z]
            exact it_neg _ mz
        obtain ⟨d2, o2, b2⟩ := bent_perm (f := fun b => b = f ∨ b = D) pm nms its (by rw [List.length_append]; show _ + 1 ≤ 20; omega) ht
        exact ⟨_, _, rfl, g2.app frD nDf nDc u5 o2 b2⟩
      · rintro σ H2 ⟨y5, us, rfl, g2⟩
        rw [List.length_map] at g2
        exact ⟨y5, us, rfl, g2.mono (by omega)⟩
    clear g1 us1 H1
    rintro σ' H1 ⟨y5, us1, rfl, g1⟩
    -- with two opposites
    refine Evl.q_cut (M := fun σ' H' => ∃ (us : List V), σ' = [some (.ref f), some (.ref a), some (.int (n : Nat)), some (.ref D), y4, y5, none] ∧ Gr f c D B 66 us H H') ?_ ?_
    · have ha1 := g1.k.tups _ _ ha
      refine ⟨_, rfl, a, _, rfl, .inr (.of ha1), _, _, rfl, rfl, _, rfl, ite2 (fun e => ?_) (fun e => ?_)⟩
      · have l1 : 1 < cs.length := by
          have z : (1 : Int) < ((cs.map V.int).length : Int) := of_decide_eq_true e
          omega
        have l2 := g1.ln
        refine ⟨_, rfl, .inl ⟨rfl, _, .of g1.hD⟩, _, rfl, _, rfl, a, _, 0, .int cs[0], rfl, rfl, .of ha1, ?_, _, _, rfl, rfl, _, rfl, _, rfl, a, _, -1, .int cs[cs.length - 1], rfl, rfl, .of ha1, ?_, _, _, rfl, rfl, by show 2 ≤ sizeLine; decide, fun u2 G2 nu2 t2 hu2 _ => ?_⟩
        · exact at_of (j := 0) rfl (by rw [List.getElem?_map, List.getElem?_eq_getElem (by omega)]; rfl)
        · unfold atI ixN
          rw [if_neg (by decide), if_pos (by omega), show (-1 + ((cs.map V.int).length : Int)).toNat = cs.length - 1 by omega]
          show (cs.map V.int)[cs.length - 1]? = _
          rw [List.getElem?_map, List.getElem?_eq_getElem (by omega)]
          rfl
        refine ⟨a, u2, _, _, rfl, rfl, t2 _ _ ha1, hu2, Nat.le_trans (by show _ + 2 ≤ 20; omega) (by decide), fun p G3 t3 hp => ?_⟩
        have nms : ∀ y ∈ cs.map V.int ++ [V.int (0 - cs[0]), V.int (0 - cs[cs.length - 1])], Srm.NmV y := fun y hy => (List.mem_append.mp hy).elim (nm_ints y) fun z => by
          simp only [List.mem_cons, List.not_mem_nil, or_false] at z
          rcases z with rfl | rfl
          · exact .inl ⟨_, rfl⟩
          · exact .inl ⟨_, rfl⟩
        refine ⟨p, _, rfl, .of hp, nms, fun ys pm L1 G4 nL1 t4 hL1 _ => ?_⟩
        refine ⟨L1, ys, rfl, .of hL1, fun t G5 nt t5 ht _ => ?_⟩
        have u5 := t2.trans (t3.trans (t4.trans t5))
        refine ⟨D, _, _, rfl, rfl, u5 _ _ g1.hD, small1000 (by omega), ?_⟩
        have its : ∀ y ∈ cs.map V.int ++ [V.int (0 - cs[0]), V.int (0 - cs[cs.length - 1])], It (nmD y) := fun y hy => by
          rcases List.mem_append.mp hy with z | z
          · obtain ⟨j, hj, rfl⟩ := List.mem_map.mp z
            exact ic _ (List.mem_map.mpr ⟨j, hj, rfl⟩)
          · simp only [List.mem_cons, List.not_mem_nil, or_false] at z
            rcases z with rfl | rfl
            · exact it_neg _ (List.getElem_mem _)
            · exact it_neg _ (List.getElem_mem _)
        obtain ⟨d2, o2, b2⟩ := bent_perm (f := fun b => b = f ∨ b = D) pm nms its (by rw [List.length_append]; show _ + 2 ≤ 20; omega) ht
        exact ⟨_, rfl, g1.app frD nDf nDc u5 o2 b2⟩
      · exact ⟨us1, rfl, g1.mono (by decide)⟩
    clear g1 us1 H1
    rintro σ' H1 ⟨us1, rfl, g1⟩
    -- all says
    have l1 := g1.ln
    refine ⟨_, rfl, .inl ⟨rfl, _, .of g1.hD⟩, _, rfl, -8, 9, rfl, ⟨by decide, by decide, by decide, by decide⟩, fun Z nZ => ?_⟩
    refine lc_range (lo := -8) (n := 17) (Pv := fun j H' => ∃ ns : List Int, Same H1 H' ∧ H' Z = some (.lst (ns.map V.int)) ∧ ns.length ≤ j ∧ ∀ k ∈ ns, -60 ≤ k ∧ k < 70) ⟨[], same_new nZ, upd_same, Nat.le_refl _, fun k hk => (nomatch hk)⟩ ?_ ?_
    · rintro j H2 hj ⟨ns, s2, hZ, ln, bd⟩
      refine ⟨rfl, _, rfl, rfl, _, rfl, ite2 (fun e => ?_) (fun e => ?_)⟩
      · refine ⟨_, rfl, _, hZ, small1000 (by rw [List.length_map]; omega), ns ++ [-8 + (j : Int)], fun b o w => ?_, by rw [upd_same, List.map_append]; rfl, by rw [List.length_append]; show ns.length + 1 ≤ _; omega, fun k hk => ?_⟩
        · rw [upd_ne (ne_of_none w nZ)]
          exact s2 _ _ w
        · rcases List.mem_append.mp hk with z | z
          · exact bd k z
          · rw [List.mem_singleton.mp z]
            omega
      · exact ⟨ns, s2, hZ, by omega, bd⟩
    · rintro H2 ⟨ns, s2, hZ, ln, bd⟩
      refine ⟨Z, _, rfl, .of hZ, fun t G nt t3 ht _ => ?_⟩
      have u := s2.trans t3
      refine ⟨D, _, _, rfl, rfl, u _ _ g1.hD, small1000 (by omega), ?_⟩
      have g2 := g1.app frD nDf nDc u (.tup ht (od_ints ns)) (bent_tuple (it_says bd) (by rw [List.length_map]; omega))
      obtain ⟨ds, od, bt⟩ := g2.od
      exact ⟨_, rfl, q D _ ds _ g2.F g2.k frD g2.hD (od.un fun b z => .inl z) bt (Nat.le_trans g2.ln (by decide))⟩
end
end Kc
namespace Gd
open PySem PySem.Spec PyProof.Rows L2
/-! ### a law that shows lists (repr): run where nothing is being shown -/
/-- a promise for calls made while nothing is being shown -/
structure FnG (P : Program) (w : World) (K : PySem.W.Frag) (mg : Str → Option Value) (base : Heap) (k : Nat) (f : Addr) (fd : FuncData) (ps : List Str) (sp : Sp) : Prop where
  len : ∀ us H Q E, sp us H Q E → us.length = ps.length
  run : ∀ (A : Around) (outer : List Env) (s : Shared) (H : Hp) (args : Args) (us : List Value) (vs : List V) (Q : VK) (E : XK), A.guards = some [] → Room k A → Env0 P w K mg base A outer s H → BindsTo s fd args (ps.zip us) → Vals vs us → sp vs H Q E → codeAny (model P w) A (.call (.ref f) args) (CR CX0 outer P w H s Q E) s
section
variable {P : Program} {w : World} {K : PySem.W.Frag} {mg : Str → Option Value} {base : Heap}
theorem okG {x qual : Str} {st : Stmt} {f : Addr} {fd : FuncData} {N ps : List Str} {k : Nat} {sp : Sp} (F : Fun K x qual st f fd) (S : FnScope N ps (defScope st)) (ln : ∀ us H Q E, sp us H Q E → us.length = ps.length)
    (body : ∀ (cdv : Value) (A : Around) (outer : List Env) (s : Shared) (H : Hp) (vs : List V) (Q : VK) (E : XK), A.guards = some [] → Room k (A.deeper (envOfC qual (defScope st) s.heap.objs.size f cdv)) → sp vs H Q E →
      ∃ t, PSs (cxOf CX0 P w K mg base N qual (defScope st) f cdv A outer s H E).nox (defBody st) t ∧ t { nx := fun _ H' => Q .non H', rt := Q } (start N vs) H) : FnG P w K mg base (k + 1) f fd ps sp := by
  obtain ⟨oc, od, kV, doc, pm, an, cdv, ct, osl, rfl, lk, hcd⟩ := F.ex
  refine ⟨ln, fun A outer s H args us vs Q E gd room env bind rel ask => ?_⟩
  have inS : K.In s.heap := env.mod.kin.keeps fun b o e => (env.bs b o e).1
  have noL : s.heap.NoLimit := env.mod.nolimit.keeps fun b o e => (env.bs b o e).1
  refine codeAny_call_function room.depth (inS _ _ lk) rfl S.co S.gen rfl (PySem.W.codeRec_of inS hcd) (bind _ _ _ _ (wpAny_newFunctionEnv_cells S.kind (fun y hy => ?_) fun env' he s1 z => ?_))
  · rcases S.par y.1 (List.of_mem_zip (a := y.1) (b := y.2) hy).1 with q | q
    · exact Or.inl q
    · exact Or.inr ⟨q, PySem.W.cellsFrom_some _ _ _ (Or.inl q)⟩
  · subst he
    obtain ⟨t, h1, h2⟩ := body cdv A outer s H vs Q E gd (room.deeper _) ask
    have J := inv_start (CX := CX0) (E := E) S room.hd env (ln _ _ _ _ ask) rel z
    refine ⟨noL.keeps z.toInCall.keep, codeAny_func (wpAny_mono (h1.nox.run [] s1 _ H _ J h2) (fun fl s' r => ?_) fun _ _ r => r)⟩
    match fl, r with
    | .ret u, r =>
      obtain ⟨v, σ', H', I, rv, q⟩ := r
      exact ⟨v, H', I.os, I.bare, I.base, I.hok, rv, q⟩
    | .next, r =>
      obtain ⟨σ', H', I, q⟩ := r
      exact ⟨.non, H', I.os, I.bare, I.base, I.hok, rfl, q⟩
    | .brk, r =>
      obtain ⟨_, _, _, q⟩ := r
      exact q.elim
    | .cont, r =>
      obtain ⟨_, _, _, q⟩ := r
      exact q.elim
/-- what the abstract heap knows at the law's call: the tables T, the script at a unless K holds it -/
def at0 (K : PySem.W.Frag) (T : List Addr) (a : Addr) (o : HO) : Hp := fun b => if b ∈ T then some (.tbl #[]) else if b = a ∧ (K.lookup a).isNone = true then some o else none
theorem at0_cases {T : List Addr} {a b : Addr} {o u : HO} (h : at0 K T a o b = some u) : (b ∈ T ∧ u = .tbl #[]) ∨ (b ∉ T ∧ b = a ∧ K.lookup a = none ∧ u = o) := by
  unfold at0 at h
  by_cases h1 : b ∈ T
  · rw [if_pos h1] at h
    exact .inl ⟨h1, (Option.some.inj h).symm⟩
  · rw [if_neg h1] at h
    by_cases h2 : b = a ∧ (K.lookup a).isNone = true
    · rw [if_pos h2] at h
      exact .inr ⟨h1, h2.1, Option.isNone_iff_eq_none.mp h2.2, (Option.some.inj h).symm⟩
    · rw [if_neg h2] at h
      cases h
theorem law_at {mb : Str → Option Value} {k : Nat} {fa a : Addr} {cs : List (Addr × Addr)} {fd : FuncData} {x : Str} {sp : Sp} {s1 : Shared} {us : List Value} {ns : List Int} (inK : K.In s1.heap) (ng : s1.heap.Ns mainGlobals mg) (nb : s1.heap.Ns builtinsNs mb)
    (bb : ∀ y : Str, y ≠ "__name__" → mb y = bootBuiltins y) (lim : s1.heap.NoLimit) (gens : s1.gens = #[]) (te : ∀ p ∈ cs, s1.heap.get? p.2 = some (PySem.W.tabObj #[])) (tk : ∀ p ∈ cs, K.lookup p.2 = none) (tc : ∀ p ∈ cs, PySem.W.CodeHd s1.heap p.1 p.2)
    (bm : ∃ (bm : Addr) (ob : Obj), mg "__builtins__" = some (.ref bm) ∧ bm ≠ builtinsNs ∧ s1.heap.get? bm = some ob ∧ ob.cls = .type "module" ∧ ob.dict = some builtinsNs ∧ ob.data = .plain) (la : s1.heap.get? a = some { cls := .type "list", data := .seq us.toArray }) (iu : IntsAre us ns) (lu : ns.length ≤ sizeLine) (room : Room k callerA)
    (F : ∀ base : Heap, K.In base → base.Ns mainGlobals mg → (∀ p ∈ cs, LamX.TabB base mg p.1 p.2) → FnG P w K mg base k fa fd [x] sp) (bind : ∀ (s : Shared) (u : Value), BindsTo s fd ⟨[u], []⟩ [(x, u)])
    (ask : ∀ H : Hp, (∀ p ∈ cs, H p.2 = some (.tbl #[])) → SqL K H a (ns.map V.int) → sp [.ref a] H (fun v _ => v = .bl true) fun _ _ _ => False) :
    codeAny (model P w) callerA (.call (.ref fa) ⟨[.ref a], []⟩) (fun r s' => r = .ok (.ret (.bool true)) ∧ OldK s1.heap s'.heap ∧ s'.os = s1.os ∧ AllBare s'.gens) s1 := by
  have lv := iu.length
  let T := cs.map (·.2)
  let O : HO := .frz { cls := .type "list", data := .seq us.toArray } (.lst (ns.map V.int))
  have tT : ∀ b ∈ T, s1.heap.get? b = some (PySem.W.tabObj #[]) := fun b hb => by
    obtain ⟨p, hp, rfl⟩ := List.mem_map.mp hb
    exact te p hp
  have inT : ∀ p ∈ cs, p.2 ∈ T := fun p hp => List.mem_map.mpr ⟨p, hp, rfl⟩
  have naT : a ∉ T := fun z => by
    have q := tT a z
    rw [la] at q
    cases congrArg Obj.data (Option.some.inj q)
  -- an object that is neither a list nor an empty table is not tracked
  have un0 : ∀ {b : Addr} {o : Obj}, s1.heap.get? b = some o → (∀ v n, o.data ≠ .seq v n) → o.data ≠ .fields #[] → at0 K T a O b = none := fun {b o} e d1 d2 => by
    cases q : at0 K T a O b with
    | none => rfl
    | some u =>
      rcases at0_cases q with ⟨h1, _⟩ | ⟨_, h1, _⟩
      · rw [tT b h1] at e
        cases e
        exact absurd rfl d2
      · rw [h1, la] at e
        cases e
        exact absurd rfl (d1 _ _)
  have ns0 : ∀ {b : Addr} {m : Str → Option Value}, s1.heap.Ns b m → (hidT s1.heap (at0 K T a O)).Ns b m := fun ⟨o, es, ep, e, d, r⟩ =>
    ⟨o, es, ep, hidT_get e (un0 e (fun _ _ z => by rw [d] at z; cases z) fun z => by rw [d] at z; cases z), d, r⟩
  have in0 : K.In (hidT s1.heap (at0 K T a O)) := fun b o e => by
    refine hidT_get (inK b o e) ?_
    cases q : at0 K T a O b with
    | none => rfl
    | some u =>
      rcases at0_cases q with ⟨h1, _⟩ | ⟨_, h1, h2, _⟩
      · obtain ⟨p, hp, rfl⟩ := List.mem_map.mp h1
        rw [tk p hp] at e
        cases e
      · rw [h1, h2] at e
        cases e
  have mod0 : L2.Mod K mg (hidT s1.heap (at0 K T a O)) := ⟨in0, ns0 ng, ⟨mb, ns0 nb, bb⟩, let ⟨mc, h1, h2⟩ := lim; ⟨mc, ns0 h1, h2⟩⟩
  have tab0 : ∀ p ∈ cs, LamX.TabB (hidT s1.heap (at0 K T a O)) mg p.1 p.2 := fun p hp => by
    obtain ⟨bmA, ob, b1, b2, b3, b4, b5, b6⟩ := bm
    obtain ⟨oc, oes, oep, oe, od, _⟩ := ng
    obtain ⟨c0, v0, f0, t0, g0, u0, i0, x0, y0, e1, r1, r2, r3, rest⟩ := tc p hp
    refine ⟨⟨c0, v0, f0, t0, g0, u0, i0, x0, y0, hidT_get e1 (un0 e1 (fun _ _ z => by rw [r2] at z; cases z) fun z => ?_), r1, r2, r3, rest⟩, ⟨bmA, ob, b1, b2, fun z => ?_, fun z => ?_, hidT_get b3 (un0 b3 (fun _ _ z => by rw [b6] at z; cases z) fun z => by rw [b6] at z; cases z), b4, b5, b6⟩, fun z => ?_⟩
    · rw [r2] at z
      cases z
      simp at r3
    · rw [z, oe] at b3
      cases b3
      rw [od] at b6
      cases b6
    · rw [z, te p hp] at b3
      cases b3
      cases b6
    · rw [z, te p hp] at oe
      cases oe
      cases od
  have hok0 : HOk P w (at0 K T a O) s1.heap := fun b u q => by
    rcases at0_cases q with ⟨h1, rfl⟩ | ⟨_, rfl, _, rfl⟩
    · exact tT b h1
    · exact ⟨la, by rw [List.length_map]; exact lu, us, _, vals_ints iu, la⟩
  have sq0 : SqL K (at0 K T a O) a (ns.map V.int) := by
    cases q : K.lookup a with
    | some o =>
      have e := inK a o q
      rw [la] at e
      cases e
      exact .inr ⟨_, us.toArray, _, q, rfl, rfl, rfl, by rw [List.size_toArray, lv]; exact lu, by simpa using vals_ints iu⟩
    | none => exact .inl (.inr ⟨_, (if_neg naT).trans (if_pos ⟨rfl, by rw [q]; rfl⟩)⟩)
  have env0 : Env0 P w K mg (hidT s1.heap (at0 K T a O)) callerA [] s1 (at0 K T a O) := ⟨rfl, mod0, fun b o e => of_hidT e, Nat.le_of_eq (hidT_size _ _), trivial, fun b z => absurd (show b ∈ ([] : List Addr) from z) (by simp), hok0, .of_eq gens⟩
  refine codeAny_mono ((F _ in0 (ns0 ng) tab0).run callerA [] s1 (at0 K T a O) ⟨[.ref a], []⟩ [.ref a] [.ref a] _ _ rfl room env0 (bind s1 (.ref a)) (.cons rfl .nil) (ask _ (fun p hp => if_pos (inT p hp)) sq0)) fun r s' h => ?_
  match r, h with
  | .error e, h => exact False.elim h
  | .ok .next, h => exact False.elim h
  | .ok .brk, h => exact False.elim h
  | .ok .cont, h => exact False.elim h
  | .ok (.ret u), h =>
    obtain ⟨v, H', os, bare, un, hok', rv, q⟩ := h
    obtain rfl : v = .bl true := q
    obtain rfl : u = Value.bool true := rv
    have kept : ∀ b o, b ∉ T → s1.heap.get? b = some o → s'.heap.get? b = some o := fun b o nt e => by
      cases z : at0 K T a O b with
      | none => exact un.keep b o e z (fun y => absurd (show b ∈ ([] : List Addr) from y) (by simp)) (by simp)
      | some u =>
        rcases at0_cases z with ⟨h1, _⟩ | ⟨_, rfl, _, rfl⟩
        · exact absurd h1 nt
        · obtain ⟨e2, _⟩ := hok' b _ (un.frzs b _ _ z)
          rw [la] at e
          cases e
          exact e2
    have tabs : ∀ b ∈ T, ∃ more : Array Value, s'.heap.get? b = some (PySem.W.tabObj more) := fun b hb => by
      obtain ⟨more, z⟩ := un.tbls b #[] (if_pos hb)
      exact ⟨_, hok' b _ z⟩
    refine ⟨rfl, ⟨fun b o e => ?_, fun b o e => ?_⟩, os, bare⟩
    · by_cases hb : b ∈ T
      · obtain ⟨more, z⟩ := tabs b hb
        obtain ⟨p, hp, rfl⟩ := List.mem_map.mp hb
        have e3 := te p hp
        rw [e] at e3
        cases e3
        exact .inr (.inl ⟨((tc p hp).tab (te p hp)).isCodeTable, rfl, #[], more, rfl, by rw [Array.empty_append]; exact z⟩)
      · exact .inl (kept b o hb e)
    · by_cases hb : b ∈ T
      · obtain ⟨more, z⟩ := tabs b hb
        exact ⟨_, z⟩
      · exact ⟨o, kept b o hb e⟩
end
end Gd
namespace K01
open PySem PySem.Spec PyProof.Rows L2 GxR Nw Dr Kp Se Cl Od Kc
abbrev sLaw : Stmt := topS 19
abbrev nLaw : List Str := ["script", "feed", "turn", "things", "claim", "book", "at", "thing", "shown", "found", "whole", "some", "k"]
theorem scL : FnScope nLaw ["script"] (defScope sLaw) := ⟨rfl, rfl, rfl, by decide +kernel, rfl, by decide +kernel, by decide +kernel⟩
structure Zk (mg : Str → Option Value) : Prop where
  z_len : mg "len" = none
  z_range : mg "range" = none
  z_list : mg "list" = none
  z_tuple : mg "tuple" = none
  z_repr : mg "repr" = none
  z_isinstance : mg "isinstance" = none
  z_bool : mg "bool" = none
/-- the pen and the tables -/
structure Ct (fe c Pb Pc Pr Po : Addr) (B : Nat) (H : Hp) : Prop where
  fe : Feed H fe c B
  tb : TabG H Pb
  tc : TabG H Pc
  tr : TabG H Pr
  to : TabG H Po
theorem Ct.ke {fe c Pb Pc Pr Po : Addr} {B B' : Nat} {H H' : Hp} (x : Ct fe c Pb Pc Pr Po B H) (k : Ke (· = fe) H H') (F : Feed H' fe c B') : Ct fe c Pb Pc Pr Po B' H' := ⟨F, k.tabs _ x.tb, k.tabs _ x.tc, k.tabs _ x.tr, k.tabs _ x.to⟩
theorem Ct.no {fe c Pb Pc Pr Po : Addr} {B : Nat} {H H' : Hp} (x : Ct fe c Pb Pc Pr Po B H) (k : Ke Nof H H') : Ct fe c Pb Pc Pr Po B H' := x.ke k.all (k.feed x.fe)
theorem frs_nf {H : Hp} {f c p : Addr} {B : Nat} (h : Frs H p) (hF : Feed H f c B) : p ≠ f := by
  obtain ⟨ns, n, r, h1, _⟩ := hF
  exact Ne.symm (h f _ h1 fun ps z => by cases z)
def cdt (c : List Int) : PyData := .tuple (c.map PyData.int)
theorem bk_od {f : Addr → Prop} {H : Hp} : ∀ {vs : List V} {css : List (List Int)}, vs.length = css.length → (∀ (i : Nat) (x : V) (cs : List Int), vs[i]? = some x → css[i]? = some cs → TupI H x cs) → OdAll f H vs (css.map cdt)
  | [], [], _, _ => .nil
  | [], _ :: _, h, _ => by cases h
  | _ :: _, [], h, _ => by cases h
  | v :: vs, c :: css, h, t => by
    obtain ⟨a, rfl, ha⟩ := t 0 v c rfl rfl
    exact .cons (.tup ha (od_ints c)) (bk_od (by simpa using h) fun i x cs h1 h2 => t (i + 1) x cs h1 h2)
theorem cl_dat {cs : List Int} (c : IsCl cs) : ClD (cdt cs) := ⟨cs, rfl, c.up, c.says, c.opp⟩
theorem od_rep {f : Addr → Prop} {H : Hp} {vs : List V} {ds : List PyData} (h : OdAll f H vs ds) : ∀ n : Nat, OdAll f H (List.replicate n vs).flatten (List.replicate n ds).flatten
  | 0 => .nil
  | n + 1 => by
    rw [List.replicate_succ, List.replicate_succ, List.flatten_cons, List.flatten_cons]
    exact h.cat (od_rep h n)
theorem rep_len {α : Type} (l : List α) : ∀ n : Nat, (List.replicate n l).flatten.length = n * l.length
  | 0 => by simp
  | n + 1 => by
    rw [List.replicate_succ, List.flatten_cons, List.length_append, rep_len l n, Nat.succ_mul, Nat.add_comm]
theorem rep_mem {α : Type} {l : List α} {x : α} {n : Nat} (h : x ∈ (List.replicate n l).flatten) : x ∈ l := by
  obtain ⟨m, hm, hx⟩ := List.mem_flatten.mp h
  rw [List.mem_replicate] at hm
  rw [← hm.2]
  exact hx
theorem same_tf {b b' : Bool} {p : Prop} (h : b = true ↔ p) (g : b' = true ↔ p) : b = b' := Bool.eq_iff_iff.mpr (h.trans g.symm)
theorem l60_cl {cs : List Int} (c : IsCl cs) : L60 (cdt cs) := fun ds e => by
  have := c.len
  rw [← PyData.tuple.inj e, List.length_map]
  omega
theorem all_l60 {css : List (List Int)} (h : ∀ cs ∈ css, IsCl cs) : ∀ e ∈ css.map cdt, L60 e := fun e he => by
  obtain ⟨c, hc, rfl⟩ := List.mem_map.mp he
  exact l60_cl (h c hc)
theorem all_cl {css : List (List Int)} (h : ∀ cs ∈ css, IsCl cs) : ∀ e ∈ css.map cdt, ClD e := fun e he => by
  obtain ⟨c, hc, rfl⟩ := List.mem_map.mp he
  exact cl_dat (h c hc)
theorem cut_t (xs : List V) (n : Nat) : cutV xs none (some (n : Int)) = xs.take n := by
  unfold cutV
  rw [HT.sIx_none, HT.sIx_nat, List.drop_zero, Nat.sub_zero]
  by_cases h : n ≤ xs.length
  · rw [Nat.min_eq_left h]
  · rw [Nat.min_eq_right (by omega), List.take_length, List.take_of_length_le (by omega)]
theorem cut_d (xs : List V) (n : Nat) : cutV xs (some (n : Int)) none = xs.drop n := by
  unfold cutV
  rw [HT.sIx_none, HT.sIx_nat]
  by_cases h : n ≤ xs.length
  · rw [Nat.min_eq_left h]
    exact List.take_of_length_le (by rw [List.length_drop]; omega)
  · rw [Nat.min_eq_right (by omega), List.drop_of_length_le (by omega : xs.length ≤ n), List.drop_of_length_le (Nat.le_refl _), List.take_nil]
theorem bk_put {css : List (List Int)} {m : Nat} {d : PyData} (h : ∀ cs ∈ css, IsCl cs) (hm : m < css.length) (h16 : css.length ≤ 16) : BkD (.tuple (((css.map cdt).take m ++ [d]) ++ (css.map cdt).drop (m + 1))) ↔ ClD d := by
  constructor
  · rintro ⟨es, e, _, _, al⟩
    rw [← PyData.tuple.inj e] at al
    exact al d (by simp)
  · intro hd
    refine ⟨_, rfl, ?_, ?_, fun e he => ?_⟩
    · simp
      omega
    · simp
      omega
    · rcases List.mem_append.mp he with z | z
      · rcases List.mem_append.mp z with y | y
        · exact all_cl h e (List.mem_of_mem_take y)
        · rw [List.mem_singleton.mp y]
          exact hd
      · exact all_cl h e (List.mem_of_mem_drop z)
theorem no_long {ds : List PyData} (h : 16 < ds.length) : ¬ BkD (.tuple ds) := fun ⟨es, e, _, l, _⟩ => by
  rw [← PyData.tuple.inj e] at l
  omega
/-- a thing that is asked as a book -/
structure As (d : PyData) : Prop where
  sm : Sm 100000 d
  in_ : ∀ ds, d = .tuple ds → ds.length ≤ 16 → ∀ e ∈ ds, L60 e
theorem as_of {d : PyData} (h : Bent d) : As d := ⟨h.sm.mono (by decide), fun ds e _ => h.in_ ds e⟩
theorem bl_sz (b : Bool) : (PyData.shown (.bool b)).length ≤ sizeLine := by cases b <;> decide +kernel
theorem it_book : It (.str "book") := ⟨⟨rfl, rfl, by show 0 ≤ 6; decide, by decide +kernel⟩, by show 0 ≤ 4; decide, no_l60 fun _ => nofun⟩
theorem sm_cls {ds : List PyData} (h : ∀ d ∈ ds, It d) : SmAll 45 ds := SmAll.of fun d hd => ⟨(h d hd).sm, Nat.le_trans (h d hd).dp (by decide)⟩
theorem it_cls {css : List (List Int)} (h : ∀ cs ∈ css, IsCl cs) : ∀ d ∈ css.map cdt, It d := fun d hd => by
  obtain ⟨c, hc, rfl⟩ := List.mem_map.mp hd
  exact it_claim (h c hc)
def spLaw (Pb Pc Pr Po : Addr) (K : PySem.W.Frag) : Sp := fun vs H Q _ => ∃ (a : Addr) (ns : List Int), vs = [.ref a] ∧ SqL K H a (ns.map V.int) ∧ TabG H Pb ∧ TabG H Pc ∧ TabG H Pr ∧ TabG H Po ∧ ∀ H', Q (.bl true) H'
section
variable {P : Program} {w : World} {K : PySem.W.Frag} {mg : Str → Option Value} {base : Heap}
theorem ok_law {f fO fD fT fC fI fB fX fY fE Pb Pc Pr Po : Addr} {fd fdO fdD fdT fdC fdI fdB fdX fdY fdE : FuncData} (FL : Fun K "law" "law" sLaw f fd) (T : Zk mg)
    (FO : Fun K "_law_sopen" "_law_sopen" sOpn fO fdO) (bO : Binds K fdO ["script"] []) (gO : mg "_law_sopen" = some (.ref fO)) (GO : FnOk P w K mg base CX0 1 fO fdO ["script"] (spOpn K))
    (FD : Fun K "_law_sdraw" "_law_sdraw" sDrw fD fdD) (bD : Binds K fdD ["feed", "many"] []) (gD : mg "_law_sdraw" = some (.ref fD)) (GD : FnOk P w K mg base CX0 2 fD fdD ["feed", "many"] spDrw)
    (FT : Fun K "_law_sthings" "_law_sthings" sThg fT fdT) (bT : Binds K fdT ["feed", "least", "most"] []) (gT : mg "_law_sthings" = some (.ref fT)) (GT : FnOk P w K mg base CX0 3 fT fdT ["feed", "least", "most"] spThg)
    (FC : Fun K "_law_sclaim" "_law_sclaim" sClm fC fdC) (bC : Binds K fdC ["feed", "things", "most"] []) (gC : mg "_law_sclaim" = some (.ref fC)) (GC : FnOk P w K mg base CX0 3 fC fdC ["feed", "things", "most"] spClm)
    (kpI : PySem.W.keepIn K (.ref fI) = true) (bI : Binds K fdI ["thing"] []) (gI : mg "is_claim" = some (.ref fI)) (GI : FnOk P w K mg base CX0 5 fI fdI ["thing"] (spClG Pc Pr Po))
    (kpB : PySem.W.keepIn K (.ref fB) = true) (bB : Binds K fdB ["thing"] []) (gB : mg "is_book" = some (.ref fB)) (GB : FnOk P w K mg base CX0 8 fB fdB ["thing"] (spBoG Pb Pc Pr Po))
    (FX : Fun K "_law_s_is_claim" "_law_s_is_claim" sSic fX fdX) (bX : Binds K fdX ["thing"] []) (gX : mg "_law_s_is_claim" = some (.ref fX)) (GX : FnOk P w K mg base CX0 2 fX fdX ["thing"] (spClG Pc Pr Po))
    (FY : Fun K "_law_s_is_book" "_law_s_is_book" sSib fY fdY) (bY : Binds K fdY ["thing"] []) (gY : mg "_law_s_is_book" = some (.ref fY)) (GY : FnOk P w K mg base CX0 3 fY fdY ["thing"] (spBoG Pb Pc Pr Po))
    (FE : Fun K "_law_s_bent" "_law_s_bent" sSbe fE fdE) (bE : Binds K fdE ["feed", "claim"] []) (gE : mg "_law_s_bent" = some (.ref fE)) (GE : FnOk P w K mg base CX0 3 fE fdE ["feed", "claim"] spSbe) :
    Gd.FnG P w K mg base 9 f fd ["script"] (spLaw Pb Pc Pr Po K) := by
  refine Gd.okG FL scL (fun vs H Q E h => ?_) (fun cdv A outer s H vs Q E gd0 hr h => ?_)
  · obtain ⟨a, ns, rfl, _⟩ := h
    rfl
  · obtain ⟨a, ns, rfl, hS, tb, tc, tr, to, q⟩ := h
    have gd : (A.deeper (envOfC "law" (defScope sLaw) s.heap.objs.size f cdv)).guards = some [] := gd0
    have hu : (A.deeper (envOfC "law" (defScope sLaw) s.heap.objs.size f cdv)).units + 70 < cLine := by
      have := hr.un
      omega
    have hr1 : Room 1 _ := hr.mono (by decide)
    have hr2 : Room 2 _ := hr.mono (by decide)
    have hr3 : Room 3 _ := hr.mono (by decide)
    have hr5 : Room 5 _ := hr.mono (by decide)
    have hr8 : Room 8 _ := hr.mono (by decide)
    refine ⟨_, (Evl.pss_cut (ps_set (i := 1) scL.nd rfl (.inr rfl) (pe_call GO hr1 (by rfl) gO FO.kp bO .nil pass0 (pa_cons (pv 0) pa_nil)))
      (Evl.pss_cut (ps_for PassesOwn.never rfl (pi_range1 (by rfl) T.z_range (pa_cons pe_int pa_nil)) (pg_name (i := 2) scL.nd rfl (.inl rfl)) (Evl.pss_cut (ps_set (i := 3) scL.nd rfl (.inr rfl) (pe_call GT hr3 (by rfl) gT FT.kp bT .nil pass0 (pa_cons (pv 1) (pa_cons pe_int (pa_cons pe_int pa_nil)))))
      (Evl.pss_cut (ps_set (i := 4) scL.nd rfl (.inl rfl) (pe_call GC hr3 (by rfl) gC FC.kp bC .nil pass0 (pa_cons (pv 1) (pa_cons (pv 3) (pa_cons pe_int pa_nil)))))
      (Evl.pss_cut (ps_set (i := 5) scL.nd rfl (.inl rfl) (pe_callTy call_tuple_ofN (by rfl) T.z_tuple (by decide +kernel) (pa_cons (pe_lc (own := [("k", 12)]) (g := (gName 12)) (tt := tYes) rfl scL.nd (pi_range1 (by rfl) T.z_range (pa_cons (pe_op op_add pe_int (pe_call GD hr2 (by rfl) gD FD.kp bD .nil pass0 (pa_cons (pv 1) (pa_cons pe_int pa_nil)))) pa_nil)) (blkOk_by (N := nLaw) (sc := defScope sLaw) (by decide +kernel)) (fun _ _ _ _ _ => (pg_name (i := 12) scL.nd rfl (.inl rfl))) (fun _ _ _ _ _ => pts_nil) (fun _ _ _ _ _ => (pe_call GC hr3 (by rfl) gC FC.kp bC .nil pass0 (pa_cons (pv 1) (pa_cons (pv 3) (pa_cons pe_int pa_nil)))))) pa_nil)))
      (Evl.pss_cut (ps_if (PW.pt (pw_or (pt_cmpR op_isnot_bl (pe_call GI hr5 (by rfl) gI kpI bI .nil pass0 (pa_cons (pv 4) pa_nil)) pe_bl (nomark _)) (pw_or1 (pt_cmpR op_isnot_bl (pe_call GB hr8 (by rfl) gB kpB bB .nil pass0 (pa_cons (pv 5) pa_nil)) pe_bl (nomark _))))) (pss_one (ps_ret pe_bl)) pss_nil)
      (Evl.pss_cut (ps_set (i := 6) scL.nd rfl (.inl rfl) (pe_call GD hr2 (by rfl) gD FD.kp bD .nil pass0 (pa_cons (pv 1) (pa_cons (pe_callB call_len_seq (by rfl) T.z_len (by decide +kernel) (pa_cons (pv 5) pa_nil)) pa_nil))))
      (Evl.pss_cut (ps_for PassesOwn.never rfl (pi_list (pe_call GE hr3 (by rfl) gE FE.kp bE .nil pass0 (pa_cons (pv 1) (pa_cons (pv 4) pa_nil)))) (pg_name (i := 7) scL.nd rfl (.inl rfl)) (Evl.pss_cut (ps_set (i := 8) scL.nd rfl (.inl rfl) (pe_callB (Rpa.cr_reprA gd hu) (by rfl) T.z_repr (by decide +kernel) (pa_cons (pv 7) pa_nil)))
      (Evl.pss_cut (ps_set (i := 9) scL.nd rfl (.inl rfl) (pe_call GI hr5 (by rfl) gI kpI bI .nil pass0 (pa_cons (pv 7) pa_nil)))
      (Evl.pss_cut (ps_set (i := 10) scL.nd rfl (.inl rfl) (pe_call GB hr8 (by rfl) gB kpB bB .nil pass0 (pa_cons (pe_op op_catTN (pe_op op_catTN (pe_slice sl_tupN (pv 5) po_none (po_some (pv 6))) (pe_tupN (pa_cons (pv 7) pa_nil))) (pe_slice sl_tupN (pv 5) (po_some (pe_op op_add (pv 6) pe_int)) po_none)) pa_nil)))
      (Evl.pss_cut (ps_if (PW.pt (pw_or (pt_not (pt_val (pe_callB call_isi (by rfl) T.z_isinstance (by decide +kernel) (pa_cons (pv 9) (pa_cons (pe_bltn (v := .ty "bool") (u := .type "bool") (by rfl) T.z_bool (by decide +kernel) rfl) pa_nil))))) (pw_or1 (pt_cmpR op_ne (pv 9) (pe_call GX hr2 (by rfl) gX FX.kp bX .nil pass0 (pa_cons (pv 7) pa_nil)) (nomark _))))) (pss_one (ps_ret pe_bl)) pss_nil)
      (Evl.pss_cut (ps_if (PW.pt (pw_or (pt_not (pt_val (pe_callB call_isi (by rfl) T.z_isinstance (by decide +kernel) (pa_cons (pv 10) (pa_cons (pe_bltn (v := .ty "bool") (u := .type "bool") (by rfl) T.z_bool (by decide +kernel) rfl) pa_nil))))) (pw_or1 (pt_cmpR op_ne (pv 10) (pv 9) (nomark _))))) (pss_one (ps_ret pe_bl)) pss_nil)
      (Evl.pss_cut (ps_if (pt_cmpR op_ne (pe_callB (Rpa.cr_reprA gd hu) (by rfl) T.z_repr (by decide +kernel) (pa_cons (pe_call GB hr8 (by rfl) gB kpB bB .nil pass0 (pa_cons (pv 7) pa_nil)) pa_nil)) (pe_callB (Rpa.cr_reprA gd hu) (by rfl) T.z_repr (by decide +kernel) (pa_cons (pe_call GY hr3 (by rfl) gY FY.kp bY .nil pass0 (pa_cons (pv 7) pa_nil)) pa_nil)) (nomark _)) (pss_one (ps_ret pe_bl)) pss_nil)
      (pss_one (ps_if (PW.pt (pw_or (pt_cmpR op_isnot_bl (pe_call GB hr8 (by rfl) gB kpB bB .nil pass0 (pa_cons (pe_op op_catTN (pe_tupN (pa_cons (pv 7) pa_nil)) (pe_op op_repTN (pv 5) pe_int)) pa_nil)) pe_bl (nomark _)) (pw_or1 (pt_cmpR op_ne (pe_callB (Rpa.cr_reprA gd hu) (by rfl) T.z_repr (by decide +kernel) (pa_cons (pv 7) pa_nil)) (pv 8) (nomark _))))) (pss_one (ps_ret pe_bl)) pss_nil)))))))))
      (Evl.pss_cut (ps_set (i := 11) scL.nd rfl (.inl rfl) (pe_lstN (pa_cons (pe_callTy call_list_ofN (by rfl) T.z_list (by decide +kernel) (pa_cons (pv 5) pa_nil)) (pa_cons (pe_tupN pa_nil) (pa_cons (pe_op op_catTN (pe_op op_repTN (pv 5) pe_int) (pe_slice sl_tupN (pv 5) po_none (po_some pe_int))) (pa_cons pe_non (pa_cons pe_int (pa_cons (pe_op op_pow pe_int pe_int) (pa_cons (pe_un un_neg pe_int) (pa_cons pe_str pa_nil))))))))))
      (pss_one (ps_for PassesOwn.never rfl (pi_list (pe_op op_catN (pv 11) (pe_lstN (pa_cons (pv 4) (pa_cons (pe_slice sl_tupN (pv 4) po_none (po_some pe_int)) (pa_cons (pe_tupN (pa_cons (pe_callTy call_list_ofN (by rfl) T.z_list (by decide +kernel) (pa_cons (pe_ix ix_tup (pv 5) pe_int (fun _ _ => rfl)) pa_nil)) pa_nil)) (pa_cons pe_str (pa_cons (pe_lstN (pa_cons (pe_lstN pa_nil) pa_nil)) pa_nil)))))))) (pg_name (i := 7) scL.nd rfl (.inl rfl)) (Evl.pss_cut (ps_set (i := 8) scL.nd rfl (.inl rfl) (pe_callB (Rpa.cr_reprA gd hu) (by rfl) T.z_repr (by decide +kernel) (pa_cons (pv 7) pa_nil)))
      (pss_one (ps_if (PW.pt (pw_or (pt_cmpR op_ne (pe_callB (Rpa.cr_reprA gd hu) (by rfl) T.z_repr (by decide +kernel) (pa_cons (pe_call GB hr8 (by rfl) gB kpB bB .nil pass0 (pa_cons (pv 7) pa_nil)) pa_nil)) (pe_callB (Rpa.cr_reprA gd hu) (by rfl) T.z_repr (by decide +kernel) (pa_cons (pe_call GY hr3 (by rfl) gY FY.kp bY .nil pass0 (pa_cons (pv 7) pa_nil)) pa_nil)) (nomark _)) (pw_or1 (pt_cmpR op_ne (pe_callB (Rpa.cr_reprA gd hu) (by rfl) T.z_repr (by decide +kernel) (pa_cons (pv 7) pa_nil)) (pv 8) (nomark _))))) (pss_one (ps_ret pe_bl)) pss_nil)))))))))))))
      (pss_one (ps_ret (pe_and (pe_cmpR op_is_bl (pe_call GB hr8 (by rfl) gB kpB bB .nil pass0 (pa_cons (pe_op op_repTN (pe_tupN (pa_cons (pe_tupN pa_nil) pa_nil)) pe_int) pa_nil)) pe_bl (nomark _)) (pe_one (pe_cmpR op_is_bl (pe_call GB hr8 (by rfl) gB kpB bB .nil pass0 (pa_cons (pe_op op_repTN (pe_tupN (pa_cons (pe_tupN pa_nil) pa_nil)) pe_int) pa_nil)) pe_bl (nomark _)))))))), ?_⟩
    -- feed
    refine Evl.q_cut (M := fun σ' H' => ∃ fe c : Addr, σ' = [some (.ref a), some (.ref fe), none, none, none, none, none, none, none, none, none, none, none] ∧ Ct fe c Pb Pc Pr Po 0 H') ?_ ?_
    · refine ⟨.ref a, rfl, a, ns, rfl, hS, fun fe c H1 nf nc s1 F1 => ⟨fe, c, rfl, F1, ?_, ?_, ?_, ?_⟩⟩
      · exact (Ke.same (F := Nof) s1).tabs _ tb
      · exact (Ke.same (F := Nof) s1).tabs _ tc
      · exact (Ke.same (F := Nof) s1).tabs _ tr
      · exact (Ke.same (F := Nof) s1).tabs _ to
    rintro σ' H1 ⟨fe, c, rfl, C1⟩
    refine Evl.q_cut (M := fun σ' H' => ∃ y2 y3 y4 y5 y6 y7 y8 y9 y10 y11 : Option V, σ' = [some (.ref a), some (.ref fe), y2, y3, y4, y5, y6, y7, y8, y9, y10, y11, none] ∧ Ct fe c Pb Pc Pr Po 1600 H') ?_ ?_
    · refine ⟨4, rfl, by decide, by decide, for_range (Pv := fun i σ H' => ∃ y2 y3 y4 y5 y6 y7 y8 y9 y10 y11 : Option V, σ = [some (.ref a), some (.ref fe), y2, y3, y4, y5, y6, y7, y8, y9, y10, y11, none] ∧ Ct fe c Pb Pc Pr Po (400 * i) H') ?_ ?_ ?_⟩
      · exact ⟨none, none, none, none, none, none, none, none, none, none, rfl, C1⟩
      · clear C1 H1
        rintro i σ H2 hi ⟨y2, y3, y4, y5, y6, y7, y8, y9, y10, y11, rfl, C2⟩
        have hi : i < 4 := hi
        -- things
        refine Evl.q_cut (M := fun σ' H' => ∃ (t : Addr) (ks : List Int), σ' = [some (.ref a), some (.ref fe), some (.int (0 + (i : Int))), some (.ref t), y4, y5, y6, y7, y8, y9, y10, y11, none] ∧ Ct fe c Pb Pc Pr Po (400 * i + 10) H' ∧ H' t = some (.lst (ks.map V.int)) ∧ t ≠ fe ∧ Thg ks) ?_ ?_
        · refine ⟨_, rfl, fe, c, 1, 8, _, rfl, by decide, by decide, by decide, C2.fe, by omega, fun ks p H3 F3 k3 fr hp Tk l1 l2 => ?_⟩
          exact ⟨p, ks, rfl, C2.ke k3 F3, hp, frs_nf fr C2.fe, Tk⟩
        clear C2 H2 y2 y3
        rintro σ' H2 ⟨t, ks, rfl, C2, ht, ntf, Tk⟩
        -- claim
        refine Evl.q_cut (M := fun σ' H' => ∃ (l : Addr) (cs : List Int), σ' = [some (.ref a), some (.ref fe), some (.int (0 + (i : Int))), some (.ref t), some (.ref l), y5, y6, y7, y8, y9, y10, y11, none] ∧ Ct fe c Pb Pc Pr Po (400 * i + 30) H' ∧ H' t = some (.lst (ks.map V.int)) ∧ H' l = some (.tup (cs.map V.int)) ∧ IsCl cs) ?_ ?_
        · refine ⟨_, rfl, _, rfl, fe, c, t, 8, _, ks, rfl, by decide, by decide, ht, Tk, C2.fe, by omega, fun cs p H3 F3 k3 _ hp h1 h2 _ => ?_⟩
          exact ⟨p, cs, rfl, C2.ke k3 F3, k3.lst ht ntf, hp, h1⟩
        clear C2 ht H2 y4
        rintro σ' H2 ⟨l, cs, rfl, C2, ht, hl, hcs⟩
        -- book
        refine Evl.q_cut (M := fun σ' H' => ∃ (b : Addr) (css : List (List Int)), σ' = [some (.ref a), some (.ref fe), some (.int (0 + (i : Int))), some (.ref t), some (.ref l), some (.ref b), y6, y7, y8, y9, y10, y11, none] ∧ Ct fe c Pb Pc Pr Po (400 * i + 360) H' ∧ H' l = some (.tup (cs.map V.int)) ∧ Bk H' (.ref b) css ∧ (∀ cs ∈ css, IsCl cs) ∧ 1 ≤ css.length ∧ css.length ≤ 16) ?_ ?_
        · refine ⟨_, rfl, fe, c, 16, _, rfl, by decide, by decide, C2.fe, by omega, fun d H4 d0 d1 F4 b4 => ?_⟩
          have k4 : Ke (· = fe) H2 H4 := .but C2.fe b4
          refine ⟨_, _, rfl, rfl, 1 + d, rfl, by omega, by omega, fun D nD => ?_⟩
          have nDf : D ≠ fe := F4.nf nD
          have nDc : D ≠ c := F4.nc nD
          refine lc_range (Pv := fun j H' => ∃ (css : List (List Int)) (vs : List V), Feed H' fe c (400 * i + 31 + 20 * j) ∧ Ke (· = fe) H4 H' ∧ H' D = some (.lst vs) ∧ vs.length = css.length ∧ (∀ (i : Nat) (x : V) (cs : List Int), vs[i]? = some x → css[i]? = some cs → TupI H' x cs) ∧ (∀ cs ∈ css, IsCl cs) ∧ css.length = j) ?_ ?_ ?_
          · exact ⟨[], [], F4.same (same_new nD), .same (same_new nD), upd_same, rfl, fun i x cs h => by simp at h, fun cs h => (nomatch h), rfl⟩
          · rintro j H5 hj ⟨css, vs, F5, k5, hD, lv, hv, oc, lc⟩
            have hj : j < (1 + d).toNat := hj
            refine ⟨rfl, _, rfl, _, rfl, fe, c, t, 4, _, ks, rfl, by decide, by decide, k5.lst (k4.lst ht ntf) ntf, Tk, F5, by omega, fun cs p H6 F6 k6 _ hp h1 h2 _ => ?_⟩
            have hD6 := k6.lst hD nDf
            have tp : ∀ {x : V} {ds : List Int}, TupI H6 x ds → TupI (upd H6 D (.lst (vs ++ [.ref p]))) x ds := fun {x ds} ⟨a, e, h⟩ => ⟨a, e, by
              have n : a ≠ D := fun z => by
                rw [z, hD6] at h
                cases h
              rw [upd_ne n]
              exact h⟩
            refine ⟨_, hD6, small1000 (by omega), css ++ [cs], vs ++ [.ref p], (F6.upd nDf nDc).mono (by omega), (k5.trans k6).write (.of nD) hD6, upd_same, by rw [List.length_append, List.length_append, lv]; rfl, fun n x ds h1 h2 => ?_, fun ds hd => ?_, by rw [List.length_append, lc]; rfl⟩
            · rcases Nat.lt_or_ge n vs.length with g | g
              · rw [List.getElem?_append_left g] at h1
                rw [List.getElem?_append_left (by omega)] at h2
                exact tp ((hv n x ds h1 h2).ke k6)
              · rw [List.getElem?_append_right g] at h1
                rw [List.getElem?_append_right (by omega)] at h2
                have e0 : n - vs.length = 0 := by
                  have := (List.getElem?_eq_some_iff.mp h1).1
                  simp at this
                  omega
                rw [e0] at h1
                rw [← lv, e0] at h2
                cases h1
                cases h2
                exact tp ⟨p, rfl, hp⟩
            · rcases List.mem_append.mp hd with z | z
              · exact oc ds z
              · rw [List.mem_singleton.mp z]
                exact h1
          · rintro H5 ⟨css, vs, F5, k5, hD, lv, hv, oc, lc⟩
            refine ⟨D, vs, rfl, .of hD, fun p H6 np s6 hp _ => ?_⟩
            have k6 : Ke (· = fe) H2 H6 := (k4.trans k5).trans (.same s6)
            have lc' : css.length = (1 + d).toNat := lc
            exact ⟨p, css, rfl, C2.ke k6 ((F5.same s6).mono (by omega)), k6.tups _ _ hl, ⟨p, vs, rfl, hp, lv, fun i x cs h1 h2 => (hv i x cs h1 h2).ke (Ke.same (F := Nof) s6)⟩, oc, by omega, by omega⟩
        clear C2 ht hl H2 y5
        rintro σ' H2 ⟨b, css, rfl, C2, hl, hb, oc, m1, m16⟩
        obtain ⟨b', bvs, e, hb, lv, hv⟩ := hb
        cases e
        have bo : ∀ {f : Addr → Prop}, OdAll f H2 bvs (css.map cdt) := bk_od lv hv
        -- both are known
        refine Evl.q_cut (M := fun σ' H' => σ' = [some (.ref a), some (.ref fe), some (.int (0 + (i : Int))), some (.ref t), some (.ref l), some (.ref b), y6, y7, y8, y9, y10, y11, none] ∧ Ke Nof H2 H') ?_ ?_
        · refine ⟨_, rfl, Nof, .ref l, cdt cs, rfl, .tup hl (od_ints cs), l60_cl hcs, C2.tc, C2.tr, C2.to, fun b1 H3 hb1 k3 => ?_⟩
          obtain rfl : b1 = true := hb1.mpr (cl_dat hcs)
          refine ⟨true, true, rfl, rfl, _, rfl, ite2 (fun e => absurd e (by decide)) (fun e => ?_)⟩
          have C3 := C2.no k3
          refine ⟨_, rfl, Nof, .ref b, .tuple (css.map cdt), rfl, .tup (k3.tups _ _ hb) (bo.ke k3), fun ds e _ => by rw [← PyData.tuple.inj e]; exact all_l60 oc, C3.tb, C3.tc, C3.tr, C3.to, fun b2 H4 hb2 k4 => ?_⟩
          obtain rfl : b2 = true := hb2.mpr ⟨_, rfl, by rw [List.length_map]; exact m1, by rw [List.length_map]; exact m16, all_cl oc⟩
          exact ⟨true, true, rfl, rfl, _, rfl, ite2 (fun e => absurd e (by decide)) (fun e => ⟨rfl, k3.trans k4⟩)⟩
        rintro σ' H3 ⟨rfl, k3⟩
        have C3 := C2.no k3
        -- at
        refine Evl.q_cut (M := fun σ' H' => ∃ m : Nat, σ' = [some (.ref a), some (.ref fe), some (.int (0 + (i : Int))), some (.ref t), some (.ref l), some (.ref b), some (.int (m : Nat)), y7, y8, y9, y10, y11, none] ∧ m < css.length ∧ Ct fe c Pb Pc Pr Po (400 * i + 361) H' ∧ Ke (· = fe) H2 H') ?_ ?_
        · refine ⟨_, rfl, _, rfl, b, _, rfl, .inr (.of (k3.tups _ _ hb)), fe, c, _, _, rfl, by omega, by omega, C3.fe, by omega, fun d H4 d0 d1 F4 b4 => ⟨d.toNat, ?_, by omega, C3.ke (.but C3.fe b4) F4, k3.all.trans (.but C3.fe b4)⟩⟩
          rw [Int.toNat_of_nonneg d0]
          rfl
        clear C3 k3 H3 y6
        rintro σ' H3 ⟨m, rfl, hm, C3, k3⟩
        -- the bent ones
        refine Evl.q_cut (M := fun σ' H' => ∃ y7 y8 y9 y10 : Option V, σ' = [some (.ref a), some (.ref fe), some (.int (0 + (i : Int))), some (.ref t), some (.ref l), some (.ref b), some (.int (m : Nat)), y7, y8, y9, y10, y11, none] ∧ Ct fe c Pb Pc Pr Po (400 * i + 362) H' ∧ Ke (· = fe) H2 H') ?_ ?_
        · refine ⟨_, rfl, _, rfl, fe, c, l, _, cs, rfl, C3.fe, by omega, k3.tups _ _ hl, hcs, fun D us ds H4 F4 k4 fr hD od bt ln => ?_⟩
          have C4 := C3.ke k4 F4
          have k4' := k3.trans k4
          clear C3 k3 k4 fr H3
          refine ⟨D, rfl, ⟨_, .of hD⟩, for_list (K := K) (a := D) (xs := us) (Pv := fun j σ H' => ∃ y7 y8 y9 y10 : Option V, σ = [some (.ref a), some (.ref fe), some (.int (0 + (i : Int))), some (.ref t), some (.ref l), some (.ref b), some (.int (m : Nat)), y7, y8, y9, y10, y11, none] ∧ Ke Nof H4 H') ?_ (fun j σ H' _ p => ?_) ?_ ?_⟩
          · exact ⟨y7, y8, y9, y10, rfl, .refl _ _⟩
          · obtain ⟨_, _, _, _, _, k5⟩ := p
            exact .of (k5.lst hD fun z => z)
          · clear y7 y8 y9 y10
            rintro j x σ H5 hx ⟨y7, y8, y9, y10, rfl, k5⟩
            obtain ⟨d, hd, ov⟩ := od.at hx
            have bd := bt d (List.mem_of_getElem? hd)
            have ad := as_of bd
            have ov5 := ov.ke k5.all
            -- shown
            refine Evl.q_cut (M := fun σ' H' => σ' = [some (.ref a), some (.ref fe), some (.int (0 + (i : Int))), some (.ref t), some (.ref l), some (.ref b), some (.int (m : Nat)), some x, some (.str d.shown), y9, y10, y11, none] ∧ H' = H5) ?_ ?_
            · exact ⟨_, rfl, x, d, rfl, ov5.dp, ad.sm.sh, ad.sm.nd, Nat.le_trans ad.sm.dp (by decide), Nat.le_trans ad.sm.sz (by decide), rfl, rfl⟩
            rintro σ' H5' ⟨rfl, rfl⟩
            -- found
            refine Evl.q_cut (M := fun σ' H' => ∃ b1 : Bool, σ' = [some (.ref a), some (.ref fe), some (.int (0 + (i : Int))), some (.ref t), some (.ref l), some (.ref b), some (.int (m : Nat)), some x, some (.str d.shown), some (.bl b1), y10, y11, none] ∧ (b1 = true ↔ ClD d) ∧ Ke Nof H4 H') ?_ ?_
            · have C5 := C4.no k5
              exact ⟨_, rfl, _, x, d, rfl, ov5, bd.ln, C5.tc, C5.tr, C5.to, fun b1 H6 hb1 k6 => ⟨b1, rfl, hb1, k5.trans k6⟩⟩
            clear ov5 k5 H5'
            rintro σ' H5 ⟨b1, rfl, hb1, k5⟩
            -- whole
            refine Evl.q_cut (M := fun σ' H' => ∃ b2 : Bool, σ' = [some (.ref a), some (.ref fe), some (.int (0 + (i : Int))), some (.ref t), some (.ref l), some (.ref b), some (.int (m : Nat)), some x, some (.str d.shown), some (.bl b1), some (.bl b2), y11, none] ∧ (b2 = true ↔ ClD d) ∧ Ke Nof H4 H') ?_ ?_
            · have hb5 := k5.tups _ _ (k4'.tups _ _ hb)
              refine ⟨_, rfl, _, rfl, (m : Nat), rfl, b, _, rfl, hb5, fun p1 G1 t1 h1 => ?_⟩
              rw [cut_t] at h1
              refine ⟨_, rfl, by show 1 ≤ sizeLine; decide, fun u G2 nu t2 hu2 _ => ?_⟩
              refine ⟨p1, u, _, _, rfl, rfl, t2 _ _ h1, hu2, Nat.le_trans (by rw [List.length_take]; show _ + 1 ≤ 40; omega) (by decide), fun p2 G3 t3 h2 => ?_⟩
              have u3 := t1.trans (t2.trans t3)
              refine ⟨_, rfl, _, rfl, _, _, rfl, rfl, (m : Int) + 1, rfl, b, _, rfl, u3 _ _ hb5, fun p3 G4 t4 h3 => ?_⟩
              rw [show ((m : Int) + 1) = ((m + 1 : Nat) : Int) from rfl, cut_d] at h3
              refine ⟨p2, p3, _, _, rfl, rfl, t4 _ _ h2, h3, Nat.le_trans (by rw [List.length_append, List.length_take, List.length_drop]; show _ + 1 + _ ≤ 40; omega) (by decide), fun p4 G5 t5 h4 => ?_⟩
              have k6 : Ke Nof H4 G5 := k5.trans (.same (u3.trans (t4.trans t5)))
              have C6 := C4.no k6
              have bo6 : OdAll (· = fe) G5 bvs (css.map cdt) := (bo.ke k4').ke k6.all
              refine ⟨_, .ref p4, .tuple (((css.map cdt).take m ++ [d]) ++ (css.map cdt).drop (m + 1)), rfl, .tup h4 (((bo6.take m).cat (.one (ov.ke k6.all))).cat (bo6.drop (m + 1))), fun es e _ => ?_, C6.tb, C6.tc, C6.tr, C6.to, fun b2 H7 hb2 k7 => ⟨b2, rfl, hb2.trans (bk_put oc hm m16), k6.trans k7⟩⟩
              rw [← PyData.tuple.inj e]
              intro y hy
              rcases List.mem_append.mp hy with z | z
              · rcases List.mem_append.mp z with v | v
                · exact all_l60 oc y (List.mem_of_mem_take v)
                · rw [List.mem_singleton.mp v]
                  exact bd.ln
              · exact all_l60 oc y (List.mem_of_mem_drop z)
            clear k5 H5 y10
            rintro σ' H5 ⟨b2, rfl, hb2, k5⟩
            -- found is a truth, and right
            refine Evl.q_cut (M := fun σ' H' => σ' = [some (.ref a), some (.ref fe), some (.int (0 + (i : Int))), some (.ref t), some (.ref l), some (.ref b), some (.int (m : Nat)), some x, some (.str d.shown), some (.bl b1), some (.bl b2), y11, none] ∧ Ke Nof H4 H') ?_ ?_
            · have C5 := C4.no k5
              refine ⟨_, rfl, .bl b1, .ty "bool", .type "bool", .type "bool", true, rfl, .ty _, .base (.bl b1), kit_ty (by decide +kernel), _, rfl, ?_⟩
              refine ⟨_, rfl, _, rfl, _, x, d, rfl, ov.ke k5.all, bd.ln, C5.tc, C5.tr, C5.to, fun b3 H6 hb3 k6 => ?_⟩
              obtain rfl := same_tf hb1 hb3
              exact ⟨rfl, _, rfl, ite2 (fun e => absurd e (by simp)) (fun e => ⟨rfl, k5.trans k6⟩)⟩
            clear k5 H5
            rintro σ' H5 ⟨rfl, k5⟩
            -- whole is a truth, and right
            refine Evl.q_cut (M := fun σ' H' => σ' = [some (.ref a), some (.ref fe), some (.int (0 + (i : Int))), some (.ref t), some (.ref l), some (.ref b), some (.int (m : Nat)), some x, some (.str d.shown), some (.bl b1), some (.bl b2), y11, none] ∧ H' = H5) ?_ ?_
            · refine ⟨_, rfl, .bl b2, .ty "bool", .type "bool", .type "bool", true, rfl, .ty _, .base (.bl b2), kit_ty (by decide +kernel), _, rfl, ?_⟩
              obtain rfl := same_tf hb1 hb2
              exact ⟨_, rfl, _, rfl, rfl, _, rfl, ite2 (fun e => absurd e (by simp)) (fun e => ⟨rfl, rfl⟩)⟩
            rintro σ' H5' ⟨rfl, rfl⟩
            -- as a book
            refine Evl.q_cut (M := fun σ' H' => σ' = [some (.ref a), some (.ref fe), some (.int (0 + (i : Int))), some (.ref t), some (.ref l), some (.ref b), some (.int (m : Nat)), some x, some (.str d.shown), some (.bl b1), some (.bl b2), y11, none] ∧ Ke Nof H4 H') ?_ ?_
            · have C5 := C4.no k5
              refine ⟨_, rfl, _, x, d, rfl, ov.ke k5.all, ad.in_, C5.tb, C5.tc, C5.tr, C5.to, fun b4 H6 hb4 k6 => ?_⟩
              have C6 := C5.no k6
              refine ⟨.bl b4, .bool b4, rfl, .bl b4, rfl, rfl, by show 0 ≤ 64; decide, bl_sz b4, ?_⟩
              refine ⟨_, rfl, _, x, d, rfl, ov.ke (k5.trans k6).all, ad.in_, C6.tb, C6.tc, C6.tr, C6.to, fun b5 H7 hb5 k7 => ?_⟩
              obtain rfl := same_tf hb4 hb5
              exact ⟨.bl b4, .bool b4, rfl, .bl b4, rfl, rfl, by show 0 ≤ 64; decide, bl_sz b4, rfl, _, rfl, ite2 (fun e => absurd e (by simp)) (fun e => ⟨rfl, (k5.trans k6).trans k7⟩)⟩
            clear k5 H5'
            rintro σ' H5 ⟨rfl, k5⟩
            -- ahead of many claims
            have hb5 := k5.tups _ _ (k4'.tups _ _ hb)
            refine ⟨_, rfl, by show 1 ≤ sizeLine; decide, fun u G1 nu t1 hu2 _ => ?_⟩
            refine ⟨_, rfl, b, 16, bvs, rfl, rfl, t1 _ _ hb5, fun e => ?_, by decide, by decide, by omega, fun p2 G2 t2 h2 => ?_⟩
            · rw [e] at lv
              simp at lv
              omega
            have lr := rep_len bvs 16
            refine ⟨u, p2, _, _, rfl, rfl, t2 _ _ hu2, h2, Nat.le_trans (by rw [show (16 : Int).toNat = 16 from rfl, lr]; show 1 + _ ≤ 1000; omega) (by decide), fun p3 G3 t3 h3 => ?_⟩
            have k6 : Ke Nof H4 G3 := k5.trans (.same (t1.trans (t2.trans t3)))
            have C6 := C4.no k6
            have bo6 : OdAll (· = fe) G3 bvs (css.map cdt) := (bo.ke k4').ke k6.all
            have lg : 16 < ([d] ++ (List.replicate 16 (css.map cdt)).flatten).length := by
              rw [List.length_append, rep_len, List.length_map]
              show 16 < 1 + _
              omega
            refine ⟨_, .ref p3, .tuple ([d] ++ (List.replicate 16 (css.map cdt)).flatten), rfl, .tup h3 ((OdAll.one (ov.ke k6.all)).cat (od_rep bo6 16)), fun es e le => ?_, C6.tb, C6.tc, C6.tr, C6.to, fun b6 H7 hb6 k7 => ?_⟩
            · rw [← PyData.tuple.inj e] at le
              omega
            obtain rfl : b6 = false := by
              cases b6 with
              | false => rfl
              | true => exact absurd (hb6.mp rfl) (no_long lg)
            refine ⟨false, false, rfl, rfl, _, rfl, ite2 (fun e => absurd e (by decide)) (fun e => ?_)⟩
            refine ⟨_, rfl, x, d, rfl, (ov.ke (k6.trans k7).all).dp, ad.sm.sh, ad.sm.nd, Nat.le_trans ad.sm.dp (by decide), Nat.le_trans ad.sm.sz (by decide), ?_⟩
            exact ⟨_, rfl, rfl, _, rfl, ite2 (fun e => absurd e (by simp)) (fun e => ⟨_, _, _, _, rfl, k6.trans k7⟩)⟩
          · rintro σ H5 ⟨y7, y8, y9, y10, rfl, k5⟩
            exact ⟨y7, y8, y9, y10, rfl, C4.no k5, k4'.trans k5.all⟩
        clear C3 k3 H3 y7 y8 y9 y10
        rintro σ' H3 ⟨y7, y8, y9, y10, rfl, C3, k3⟩
        have hb3 := k3.tups _ _ hb
        have hl3 := k3.tups _ _ hl
        have bo3 : ∀ {f : Addr → Prop}, OdAll f H3 bvs (css.map cdt) := bk_od lv fun i x cs h1 h2 => (hv i x cs h1 h2).ke k3
        have lb : (css.map cdt).length = css.length := List.length_map ..
        have ib := it_cls oc
        -- some
        refine Evl.q_cut (M := fun σ' H' => ∃ (S : Addr) (us : List V) (ds : List PyData), σ' = [some (.ref a), some (.ref fe), some (.int (0 + (i : Int))), some (.ref t), some (.ref l), some (.ref b), some (.int (m : Nat)), y7, y8, y9, y10, some (.ref S), none] ∧ Same H3 H' ∧ H' S = some (.lst us) ∧ us.length = 8 ∧ OdAll Nof H' us ds ∧ ∀ d ∈ ds, As d) ?_ ?_
        · refine ⟨_, rfl, b, _, rfl, .inr (.of hb3), fun L1 G1 n1 t1 h1 _ => ?_⟩
          refine ⟨Nat.zero_le _, fun u2 G2 n2 t2 h2 _ => ?_⟩
          have t12 := t1.trans t2
          refine ⟨_, rfl, b, 16, bvs, rfl, rfl, t12 _ _ hb3, fun e => ?_, by decide, by decide, by omega, fun p3 G3 t3 h3 => ?_⟩
          · rw [e] at lv
            simp at lv
            omega
          have t13 := t12.trans t3
          refine ⟨_, rfl, 1, rfl, b, _, rfl, t13 _ _ hb3, fun p4 G4 t4 h4 => ?_⟩
          have lr := rep_len bvs 16
          have lc := cut_len bvs none (some 1)
          refine ⟨p3, p4, _, _, rfl, rfl, t4 _ _ h3, h4, Nat.le_trans (by rw [show (16 : Int).toNat = 16 from rfl, lr]; show _ ≤ 1000; omega) (by decide), fun p5 G5 t5 h5 => ?_⟩
          refine ⟨_, _, rfl, rfl, ⟨by decide, by decide, by decide⟩, _, rfl, by show 8 ≤ sizeLine; decide, fun S G6 nS t6 hS6 _ => ?_⟩
          have w5 := t6
          have w2 := t3.trans (t4.trans (t5.trans w5))
          have w1 := t2.trans w2
          have w0 := t1.trans w1
          have bo6 : OdAll Nof G6 bvs (css.map cdt) := odS bo3 w0
          obtain ⟨es, oe, le, me⟩ := odC bo6 none (some 1)
          refine ⟨S, _, [.list (css.map cdt), .tuple [], .tuple ((List.replicate 16 (css.map cdt)).flatten ++ es), .none, .int 0, .int (10 ^ 39), .int (-1), .str ""], rfl, w0, hS6, rfl, .cons (.lst (w1 _ _ h1) (fun z => z) bo6) (.cons (.tup (w2 _ _ h2) .nil) (.cons (.tup (w5 _ _ h5) ((od_rep bo6 16).cat oe)) (.cons .non (.cons (.int _) (.cons (.int _) (.cons (.int _) (.cons (.str _) .nil))))))), fun d hd => ?_⟩
          have nt : ∀ {d : PyData}, (∀ ds, d ≠ .tuple ds) → ∀ ds, d = .tuple ds → ds.length ≤ 16 → ∀ e ∈ ds, L60 e := fun h ds e => absurd e (h ds)
          simp only [List.mem_cons, List.not_mem_nil, or_false] at hd
          rcases hd with rfl | rfl | rfl | rfl | rfl | rfl | rfl | rfl
          · exact ⟨((sm_cls ib).list (n := 16) (by omega) (by decide : _ ≤ 100000)), nt fun _ => nofun⟩
          · exact ⟨(SmAll.nil (B := 3)).tuple (n := 0) (Nat.le_refl _) (by decide), fun ds e _ => by rw [← PyData.tuple.inj e]; exact fun e he => (nomatch he)⟩
          · refine ⟨(sm_cls fun d hd => ?_).tuple (n := 300) ?_ (by decide), fun ds e le => ?_⟩
            · rcases List.mem_append.mp hd with z | z
              · exact ib d (rep_mem z)
              · exact ib d (me d z)
            · rw [List.length_append, rep_len]
              omega
            · rw [← PyData.tuple.inj e, List.length_append, rep_len] at le
              intro y hy
              rw [← PyData.tuple.inj e] at hy
              rcases List.mem_append.mp hy with z | z
              · exact (ib y (rep_mem z)).ln
              · exact (ib y (me y z)).ln
          · exact ⟨it_none.sm.mono (by decide), nt fun _ => nofun⟩
          · exact ⟨(it_int (n := 0) (by omega) (by omega)).sm.mono (by decide), nt fun _ => nofun⟩
          · exact ⟨it_big.sm.mono (by decide), nt fun _ => nofun⟩
          · exact ⟨(it_int (n := -1) (by omega) (by omega)).sm.mono (by decide), nt fun _ => nofun⟩
          · exact ⟨it_str0.sm.mono (by decide), nt fun _ => nofun⟩
        rintro σ' H4 ⟨S, us, ds, rfl, s4, hS4, ls, od, as4⟩
        have hb4 := s4 _ _ hb3
        have hl4 := s4 _ _ hl3
        -- the other things
        refine ⟨_, rfl, _, rfl, _, rfl, 1, rfl, l, _, rfl, hl4, fun p1 G1 t1 h1 => ?_⟩
        have dl : 0 < bvs.length := by omega
        have dc : 0 < css.length := by omega
        obtain ⟨o, eo, ho⟩ := hv 0 _ _ (List.getElem?_eq_getElem dl) (List.getElem?_eq_getElem dc)
        have ho4 := (s4.trans t1) _ _ (k3.tups _ _ ho)
        refine ⟨_, rfl, b, bvs, 0, .ref o, rfl, rfl, .of (t1 _ _ hb4), at_of (j := 0) rfl (by rw [List.getElem?_eq_getElem dl, eo]), ?_⟩
        refine ⟨o, _, rfl, .inr (.of ho4), fun L2 G2 n2 t2 h2 _ => ?_⟩
        refine ⟨by show 1 ≤ sizeLine; decide, fun u3 G3 n3 t3 h3 _ => ?_⟩
        refine ⟨Nat.zero_le _, fun L4 G4 n4 t4 h4 _ => ?_⟩
        refine ⟨by show 1 ≤ sizeLine; decide, fun L5 G5 n5 t5 h5 _ => ?_⟩
        refine ⟨by show 5 ≤ sizeLine; decide, fun W G6 nW t6 hW _ => ?_⟩
        have v0 := t1.trans (t2.trans (t3.trans (t4.trans (t5.trans t6))))
        refine ⟨S, W, _, _, rfl, rfl, v0 _ _ hS4, hW, Nat.le_trans (by rw [ls]; show 8 + 5 ≤ 20; decide) (by decide), fun Vv G7 nV t7 hV _ => ?_⟩
        have w6 := t7
        have w5 := t6.trans w6
        have w4 := t5.trans w5
        have w3 := t4.trans w4
        have w2 := t3.trans w3
        have w1 := t2.trans w2
        have w0 := t1.trans w1
        obtain ⟨es, oe, le, me⟩ := odC (od_ints (f := Nof) (H := G7) cs) none (some 1)
        have l8 := hcs.len
        rw [List.length_map] at le
        have co := oc _ (List.getElem_mem dc)
        have odV : OdAll Nof G7 (us ++ [.ref l, .ref p1, .ref u3, .str "book", .ref L5]) (ds ++ [cdt cs, .tuple es, .tuple [.list (css[0].map PyData.int)], .str "book", .list [.list []]]) :=
          (odS od w0).cat (.cons (.tup (w0 _ _ hl4) (od_ints cs)) (.cons (.tup (w1 _ _ h1) oe) (.cons (.tup (w3 _ _ h3) (.one (.lst (w2 _ _ h2) (fun z => z) (od_ints _)))) (.cons (.str _) (.cons (.lst (w5 _ _ h5) (fun z => z) (.one (.lst (w4 _ _ h4) (fun z => z) .nil))) .nil)))))
        have asV : ∀ d ∈ ds ++ [cdt cs, .tuple es, .tuple [.list (css[0].map PyData.int)], .str "book", .list [.list []]], As d := fun d hd => by
          rcases List.mem_append.mp hd with z | z
          · exact as4 d z
          · simp only [List.mem_cons, List.not_mem_nil, or_false] at z
            rcases z with rfl | rfl | rfl | rfl | rfl
            · exact as_of (bent_tuple (cl_it hcs) (by rw [List.length_map]; omega))
            · exact as_of (bent_tuple (fun d hd => cl_it hcs d (me d hd)) (by omega))
            · have sl : Sm 45 (.list (css[0].map PyData.int)) := (SmAll.of (B := 3) fun d hd => by
                obtain ⟨n, hn, rfl⟩ := List.mem_map.mp hd
                have := co.says n hn
                exact ⟨sm_int (by omega) (by omega), Nat.zero_le _⟩).list (n := 8) (by rw [List.length_map]; exact co.len) (by decide)
              refine as_of (bent_tuple (one_it ⟨sl, ?_, no_l60 fun _ => nofun⟩) (by show 1 ≤ 20; decide))
              show PyData.depthAll (css[0].map PyData.int) + 1 ≤ 4
              have := flat_depth _ (flat_ints css[0])
              omega
            · exact as_of (it_book.bent fun ds e => nomatch e)
            · exact as_of ⟨⟨by decide +kernel, by decide +kernel, by decide +kernel, by decide +kernel⟩, by decide +kernel, no_l60 fun _ => nofun, fun ds e => nomatch e⟩
        have C7 := C3.no (.same (s4.trans w0))
        clear v0 w0 w1 w2 w3 w4 w5 w6 le me oe nV hW nW h5 n5 h4 n4 h3 n3 h2 n2 h1 as4 od
        refine ⟨Vv, rfl, ⟨_, .of hV⟩, for_list (K := K) (a := Vv) (xs := us ++ [.ref l, .ref p1, .ref u3, .str "book", .ref L5]) (Pv := fun j σ H' => ∃ y7 y8 : Option V, σ = [some (.ref a), some (.ref fe), some (.int (0 + (i : Int))), some (.ref t), some (.ref l), some (.ref b), some (.int (m : Nat)), y7, y8, y9, y10, some (.ref S), none] ∧ Ke Nof G7 H') ?_ (fun j σ H' _ p => ?_) ?_ ?_⟩
        · exact ⟨y7, y8, rfl, .refl _ _⟩
        · obtain ⟨_, _, _, k5⟩ := p
          exact .of (k5.lst hV fun z => z)
        · clear y7 y8
          rintro j x σ H5 hx ⟨y7, y8, rfl, k5⟩
          obtain ⟨d, hd, ov⟩ := odV.at hx
          have ad := asV d (List.mem_of_getElem? hd)
          refine Evl.q_cut (M := fun σ' H' => σ' = [some (.ref a), some (.ref fe), some (.int (0 + (i : Int))), some (.ref t), some (.ref l), some (.ref b), some (.int (m : Nat)), some x, some (.str d.shown), y9, y10, some (.ref S), none] ∧ H' = H5) ?_ ?_
          · exact ⟨_, rfl, x, d, rfl, (ov.ke k5).dp, ad.sm.sh, ad.sm.nd, Nat.le_trans ad.sm.dp (by decide), Nat.le_trans ad.sm.sz (by decide), rfl, rfl⟩
          rintro σ' H5' ⟨rfl, rfl⟩
          have C5 := C7.no k5
          refine ⟨_, rfl, _, x, d, rfl, ov.ke k5, ad.in_, C5.tb, C5.tc, C5.tr, C5.to, fun b4 H6 hb4 k6 => ?_⟩
          have C6 := C5.no k6
          refine ⟨.bl b4, .bool b4, rfl, .bl b4, rfl, rfl, by show 0 ≤ 64; decide, bl_sz b4, ?_⟩
          refine ⟨_, rfl, _, x, d, rfl, ov.ke (k5.trans k6), ad.in_, C6.tb, C6.tc, C6.tr, C6.to, fun b5 H7 hb5 k7 => ?_⟩
          obtain rfl := same_tf hb4 hb5
          refine ⟨.bl b4, .bool b4, rfl, .bl b4, rfl, rfl, by show 0 ≤ 64; decide, bl_sz b4, rfl, _, rfl, ite2 (fun e => absurd e (by simp)) (fun e => ?_)⟩
          have k8 := (k5.trans k6).trans k7
          refine ⟨_, rfl, x, d, rfl, (ov.ke k8).dp, ad.sm.sh, ad.sm.nd, Nat.le_trans ad.sm.dp (by decide), Nat.le_trans ad.sm.sz (by decide), ?_⟩
          exact ⟨_, rfl, rfl, _, rfl, ite2 (fun e => absurd e (by simp)) (fun e => ⟨_, _, rfl, k8⟩)⟩
        · rintro σ H5 ⟨y7, y8, rfl, k5⟩
          exact ⟨_, _, _, _, _, _, _, _, _, _, rfl, (C7.no k5).ke (.refl _ _) ((C7.no k5).fe.mono (by omega))⟩
      · rintro σ H2 ⟨y2, y3, y4, y5, y6, y7, y8, y9, y10, y11, rfl, C2⟩
        exact ⟨y2, y3, y4, y5, y6, y7, y8, y9, y10, y11, rfl, C2⟩
    clear C1 H1
    rintro σ' H1 ⟨y2, y3, y4, y5, y6, y7, y8, y9, y10, y11, rfl, C1⟩
    -- sixteen and seventeen empty claims
    have e0 : ClD (.tuple []) := ⟨[], rfl, .nil, fun k hk => (nomatch hk), fun k hk => (nomatch hk)⟩
    refine ⟨Nat.zero_le _, fun e1 G1 n1 t1 h1 _ => ?_⟩
    refine ⟨by show 1 ≤ sizeLine; decide, fun e2 G2 n2 t2 h2 _ => ?_⟩
    refine ⟨e2, 16, _, rfl, rfl, h2, by simp, by decide, by decide, by show 1 ≤ 1000; decide, fun p3 G3 t3 h3 => ?_⟩
    have C3 := C1.no (.same (t1.trans (t2.trans t3)))
    refine ⟨Nof, .ref p3, .tuple (List.replicate 16 [PyData.tuple []]).flatten, rfl, .tup h3 (od_rep (.one (.tup ((t2.trans t3) _ _ h1) .nil)) 16), fun ds e _ y hy => ?_, C3.tb, C3.tc, C3.tr, C3.to, fun b1 H4 hb1 k4 => ?_⟩
    · rw [← PyData.tuple.inj e] at hy
      rw [List.mem_singleton.mp (rep_mem hy)]
      exact fun es e => by rw [← PyData.tuple.inj e]; decide
    obtain rfl : b1 = true := hb1.mpr ⟨_, rfl, by decide, by decide, fun y hy => by rw [List.mem_singleton.mp (rep_mem hy)]; exact e0⟩
    refine ⟨true, true, rfl, rfl, true, rfl, ?_⟩
    refine ⟨Nat.zero_le _, fun e5 G5 n5 t5 h5 _ => ?_⟩
    refine ⟨by show 1 ≤ sizeLine; decide, fun e6 G6 n6 t6 h6 _ => ?_⟩
    refine ⟨e6, 17, _, rfl, rfl, h6, by simp, by decide, by decide, by show 1 ≤ 1000; decide, fun p7 G7 t7 h7 => ?_⟩
    have C7 := C3.no (k4.trans (.same (t5.trans (t6.trans t7))))
    refine ⟨Nof, .ref p7, .tuple (List.replicate 17 [PyData.tuple []]).flatten, rfl, .tup h7 (od_rep (.one (.tup ((t6.trans t7) _ _ h5) .nil)) 17), fun ds e le => ?_, C7.tb, C7.tc, C7.tr, C7.to, fun b2 H8 hb2 k8 => ?_⟩
    · rw [← PyData.tuple.inj e] at le
      exact absurd le (by decide)
    obtain rfl : b2 = false := by
      cases b2 with
      | false => rfl
      | true => exact absurd (hb2.mp rfl) (no_long (by decide))
    exact ⟨false, false, rfl, rfl, q _⟩
end
end K01
namespace Eg
open PySem PySem.Spec PyProof.Rows L2 GxR Nw Dr Kp
/-! ### the end of a law that shows lists: defs whose code objects have tables -/
/-- what stands where a def's code object has its table -/
abbrev Own (K : PySem.W.Frag) (h : Heap) (mg : Str → Option Value) (ys : List Str) : Prop := ∀ y ∈ ys, ∀ f, mg y = some (.ref f) → LamX.OwnTab K f h
/-- what is to be known of a law at the heap h -/
def LawG (l : PySem.W.OpenLaw) (w : World) (K : PySem.W.Frag) (k m : Nat) (x : Str) (mg : Str → Option Value) (g : Addr) (h : Heap) : Prop :=
  ∃ (fd : FuncData) (cs : List (Addr × Addr)) (sp : Sp), (∀ p ∈ cs, h.get? p.2 = some (PySem.W.tabObj #[])) ∧ (∀ p ∈ cs, K.lookup p.2 = none) ∧ (∀ p ∈ cs, PySem.W.CodeHd h p.1 p.2) ∧ (∀ (s : Shared) (u : Value), BindsTo s fd ⟨[u], []⟩ [(x, u)]) ∧
    (∀ (H : Hp) (a : Addr) (ns : List Int), ns.length ≤ m → (∀ p ∈ cs, H p.2 = some (.tbl #[])) → SqL K H a (ns.map V.int) → sp [.ref a] H (fun v _ => v = .bl true) fun _ _ _ => False) ∧
    ∀ base : Heap, K.In base → base.Ns mainGlobals mg → (∀ p ∈ cs, LamX.TabB base mg p.1 p.2) → Gd.FnG l.prog w K mg base k g fd [x] sp
theorem walk_own {l : PySem.W.OpenLaw} {m k : Nat} {pr : Program} {ls : List Str} {XP : (Str → Option Value) → Heap → Prop} {YP : World → Heap → Prop} {d : DefRec} {K : Params → PySem.W.Frag} {x : Str} (ys : List Str)
    (e1 : l.most = some m) (e2 : m ≤ sizeLine) (e3 : d.params.defaults = []) (room : Room k callerA) (named : ∀ y ∈ ys, ((recsOf pr).any fun e => e.name == y) = true) (inK : ∀ (w : World) (h : Heap), YP w h → (K w.params).In h)
    (go : ∀ (w : World) (mg : Str → Option Value) (g : Addr) (h : Heap), YP w h → (K w.params).In h → h.Ns mainGlobals mg → mg d.name = some (.ref g) → Own (K w.params) h mg ys → LawG l w (K w.params) k m x mg g h) :
    PySem.W.WalkO pr ls XP YP l.row.toRowW d [] (fun f vs => PySem.call f vs) := by
  refine Att.attach_callB e1 e3 fun w s0 s1 mg mb fa o pm cd doc a us ns G Y ho hd hcd hmg hobj hints hlen hbits hg => ?_
  have inH := inK w _ Y
  have tabs : Own (K w.params) s1.heap mg ys := fun y hy f hf c P ob fd e dd vs sl q1 q2 q3 q4 q5 => by
    obtain ⟨r, hr1, hr2⟩ := List.any_eq_true.mp (named y hy)
    obtain ⟨f', ob', fd', c', P', t1, t2, t3, t4, t5, ⟨⟨oc, vc, u1, _, u3, u4⟩, u5⟩⟩ := G.T.tab r hr1
    rw [show r.name = y from beq_iff_eq.mp hr2, hf] at t1
    cases t1
    rw [inH _ _ q1] at t2
    cases t2
    rw [q2] at t3
    cases t3
    rw [q3] at t4
    cases t4
    rw [inH _ _ q4] at u1
    cases u1
    cases u3
    rw [q5] at u4
    cases u4
    exact u5
  obtain ⟨fd, cs, sp, h1, h2, h3, h4, h5, h6⟩ := go w mg fa _ Y inH G.T.g hmg tabs
  exact Gd.law_at inH G.T.g G.T.b G.T.builtins G.T.nolimit hg h1 h2 h3 G.T.bmain hobj hints (Nat.le_trans hlen e2) room h6 h4 fun H z1 z2 => h5 H a ns hlen z1 z2
end Eg
namespace K01
open PySem PySem.Spec PyProof.Rows L2 GxR Nw Dr Kp Se Cl Od Kc Eg
theorem all_mk {l : PySem.W.OpenLaw} {w : World} {K : PySem.W.Frag} {h : Heap} {mg : Str → Option Value} {top : Addr} (X : K.In h) (G : h.Ns mainGlobals mg) (htop : mg "law" = some (.ref top)) (ow : Own K h mg ["is_rising", "has_opposites", "is_claim", "is_book"]) {fM fD fO fW fT fC fX fE fY fL fw fs gR gO gI gB cR PR cO PO cI PI cB PB : Addr}
    {od_fM an_fM : Option Addr} {sl_fM : Array (Option Value)} {oc_fM kV_fM dc_fM pm_fM ct_fM : Value} {cd_fM : Value} {od_fD an_fD : Option Addr} {sl_fD : Array (Option Value)} {oc_fD kV_fD dc_fD pm_fD ct_fD : Value} {cd_fD : Value} {od_fO an_fO : Option Addr} {sl_fO : Array (Option Value)} {oc_fO kV_fO dc_fO pm_fO ct_fO : Value} {cd_fO : Value} {od_fW an_fW : Option Addr} {sl_fW : Array (Option Value)} {oc_fW kV_fW dc_fW pm_fW ct_fW : Value} {cd_fW : Value} {od_fT an_fT : Option Addr} {sl_fT : Array (Option Value)} {oc_fT kV_fT dc_fT pm_fT ct_fT : Value} {cd_fT : Value} {od_fC an_fC : Option Addr} {sl_fC : Array (Option Value)} {oc_fC kV_fC dc_fC pm_fC ct_fC : Value} {cd_fC : Value} {od_fX an_fX : Option Addr} {sl_fX : Array (Option Value)} {oc_fX kV_fX dc_fX pm_fX ct_fX : Value} {cd_fX : Value} {od_fE an_fE : Option Addr} {sl_fE : Array (Option Value)} {oc_fE kV_fE dc_fE pm_fE ct_fE : Value} {cd_fE : Value} {od_fY an_fY : Option Addr} {sl_fY : Array (Option Value)} {oc_fY kV_fY dc_fY pm_fY ct_fY : Value} {cd_fY : Value} {od_fL an_fL : Option Addr} {sl_fL : Array (Option Value)} {oc_fL kV_fL dc_fL pm_fL ct_fL : Value} {cd_fL : Value} {od_fw an_fw : Option Addr} {sl_fw : Array (Option Value)} {oc_fw kV_fw dc_fw pm_fw ct_fw : Value} {cd_fw : Value} {od_fs an_fs : Option Addr} {sl_fs : Array (Option Value)} {oc_fs kV_fs dc_fs pm_fs ct_fs : Value} {cd_fs : Value} {od_gR an_gR : Option Addr} {sl_gR : Array (Option Value)} {oc_gR kV_gR dc_gR pm_gR ct_gR : Value} {od_gO an_gO : Option Addr} {sl_gO : Array (Option Value)} {oc_gO kV_gO dc_gO pm_gO ct_gO : Value} {od_gI an_gI : Option Addr} {sl_gI : Array (Option Value)} {oc_gI kV_gI dc_gI pm_gI ct_gI : Value} {od_gB an_gB : Option Addr} {sl_gB : Array (Option Value)} {oc_gB kV_gB dc_gB pm_gB ct_gB : Value} {e_R : Value} {dd_R : Option Addr} {vs_R : Array Value} {sf_R : Array (Option Value)} {e_O : Value} {dd_O : Option Addr} {vs_O : Array Value} {sf_O : Array (Option Value)} {e_I : Value} {dd_I : Option Addr} {vs_I : Array Value} {sf_I : Array (Option Value)} {e_B : Value} {dd_B : Option Addr} {vs_B : Array Value} {sf_B : Array (Option Value)} {tk_MOST_THINGS : Tok} {tk_MOST_CLAIMS : Tok}
    (b_fM : PySem.W.nsIn K mainGlobals "_law_smixed" = some (some (.ref fM)))
    (l_fM : K.lookup fM = some ⟨oc_fM, od_fM, .func (PySem.W.fnOf "_law_smixed" "_law_smixed" (defArgs sMix) (defBody sMix) (defScope sMix) .none kV_fM dc_fM pm_fM an_fM cd_fM ct_fM), sl_fM⟩)
    (c_fM : PySem.W.codeIn K cd_fM "_law_smixed" = true)
    (k_fM : PySem.W.keepIn K (.ref fM) = true)
    (b_fD : PySem.W.nsIn K mainGlobals "_law_sdraw" = some (some (.ref fD)))
    (l_fD : K.lookup fD = some ⟨oc_fD, od_fD, .func (PySem.W.fnOf "_law_sdraw" "_law_sdraw" (defArgs sDrw) (defBody sDrw) (defScope sDrw) .none kV_fD dc_fD pm_fD an_fD cd_fD ct_fD), sl_fD⟩)
    (c_fD : PySem.W.codeIn K cd_fD "_law_sdraw" = true)
    (k_fD : PySem.W.keepIn K (.ref fD) = true)
    (b_fO : PySem.W.nsIn K mainGlobals "_law_sopen" = some (some (.ref fO)))
    (l_fO : K.lookup fO = some ⟨oc_fO, od_fO, .func (PySem.W.fnOf "_law_sopen" "_law_sopen" (defArgs sOpn) (defBody sOpn) (defScope sOpn) .none kV_fO dc_fO pm_fO an_fO cd_fO ct_fO), sl_fO⟩)
    (c_fO : PySem.W.codeIn K cd_fO "_law_sopen" = true)
    (k_fO : PySem.W.keepIn K (.ref fO) = true)
    (b_fW : PySem.W.nsIn K mainGlobals "_law_swhole" = some (some (.ref fW)))
    (l_fW : K.lookup fW = some ⟨oc_fW, od_fW, .func (PySem.W.fnOf "_law_swhole" "_law_swhole" (defArgs sSwh) (defBody sSwh) (defScope sSwh) .none kV_fW dc_fW pm_fW an_fW cd_fW ct_fW), sl_fW⟩)
    (c_fW : PySem.W.codeIn K cd_fW "_law_swhole" = true)
    (k_fW : PySem.W.keepIn K (.ref fW) = true)
    (b_fT : PySem.W.nsIn K mainGlobals "_law_sthings" = some (some (.ref fT)))
    (l_fT : K.lookup fT = some ⟨oc_fT, od_fT, .func (PySem.W.fnOf "_law_sthings" "_law_sthings" (defArgs sThg) (defBody sThg) (defScope sThg) .none kV_fT dc_fT pm_fT an_fT cd_fT ct_fT), sl_fT⟩)
    (c_fT : PySem.W.codeIn K cd_fT "_law_sthings" = true)
    (k_fT : PySem.W.keepIn K (.ref fT) = true)
    (b_fC : PySem.W.nsIn K mainGlobals "_law_sclaim" = some (some (.ref fC)))
    (l_fC : K.lookup fC = some ⟨oc_fC, od_fC, .func (PySem.W.fnOf "_law_sclaim" "_law_sclaim" (defArgs sClm) (defBody sClm) (defScope sClm) .none kV_fC dc_fC pm_fC an_fC cd_fC ct_fC), sl_fC⟩)
    (c_fC : PySem.W.codeIn K cd_fC "_law_sclaim" = true)
    (k_fC : PySem.W.keepIn K (.ref fC) = true)
    (b_fX : PySem.W.nsIn K mainGlobals "_law_s_is_claim" = some (some (.ref fX)))
    (l_fX : K.lookup fX = some ⟨oc_fX, od_fX, .func (PySem.W.fnOf "_law_s_is_claim" "_law_s_is_claim" (defArgs sSic) (defBody sSic) (defScope sSic) .none kV_fX dc_fX pm_fX an_fX cd_fX ct_fX), sl_fX⟩)
    (c_fX : PySem.W.codeIn K cd_fX "_law_s_is_claim" = true)
    (k_fX : PySem.W.keepIn K (.ref fX) = true)
    (b_fE : PySem.W.nsIn K mainGlobals "_law_s_bent" = some (some (.ref fE)))
    (l_fE : K.lookup fE = some ⟨oc_fE, od_fE, .func (PySem.W.fnOf "_law_s_bent" "_law_s_bent" (defArgs sSbe) (defBody sSbe) (defScope sSbe) .none kV_fE dc_fE pm_fE an_fE cd_fE ct_fE), sl_fE⟩)
    (c_fE : PySem.W.codeIn K cd_fE "_law_s_bent" = true)
    (k_fE : PySem.W.keepIn K (.ref fE) = true)
    (b_fY : PySem.W.nsIn K mainGlobals "_law_s_is_book" = some (some (.ref fY)))
    (l_fY : K.lookup fY = some ⟨oc_fY, od_fY, .func (PySem.W.fnOf "_law_s_is_book" "_law_s_is_book" (defArgs sSib) (defBody sSib) (defScope sSib) .none kV_fY dc_fY pm_fY an_fY cd_fY ct_fY), sl_fY⟩)
    (c_fY : PySem.W.codeIn K cd_fY "_law_s_is_book" = true)
    (k_fY : PySem.W.keepIn K (.ref fY) = true)
    (b_fL : PySem.W.nsIn K mainGlobals "law" = some (some (.ref fL)))
    (l_fL : K.lookup fL = some ⟨oc_fL, od_fL, .func (PySem.W.fnOf "law" "law" (defArgs sLaw) (defBody sLaw) (defScope sLaw) .none kV_fL dc_fL pm_fL an_fL cd_fL ct_fL), sl_fL⟩)
    (c_fL : PySem.W.codeIn K cd_fL "law" = true)
    (k_fL : PySem.W.keepIn K (.ref fL) = true)
    (b_fw : PySem.W.nsIn K mainGlobals "is_whole" = some (some (.ref fw)))
    (l_fw : K.lookup fw = some ⟨oc_fw, od_fw, .func (PySem.W.fnOf "is_whole" "is_whole" (defArgs sWhp) (defBody sWhp) (defScope sWhp) .none kV_fw dc_fw pm_fw an_fw cd_fw ct_fw), sl_fw⟩)
    (c_fw : PySem.W.codeIn K cd_fw "is_whole" = true)
    (k_fw : PySem.W.keepIn K (.ref fw) = true)
    (b_fs : PySem.W.nsIn K mainGlobals "is_say" = some (some (.ref fs)))
    (l_fs : K.lookup fs = some ⟨oc_fs, od_fs, .func (PySem.W.fnOf "is_say" "is_say" (defArgs sSay) (defBody sSay) (defScope sSay) .none kV_fs dc_fs pm_fs an_fs cd_fs ct_fs), sl_fs⟩)
    (c_fs : PySem.W.codeIn K cd_fs "is_say" = true)
    (k_fs : PySem.W.keepIn K (.ref fs) = true)
    (b_gR : PySem.W.nsIn K mainGlobals "is_rising" = some (some (.ref gR)))
    (l_gR : K.lookup gR = some ⟨oc_gR, od_gR, .func (PySem.W.fnOf "is_rising" "is_rising" (defArgs sRis) (defBody sRis) (defScope sRis) .none kV_gR dc_gR pm_gR an_gR (.ref cR) ct_gR), sl_gR⟩)
    (c_gR : PySem.W.codeIn K (.ref cR) "is_rising" = true)
    (k_gR : PySem.W.keepIn K (.ref gR) = true)
    (b_gO : PySem.W.nsIn K mainGlobals "has_opposites" = some (some (.ref gO)))
    (l_gO : K.lookup gO = some ⟨oc_gO, od_gO, .func (PySem.W.fnOf "has_opposites" "has_opposites" (defArgs sHop) (defBody sHop) (defScope sHop) .none kV_gO dc_gO pm_gO an_gO (.ref cO) ct_gO), sl_gO⟩)
    (c_gO : PySem.W.codeIn K (.ref cO) "has_opposites" = true)
    (k_gO : PySem.W.keepIn K (.ref gO) = true)
    (b_gI : PySem.W.nsIn K mainGlobals "is_claim" = some (some (.ref gI)))
    (l_gI : K.lookup gI = some ⟨oc_gI, od_gI, .func (PySem.W.fnOf "is_claim" "is_claim" (defArgs sIcl) (defBody sIcl) (defScope sIcl) .none kV_gI dc_gI pm_gI an_gI (.ref cI) ct_gI), sl_gI⟩)
    (c_gI : PySem.W.codeIn K (.ref cI) "is_claim" = true)
    (k_gI : PySem.W.keepIn K (.ref gI) = true)
    (b_gB : PySem.W.nsIn K mainGlobals "is_book" = some (some (.ref gB)))
    (l_gB : K.lookup gB = some ⟨oc_gB, od_gB, .func (PySem.W.fnOf "is_book" "is_book" (defArgs sIbk) (defBody sIbk) (defScope sIbk) .none kV_gB dc_gB pm_gB an_gB (.ref cB) ct_gB), sl_gB⟩)
    (c_gB : PySem.W.codeIn K (.ref cB) "is_book" = true)
    (k_gB : PySem.W.keepIn K (.ref gB) = true)
    (lc_R : K.lookup cR = some ⟨e_R, dd_R, .fields vs_R, sf_R⟩)
    (v_R : vs_R[11]? = some (Value.ref PR))
    (hd_R : PySem.W.codeHdIn K cR PR = true)
    (np_R : K.lookup PR = none)
    (lc_O : K.lookup cO = some ⟨e_O, dd_O, .fields vs_O, sf_O⟩)
    (v_O : vs_O[11]? = some (Value.ref PO))
    (hd_O : PySem.W.codeHdIn K cO PO = true)
    (np_O : K.lookup PO = none)
    (lc_I : K.lookup cI = some ⟨e_I, dd_I, .fields vs_I, sf_I⟩)
    (v_I : vs_I[11]? = some (Value.ref PI))
    (hd_I : PySem.W.codeHdIn K cI PI = true)
    (np_I : K.lookup PI = none)
    (lc_B : K.lookup cB = some ⟨e_B, dd_B, .fields vs_B, sf_B⟩)
    (v_B : vs_B[11]? = some (Value.ref PB))
    (hd_B : PySem.W.codeHdIn K cB PB = true)
    (np_B : K.lookup PB = none)
    (b_MOST_THINGS : PySem.W.nsIn K mainGlobals "MOST_THINGS" = some (some (.int 8 tk_MOST_THINGS)))
    (b_MOST_CLAIMS : PySem.W.nsIn K mainGlobals "MOST_CLAIMS" = some (some (.int 16 tk_MOST_CLAIMS)))
    (z_range : PySem.W.nsIn K mainGlobals "range" = some none)
    (z_isinstance : PySem.W.nsIn K mainGlobals "isinstance" = some none)
    (z_len : PySem.W.nsIn K mainGlobals "len" = some none)
    (z_list : PySem.W.nsIn K mainGlobals "list" = some none)
    (z_min : PySem.W.nsIn K mainGlobals "min" = some none)
    (z_tuple : PySem.W.nsIn K mainGlobals "tuple" = some none)
    (z_sorted : PySem.W.nsIn K mainGlobals "sorted" = some none)
    (z_all : PySem.W.nsIn K mainGlobals "all" = some none)
    (z_any : PySem.W.nsIn K mainGlobals "any" = some none)
    (z_bool : PySem.W.nsIn K mainGlobals "bool" = some none)
    (z_int : PySem.W.nsIn K mainGlobals "int" = some none)
    (z_zip : PySem.W.nsIn K mainGlobals "zip" = some none)
    (z_repr : PySem.W.nsIn K mainGlobals "repr" = some none)
    (z_abs : PySem.W.nsIn K mainGlobals "abs" = some none)
    (z_set : PySem.W.nsIn K mainGlobals "set" = some none) :
    LawG l w K 9 63 "script" mg top h := by
  have e := htop.symm.trans (PySem.W.mg_of X G b_fL)
  cases e
  have F_fM := fun_mk (st := sMix) l_fM c_fM k_fM
  have B_fM := F_fM.binds (ps := ["cell", "at"]) fun _ _ _ _ _ _ us hl => match us, hl with | [_, _], _ => rfl
  have g_fM := PySem.W.mg_of X G b_fM
  have F_fD := fun_mk (st := sDrw) l_fD c_fD k_fD
  have B_fD := F_fD.binds (ps := ["feed", "many"]) fun _ _ _ _ _ _ us hl => match us, hl with | [_, _], _ => rfl
  have g_fD := PySem.W.mg_of X G b_fD
  have F_fO := fun_mk (st := sOpn) l_fO c_fO k_fO
  have B_fO := F_fO.binds (ps := ["script"]) fun _ _ _ _ _ _ us hl => match us, hl with | [_], _ => rfl
  have g_fO := PySem.W.mg_of X G b_fO
  have F_fW := fun_mk (st := sSwh) l_fW c_fW k_fW
  have B_fW := F_fW.binds (ps := ["thing"]) fun _ _ _ _ _ _ us hl => match us, hl with | [_], _ => rfl
  have g_fW := PySem.W.mg_of X G b_fW
  have F_fT := fun_mk (st := sThg) l_fT c_fT k_fT
  have B_fT := F_fT.binds (ps := ["feed", "least", "most"]) fun _ _ _ _ _ _ us hl => match us, hl with | [_, _, _], _ => rfl
  have g_fT := PySem.W.mg_of X G b_fT
  have F_fC := fun_mk (st := sClm) l_fC c_fC k_fC
  have B_fC := F_fC.binds (ps := ["feed", "things", "most"]) fun _ _ _ _ _ _ us hl => match us, hl with | [_, _, _], _ => rfl
  have g_fC := PySem.W.mg_of X G b_fC
  have F_fX := fun_mk (st := sSic) l_fX c_fX k_fX
  have B_fX := F_fX.binds (ps := ["thing"]) fun _ _ _ _ _ _ us hl => match us, hl with | [_], _ => rfl
  have g_fX := PySem.W.mg_of X G b_fX
  have F_fE := fun_mk (st := sSbe) l_fE c_fE k_fE
  have B_fE := F_fE.binds (ps := ["feed", "claim"]) fun _ _ _ _ _ _ us hl => match us, hl with | [_, _], _ => rfl
  have g_fE := PySem.W.mg_of X G b_fE
  have F_fY := fun_mk (st := sSib) l_fY c_fY k_fY
  have B_fY := F_fY.binds (ps := ["thing"]) fun _ _ _ _ _ _ us hl => match us, hl with | [_], _ => rfl
  have g_fY := PySem.W.mg_of X G b_fY
  have F_fL := fun_mk (st := sLaw) l_fL c_fL k_fL
  have B_fL := F_fL.binds (ps := ["script"]) fun _ _ _ _ _ _ us hl => match us, hl with | [_], _ => rfl
  have g_fL := PySem.W.mg_of X G b_fL
  have F_fw := fun_mk (st := sWhp) l_fw c_fw k_fw
  have B_fw := F_fw.binds (ps := ["thing"]) fun _ _ _ _ _ _ us hl => match us, hl with | [_], _ => rfl
  have g_fw := PySem.W.mg_of X G b_fw
  have F_fs := fun_mk (st := sSay) l_fs c_fs k_fs
  have B_fs := F_fs.binds (ps := ["thing"]) fun _ _ _ _ _ _ us hl => match us, hl with | [_], _ => rfl
  have g_fs := PySem.W.mg_of X G b_fs
  have F_gR := fun_mk (st := sRis) l_gR c_gR k_gR
  have B_gR := F_gR.binds (ps := ["says"]) fun _ _ _ _ _ _ us hl => match us, hl with | [_], _ => rfl
  have g_gR := PySem.W.mg_of X G b_gR
  have F_gO := fun_mk (st := sHop) l_gO c_gO k_gO
  have B_gO := F_gO.binds (ps := ["says"]) fun _ _ _ _ _ _ us hl => match us, hl with | [_], _ => rfl
  have g_gO := PySem.W.mg_of X G b_gO
  have F_gI := fun_mk (st := sIcl) l_gI c_gI k_gI
  have B_gI := F_gI.binds (ps := ["thing"]) fun _ _ _ _ _ _ us hl => match us, hl with | [_], _ => rfl
  have g_gI := PySem.W.mg_of X G b_gI
  have F_gB := fun_mk (st := sIbk) l_gB c_gB k_gB
  have B_gB := F_gB.binds (ps := ["thing"]) fun _ _ _ _ _ _ us hl => match us, hl with | [_], _ => rfl
  have g_gB := PySem.W.mg_of X G b_gB
  have C_gR : Se.FunC K "is_rising" "is_rising" sRis gR cR _ := ⟨⟨_, _, _, _, _, _, _, _, rfl, l_gR, c_gR⟩, k_gR⟩
  have C_gO : Se.FunC K "has_opposites" "has_opposites" sHop gO cO _ := ⟨⟨_, _, _, _, _, _, _, _, rfl, l_gO, c_gO⟩, k_gO⟩
  have C_gI : Se.FunC K "is_claim" "is_claim" sIcl gI cI _ := ⟨⟨_, _, _, _, _, _, _, _, rfl, l_gI, c_gI⟩, k_gI⟩
  have C_gB : Se.FunC K "is_book" "is_book" sIbk gB cB _ := ⟨⟨_, _, _, _, _, _, _, _, rfl, l_gB, c_gB⟩, k_gB⟩
  have M_MOST_THINGS := PySem.W.mg_of X G b_MOST_THINGS
  have M_MOST_CLAIMS := PySem.W.mg_of X G b_MOST_CLAIMS
  have Z_range := PySem.W.mg_none_of X G z_range
  have Z_isinstance := PySem.W.mg_none_of X G z_isinstance
  have Z_len := PySem.W.mg_none_of X G z_len
  have Z_list := PySem.W.mg_none_of X G z_list
  have Z_min := PySem.W.mg_none_of X G z_min
  have Z_tuple := PySem.W.mg_none_of X G z_tuple
  have Z_sorted := PySem.W.mg_none_of X G z_sorted
  have Z_all := PySem.W.mg_none_of X G z_all
  have Z_any := PySem.W.mg_none_of X G z_any
  have Z_bool := PySem.W.mg_none_of X G z_bool
  have Z_int := PySem.W.mg_none_of X G z_int
  have Z_zip := PySem.W.mg_none_of X G z_zip
  have Z_repr := PySem.W.mg_none_of X G z_repr
  have Z_abs := PySem.W.mg_none_of X G z_abs
  have Z_set := PySem.W.mg_none_of X G z_set
  refine ⟨PySem.W.fnOf "law" "law" (defArgs sLaw) (defBody sLaw) (defScope sLaw) .none kV_fL dc_fL pm_fL an_fL cd_fL ct_fL, [(cR, PR), (cO, PO), (cI, PI), (cB, PB)], spLaw PB PI PR PO K, ?_, ?_, ?_, fun s u => .of_eq rfl, fun H a ns _ hT hS => ?_, fun base hb hn hT => ?_⟩
  · intro p hp
    simp only [List.mem_cons, List.not_mem_nil, or_false] at hp
    rcases hp with rfl | rfl | rfl | rfl
    · exact ow "is_rising" (by simp) _ g_gR cR PR _ _ _ _ _ _ l_gR rfl rfl lc_R v_R
    · exact ow "has_opposites" (by simp) _ g_gO cO PO _ _ _ _ _ _ l_gO rfl rfl lc_O v_O
    · exact ow "is_claim" (by simp) _ g_gI cI PI _ _ _ _ _ _ l_gI rfl rfl lc_I v_I
    · exact ow "is_book" (by simp) _ g_gB cB PB _ _ _ _ _ _ l_gB rfl rfl lc_B v_B
  · intro p hp
    simp only [List.mem_cons, List.not_mem_nil, or_false] at hp
    rcases hp with rfl | rfl | rfl | rfl
    · exact np_R
    · exact np_O
    · exact np_I
    · exact np_B
  · intro p hp
    simp only [List.mem_cons, List.not_mem_nil, or_false] at hp
    rcases hp with rfl | rfl | rfl | rfl
    · exact PySem.W.codeHd_of_K X hd_R
    · exact PySem.W.codeHd_of_K X hd_O
    · exact PySem.W.codeHd_of_K X hd_I
    · exact PySem.W.codeHd_of_K X hd_B
  · exact ⟨a, ns, rfl, hS, ⟨#[], hT (cB, PB) (by simp), trivial⟩, ⟨#[], hT (cI, PI) (by simp), trivial⟩, ⟨#[], hT (cR, PR) (by simp), trivial⟩, ⟨#[], hT (cO, PO) (by simp), trivial⟩, fun _ => rfl⟩
  · have t_R := hT (cR, PR) (by simp)
    have T_R : TabB base mg cR PR := ⟨t_R.code, t_R.bm, t_R.gP⟩
    have t_O := hT (cO, PO) (by simp)
    have T_O : TabB base mg cO PO := ⟨t_O.code, t_O.bm, t_O.gP⟩
    have t_I := hT (cI, PI) (by simp)
    have T_I : TabB base mg cI PI := ⟨t_I.code, t_I.bm, t_I.gP⟩
    have t_B := hT (cB, PB) (by simp)
    have T_B : TabB base mg cB PB := ⟨t_B.code, t_B.bm, t_B.gP⟩
    have Ts : Zs mg := ⟨Z_len, Z_list, Z_range, Z_min, Z_tuple, Z_sorted⟩
    have Ti : Zi mg := by constructor <;> assumption
    have Tj : Zj mg := ⟨Z_len, Z_list, Z_set, Z_sorted, Z_abs, Z_isinstance, Z_tuple, Z_int, Z_bool⟩
    have Tq : Zq mg := ⟨Z_len, Z_all, Z_isinstance, Z_tuple⟩
    have Tu : Zu mg := ⟨Z_len, Z_list, Z_tuple, Z_sorted, Z_range⟩
    have Tk : Zk mg := ⟨Z_len, Z_range, Z_list, Z_tuple, Z_repr, Z_isinstance, Z_bool⟩
    have GD : FnOk l.prog w K mg base CX0 2 fD _ ["feed", "many"] spDrw := ok_drw F_fD F_fM B_fM g_fM Z_len
    have GO : FnOk l.prog w K mg base CX0 1 fO _ ["script"] (spOpn K) := ok_opn F_fO Z_list
    have GT : FnOk l.prog w K mg base CX0 3 fT _ ["feed", "least", "most"] spThg := ok_thg F_fT Ts F_fD B_fD g_fD GD
    have GC : FnOk l.prog w K mg base CX0 3 fC _ ["feed", "things", "most"] spClm := ok_clm F_fC Ts F_fD B_fD g_fD GD
    have Gw : FnOk l.prog w K mg base CX0 1 fw _ ["thing"] spWhG := ok_whp F_fw Ti
    have Gs : FnOk l.prog w K mg base CX0 2 fs _ ["thing"] spSyG := ok_say F_fs M_MOST_THINGS F_fw B_fw g_fw Gw
    have GR : FnOk l.prog w K mg base CX0 3 gR _ ["says"] (spRiG PR) := ok_ris C_gR Ti T_R
    have GH : FnOk l.prog w K mg base CX0 3 gO _ ["says"] (spHoG PO) := ok_hpt C_gO Ti T_O
    have GI : FnOk l.prog w K mg base CX0 5 gI _ ["thing"] (spClG PI PR PO) := ok_icl C_gI Ti T_I F_fs B_fs g_fs Gs k_gR B_gR g_gR GR k_gO B_gO g_gO GH
    have GB : FnOk l.prog w K mg base CX0 8 gB _ ["thing"] (spBoG PB PI PR PO) := ok_ibk C_gB Ti M_MOST_CLAIMS T_B k_gI B_gI g_gI GI
    have GW : FnOk l.prog w K mg base CX0 1 fW _ ["thing"] spWhG := ok_swh F_fW Tj
    have GX : FnOk l.prog w K mg base CX0 2 fX _ ["thing"] (spClG PI PR PO) := ok_sic F_fX Tj F_fW B_fW g_fW GW
    have GY : FnOk l.prog w K mg base CX0 3 fY _ ["thing"] (spBoG PB PI PR PO) := ok_sib F_fY Tq F_fX B_fX g_fX GX
    have GE : FnOk l.prog w K mg base CX0 3 fE _ ["feed", "claim"] spSbe := ok_sbe F_fE Tu F_fD B_fD g_fD GD
    exact ok_law F_fL Tk F_fO B_fO g_fO GO F_fD B_fD g_fD GD F_fT B_fT g_fT GT F_fC B_fC g_fC GC k_gI B_gI g_gI GI k_gB B_gB g_gB GB F_fX B_fX g_fX GX F_fY B_fY g_fY GY F_fE B_fE g_fE GE
end K01
open PySem PySem.W PyProof.Rows
set_option maxHeartbeats 0 in
theorem PySem.Challenge.cw_sparecut_k01_claims_known_holds : PySem.Challenge.rw_sparecut_k01_claims_known.Holds := by
  w_on; o_law; k_head; (case hw => w_witness2)
  k_fill
  refine Eg.walk_own (l := PySem.Challenge.rw_sparecut_k01_claims_known) (m := 63) (k := 9) (x := "script") ["is_rising", "has_opposites", "is_claim", "is_book"] rfl (by decide) rfl ⟨rfl, by decide, by decide⟩ (by decide +kernel) (fun w h Y => PySem.W.kIn_of Y) ?F
  case F =>
    intro w mg fa h Y KX G hmg ow
    refine' K01.all_mk KX G hmg ow ?b_fM ?l_fM ?c_fM ?k_fM ?b_fD ?l_fD ?c_fD ?k_fD ?b_fO ?l_fO ?c_fO ?k_fO ?b_fW ?l_fW ?c_fW ?k_fW ?b_fT ?l_fT ?c_fT ?k_fT ?b_fC ?l_fC ?c_fC ?k_fC ?b_fX ?l_fX ?c_fX ?k_fX ?b_fE ?l_fE ?c_fE ?k_fE ?b_fY ?l_fY ?c_fY ?k_fY ?b_fL ?l_fL ?c_fL ?k_fL ?b_fw ?l_fw ?c_fw ?k_fw ?b_fs ?l_fs ?c_fs ?k_fs ?b_gR ?l_gR ?c_gR ?k_gR ?b_gO ?l_gO ?c_gO ?k_gO ?b_gI ?l_gI ?c_gI ?k_gI ?b_gB ?l_gB ?c_gB ?k_gB ?lc_R ?v_R ?hd_R ?np_R ?lc_O ?v_O ?hd_O ?np_O ?lc_I ?v_I ?hd_I ?np_I ?lc_B ?v_B ?hd_B ?np_B ?b_MOST_THINGS ?b_MOST_CLAIMS ?z_range ?z_isinstance ?z_len ?z_list ?z_min ?z_tuple ?z_sorted ?z_all ?z_any ?z_bool ?z_int ?z_zip ?z_repr ?z_abs ?z_set
    (case b_fM => k_is)
    (case l_fM => k_is)
    (case c_fM => k_is)
    (case k_fM => k_is)
    (case b_fD => k_is)
    (case l_fD => k_is)
    (case c_fD => k_is)
    (case k_fD => k_is)
    (case b_fO => k_is)
    (case l_fO => k_is)
    (case c_fO => k_is)
    (case k_fO => k_is)
    (case b_fW => k_is)
    (case l_fW => k_is)
    (case c_fW => k_is)
    (case k_fW => k_is)
    (case b_fT => k_is)
    (case l_fT => k_is)
    (case c_fT => k_is)
    (case k_fT => k_is)
    (case b_fC => k_is)
    (case l_fC => k_is)
    (case c_fC => k_is)
    (case k_fC => k_is)
    (case b_fX => k_is)
    (case l_fX => k_is)
    (case c_fX => k_is)
    (case k_fX => k_is)
    (case b_fE => k_is)
    (case l_fE => k_is)
    (case c_fE => k_is)
    (case k_fE => k_is)
    (case b_fY => k_is)
    (case l_fY => k_is)
    (case c_fY => k_is)
    (case k_fY => k_is)
    (case b_fL => k_is)
    (case l_fL => k_is)
    (case c_fL => k_is)
    (case k_fL => k_is)
    (case b_fw => k_is)
    (case l_fw => k_is)
    (case c_fw => k_is)
    (case k_fw => k_is)
    (case b_fs => k_is)
    (case l_fs => k_is)
    (case c_fs => k_is)
    (case k_fs => k_is)
    (case b_gR => k_is)
    (case l_gR => k_is)
    (case c_gR => k_is)
    (case k_gR => k_is)
    (case b_gO => k_is)
    (case l_gO => k_is)
    (case c_gO => k_is)
    (case k_gO => k_is)
    (case b_gI => k_is)
    (case l_gI => k_is)
    (case c_gI => k_is)
    (case k_gI => k_is)
    (case b_gB => k_is)
    (case l_gB => k_is)
    (case c_gB => k_is)
    (case k_gB => k_is)
    (case lc_R => k_is)
    (case v_R => exact rfl)
    (case hd_R => kernel_rfl)
    (case np_R => kernel_rfl)
    (case lc_O => k_is)
    (case v_O => exact rfl)
    (case hd_O => kernel_rfl)
    (case np_O => kernel_rfl)
    (case lc_I => k_is)
    (case v_I => exact rfl)
    (case hd_I => kernel_rfl)
    (case np_I => kernel_rfl)
    (case lc_B => k_is)
    (case v_B => exact rfl)
    (case hd_B => kernel_rfl)
    (case np_B => kernel_rfl)
    (case b_MOST_THINGS => k_is)
    (case b_MOST_CLAIMS => k_is)
    (case z_range => k_is)
    (case z_isinstance => k_is)
    (case z_len => k_is)
    (case z_list => k_is)
    (case z_min => k_is)
    (case z_tuple => k_is)
    (case z_sorted => k_is)
    (case z_all => k_is)
    (case z_any => k_is)
    (case z_bool => k_is)
    (case z_int => k_is)
    (case z_zip => k_is)
    (case z_repr => k_is)
    (case z_abs => k_is)
    (case z_set => k_is)
