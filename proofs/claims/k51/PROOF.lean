import PyProof.Rows.All
import Wide.All
import OpenK.AllK
import Wide.FinOn
import PyProof.EqAt
import PyProof.EqKinds
import PyProof.TupleCall
import PySem.Challenge.RW_sparecut_k51_falls_and_stands_looked_at
import HandS.ForMost
import HandS.Evl
import HandS.Conv
import HandS.Exc
import HandS.ExcOwn
import HandS.ExcInit
import HandS.ExcValue
import HandS.ExcIs
import KE.KExcIs
import KE.KxText
import HandS.AnyAll
import HandS.GenOver
import HandS.SortInts
import HandS.TupAny
import HandS.TupMul
import HandS.Strs
import HandS.IsInst
import HandS.EndTab
import HandS.EndOwn
import HandS.SetFor
import KE.KNestM
import KE.GoesEnum
import HandS.FStr
import HandS.RaiseMore
import KE.DatumOrd
import HandS.Zip
import HandS.Style
import HandS.RevRange
import HandS.TryOnly
import HandS.WordsExc
set_option Elab.async false
set_option linter.all false
set_option maxRecDepth 100000
set_option maxHeartbeats 2000000
namespace Nw
open PySem PySem.Spec PyProof.Rows L2
/-! ### readings that hide the heap: what is new is told by its facts alone -/
theorem same_new {H : Hp} {p : Addr} {o : HO} (h : H p = none) : Same H (upd H p o) := fun b x e => by
  rw [upd_ne (ne_of_none e h)]
  exact e
theorem sqt {K : PySem.W.Frag} {H H' : Hp} {a : Addr} {xs : List V} (e : Same H H') (h : SqT K H a xs) : SqT K H' a xs := by
  rcases h with (h | ⟨o, h⟩) | h
  · exact .inl (.inl (e _ _ h))
  · exact .inl (.inr ⟨o, e _ _ h⟩)
  · exact .inr h
/-- a new object o at a place of its own -/
def New (H : Hp) (o : HO) (Q : VK) : Prop := ∀ p H2, H p = none → Same H H2 → H2 p = some o → (∀ b, b ≠ p → H2 b = H b) → Q (.ref p) H2
theorem New.to {H : Hp} {o : HO} {Q : VK} (h : New H o Q) : ∀ p, H p = none → Q (.ref p) (upd H p o) := fun p n => h p _ n (same_new n) upd_same fun b nb => upd_ne nb
section
variable {X : Cx} {e : Expr} {es : List Expr} {t t' : TE} {ta : TA} {pos : Pos}
theorem pe_weak (h : PE X e t) (i : ∀ σ H Q, t' σ H Q → t σ H Q) : PE X e t' := ⟨fun pins s σ H Q I q => h.run pins s σ H Q I (i σ H Q q)⟩
theorem op_weak {f : Value → Value → Sem Value} {r r' : R2} (h : OpR X f r) (i : ∀ x y H Q, r' x y H Q → r x y H Q) : OpR X f r' := fun pins s σ H x y v u Q I rx ry q => h pins s σ H x y v u Q I rx ry (i x y H Q q)
theorem call_weak {f : Value} {r r' : List V → Hp → VK → Prop} (h : CallR X f r) (i : ∀ xs H Q, r' xs H Q → r xs H Q) : CallR X f r' := fun pins s σ H xs us Q I rx q => h pins s σ H xs us Q I rx (i xs H Q q)
theorem mt_weak {id : String} {r r' : V → List V → Hp → VK → Prop} (h : MtR X id r) (i : ∀ x xs H Q, r' x xs H Q → r x xs H Q) : MtR X id r' := fun pins s σ H x xs v us Q I rx rs q => h pins s σ H x xs v us Q I rx rs (i x xs H Q q)
theorem sl_weak {r r' : V → Option Int → Option Int → Hp → VK → Prop} (h : SlR X r) (i : ∀ x lo hi H Q, r' x lo hi H Q → r x lo hi H Q) : SlR X r' := fun pins s σ H x v vl vu lo hi sl Q I rx a b c q => h pins s σ H x v vl vu lo hi sl Q I rx a b c (i x lo hi H Q q)
/-- what follows may be asked for less -/
def clA (t : TA) : TA := fun σ H R => ∃ R' : List V → Hp → Prop, (∀ xs H1, R' xs H1 → R xs H1) ∧ t σ H R'
theorem pa_cl (h : PA X es ta) : PA X es (clA ta) := ⟨fun ps pins s σ H Q I ⟨R', i, q⟩ => thn (h.run ps pins s σ H R' I q) fun us s1 ⟨vs, H1, I1, r1, q1⟩ => ⟨vs, H1, I1, r1, i vs H1 q1⟩⟩
def clE (t : TE) : TE := fun σ H R => ∃ R' : VK, (∀ v H1, R' v H1 → R v H1) ∧ t σ H R'
theorem pe_cl (h : PE X e t) : PE X e (clE t) := ⟨fun pins s σ H Q I ⟨R', i, q⟩ => thn (h.run pins s σ H R' I q) fun u s1 ⟨v, H1, I1, r1, q1⟩ => ⟨v, H1, I1, r1, i v H1 q1⟩⟩
def nLst (t : TA) : TE := fun σ H Q => t σ H fun xs H1 => xs.length ≤ sizeLine ∧ New H1 (.lst xs) Q
def nTup (t : TA) : TE := fun σ H Q => t σ H fun xs H1 => xs.length ≤ sizeLine ∧ New H1 (.tup xs) Q
theorem pe_lstN (h : PA X es ta) : PE X (.List es pos) (nLst ta) := pe_weak (pe_lst (pa_cl h)) fun _ _ _ q => ⟨_, fun _ _ z => ⟨z.1, z.2.to⟩, q⟩
theorem pe_tupN {x1} (h : PA X es ta) : PE X (.Tuple es x1 pos) (nTup ta) := pe_weak (pe_tup (pa_cl h)) fun _ _ _ q => ⟨_, fun _ _ z => ⟨z.1, z.2.to⟩, q⟩
/-- xs + ys (lists) -/
def rCatN : R2 := fun x y H Q => ∃ p q xs ys, x = .ref p ∧ y = .ref q ∧ H p = some (.lst xs) ∧ H q = some (.lst ys) ∧ xs.length + ys.length ≤ sizeLine ∧ New H (.lst (xs ++ ys)) Q
theorem op_catN : OpR X (binaryOp .Add) rCatN := op_weak op_cat fun x y H Q ⟨p, q, xs, ys, h1, h2, h3, h4, h5, h6⟩ => ⟨p, q, xs, ys, h1, h2, h3, h4, h5, h6.to⟩
/-- a tuple of xs, new or not -/
def ResT (H : Hp) (xs : List V) (Q : VK) : Prop := ∀ p H2, Same H H2 → H2 p = some (.tup xs) → Q (.ref p) H2
theorem call_list_ofN : CallR X (.type "list") (fun xs H Q => ∃ p ys, xs = [.ref p] ∧ (SqL X.K H p ys ∨ SqT X.K H p ys) ∧ New H (.lst ys) Q) := call_weak call_list_of fun _ _ _ ⟨p, ys, h1, h2, h3⟩ => ⟨p, ys, h1, h2, h3.to⟩
theorem call_tuple_ofN : CallR X (.type "tuple") (fun xs H Q => ∃ p ys, xs = [.ref p] ∧ SqL X.K H p ys ∧ New H (.tup ys) Q) := call_weak call_tuple_of fun _ _ _ ⟨p, ys, h1, h2, h3⟩ => ⟨p, ys, h1, .inl ⟨h2, h3.to⟩⟩
theorem sl_listN : SlR X (fun x lo hi H Q => ∃ a xs, x = .ref a ∧ SqL X.K H a xs ∧ New H (.lst (cutV xs lo hi)) Q) := sl_weak sl_list fun _ _ _ _ _ ⟨a, xs, h1, h2, h3⟩ => ⟨a, xs, h1, h2, h3.to⟩
end
/-! ### data by its values -/
theorem dp_bls {K : PySem.W.Frag} {H : Hp} : ∀ bs : List Bool, DpAll K H (bs.map V.bl) (bs.map PyData.bool)
  | [] => .nil
  | b :: r => .cons (.bl b) (dp_bls r)
theorem dp_ints {K : PySem.W.Frag} {H : Hp} : ∀ ns : List Int, DpAll K H (ns.map V.int) (ns.map PyData.int)
  | [] => .nil
  | b :: r => .cons (.int b) (dp_ints r)
/-- flat data: numbers, truths, None -/
def flatD : PyData → Bool
  | .none | .bool _ | .int _ => true
  | _ => false
theorem flat_lay : ∀ ds : List PyData, ds.all flatD = true → PyData.canLayAll0 ds = true
  | [], _ => rfl
  | d :: r, h => by
    rw [List.all_cons, Bool.and_eq_true] at h
    show (PyData.canLay0 d && PyData.canLayAll0 r) = true
    rw [flat_lay r h.2, Bool.and_true]
    cases d <;> first | rfl | exact Bool.noConfusion h.1
theorem flat_depth : ∀ ds : List PyData, ds.all flatD = true → PyData.depthAll ds ≤ 1
  | [], _ => by decide
  | d :: r, h => by
    rw [List.all_cons, Bool.and_eq_true] at h
    have ih := flat_depth r h.2
    have hd : PyData.depth d ≤ 1 := by
      cases d <;> first | decide | exact Bool.noConfusion h.1 | exact Nat.zero_le _ | exact Nat.le_refl _
    show Nat.max (PyData.depth d) (PyData.depthAll r) ≤ 1
    exact Nat.max_le.mpr ⟨hd, ih⟩
theorem shaped_list {ds : List PyData} (h : ds.all flatD = true) : SeqAt.shaped (.list ds) = true := by
  have e := flat_depth ds h
  have e2 : PyData.depth (.list ds) ≤ 64 := by
    show PyData.depthAll ds + 1 ≤ 64
    omega
  show (PyData.canLayAll0 ds && decide (PyData.depth (.list ds) ≤ 64)) = true
  rw [flat_lay ds h, decide_eq_true e2]
  rfl
theorem shaped_tuple {ds : List PyData} (h : ds.all flatD = true) : SeqAt.shaped (.tuple ds) = true := by
  have e := flat_depth ds h
  have e2 : PyData.depth (.tuple ds) ≤ 64 := by
    show PyData.depthAll ds + 1 ≤ 64
    omega
  show (PyData.canLayAll0 ds && decide (PyData.depth (.tuple ds) ≤ 64)) = true
  rw [flat_lay ds h, decide_eq_true e2]
  rfl
theorem flat_bls (bs : List Bool) : (bs.map PyData.bool).all flatD = true := by
  rw [List.all_map, List.all_eq_true]
  exact fun _ _ => rfl
theorem flat_ints (ns : List Int) : (ns.map PyData.int).all flatD = true := by
  rw [List.all_map, List.all_eq_true]
  exact fun _ _ => rfl
theorem eqv_self {d : PyData} (h : SeqAt.shaped d = true) : PyData.eqv d d = true := SeqAt.eqv_refl d (SeqAt.canLay_of_shaped h)
end Nw
namespace Nw
open PySem PySem.Spec PyProof.Rows L2
section
variable {X : Cx}
theorem cr_sortedN : CallR X (.builtin "sorted") (fun vs H Q => ∃ (a : Addr) (ns : List Int), vs = [V.ref a] ∧ SqL X.K H a (ns.map V.int) ∧ ∀ ns' : List Int, ns'.Perm ns → ns'.Pairwise (· ≤ ·) → New H (.lst (ns'.map V.int)) Q) :=
  call_weak cr_sortedI fun _ _ _ ⟨a, ns, h1, h2, h3⟩ => ⟨a, ns, h1, h2, fun ns' p hp hs np => (h3 ns' hp hs).to p np⟩
theorem cutV_all {xs : List V} {lo hi : Option Int} (h : HT.sIx xs.length 0 lo = 0 ∧ HT.sIx xs.length xs.length hi = xs.length) : cutV xs lo hi = xs := by
  unfold cutV
  rw [h.1, h.2]
  exact List.take_length
theorem sl_tupN : SlR X (fun x lo hi H Q => ∃ a xs, x = .ref a ∧ H a = some (.tup xs) ∧ ResT H (cutV xs lo hi) Q) := sl_weak sl_tupA fun _ lo hi H Q ⟨a, xs, h1, h2, h3⟩ =>
  ⟨a, xs, h1, .of h2, fun z => h3 a H (Same.refl H) (by rw [cutV_all z]; exact h2), fun _ p np => h3 p _ (same_new np) upd_same⟩
theorem op_catTN : OpR X (binaryOp .Add) (fun x y H Q => ∃ a b xs ys, x = .ref a ∧ y = .ref b ∧ H a = some (.tup xs) ∧ H b = some (.tup ys) ∧ xs.length + ys.length ≤ sizeLine ∧ ResT H (xs ++ ys) Q) :=
  op_weak op_catA fun _ _ H Q ⟨a, b, xs, ys, h1, h2, h3, h4, h5, h6⟩ => ⟨a, b, xs, ys, h1, h2, .of h3, .of h4, h5, fun z => h6 b H (Same.refl H) (by rw [z]; exact h4), fun _ z => h6 a H (Same.refl H) (by rw [z, List.append_nil]; exact h3), fun _ _ p np => h6 p _ (same_new np) upd_same⟩
theorem op_repTN : OpR X (binaryOp .Mult) (fun x y H Q => ∃ l k xs, x = .ref l ∧ y = .int k ∧ H l = some (.tup xs) ∧ xs ≠ [] ∧ 2 ≤ k ∧ k ≤ 1000 ∧ xs.length ≤ 1000 ∧ ResT H (List.replicate k.toNat xs).flatten Q) :=
  op_weak op_repT fun _ _ H Q ⟨l, k, xs, h1, h2, h3, h4, h5, h6, h7, h8⟩ => ⟨l, k, xs, h1, h2, .of h3, h4, h5, h6, h7, fun p np => h8 p _ (same_new np) upd_same⟩
/-! the same rules with the written part by its name (for comprehensions' blocks) -/
variable {K : PySem.W.Frag}
theorem ix_tupB (h : X.K = K) : IxR X (rIxT K) := by subst h; exact ix_tup
theorem ix_listB (h : X.K = K) : IxR X (rIxL K) := by subst h; exact ix_list
theorem op_in_seqB (h : X.K = K) : OpR X (compareOp .In) (rIn K false) := by subst h; exact op_in_seq
theorem op_notIn_seqB (h : X.K = K) : OpR X (compareOp .NotIn) (rIn K true) := by subst h; exact op_notIn_seq
theorem call_len_seqB (h : X.K = K) : CallR X (.builtin "len") (fun xs H Q => ∃ p ys, xs = [.ref p] ∧ (SqL K H p ys ∨ SqT K H p ys) ∧ Q (.int ys.length) H) := by subst h; exact call_len_seq
theorem call_isiB (h : X.K = K) : CallR X (.builtin "isinstance") (rIsi K) := by subst h; exact call_isi
theorem op_eqDB (h : X.K = K) (hu : X.A.units + 64 < cLine) : OpR X (compareOp .Eq) (rEqD K) := by subst h; exact op_eqD hu
theorem op_neDB (h : X.K = K) (hu : X.A.units + 64 < cLine) : OpR X (compareOp .NotEq) (rNeD K) := by subst h; exact op_neD hu
end
end Nw
namespace Ev1
open PySem PySem.Spec PyProof.Rows L2 Nw
/-! ### exceptions as values -/
/-- at a an exception of the class cls, its dict d -/
def ExV (cls : Value) (d : Option Addr) (a : Addr) : HO := .ext fun h => ∃ (oe : Obj) (vs : Array Value), h.get? a = some oe ∧ Zc cls d oe ∧ oe.data = .fields vs
/-- an exception that was made of the class cls, its dict d: it stands at a place of its own -/
def Made (H1 : Hp) (cls : Value) (d : Option Addr) (Q : VK) : Prop := ∀ a H3, H1 a = none → Same H1 H3 → H3 a = some (ExV cls d a) → Q (.ref a) H3
theorem pe_made {X : Cx} {e : Expr} {t : L2.St → Hp → XK → Prop} (m : PMk X e t) : PE X e (fun σ H Q => t σ H fun cls d H1 => Made H1 cls d Q) := by
  refine ⟨fun pins s σ H Q I h => thn (m pins s σ H _ I h) fun u s1 z => ?_⟩
  obtain ⟨a, oe, vs, sI, H1, cls, d, rfl, J, k, na, ha, hz, hd, _, ha1, os, ag, _, q⟩ := z
  have new : ObjOk X.prog X.w (upd H1 a (ExV cls d a)) s1.heap a (ExV cls d a) := ⟨⟨oe, vs, ha, hz, hd⟩, ⟨oe, ha⟩, fun h1 h2 ⟨o, v, y, r⟩ i => ⟨o, v, i o y, r⟩⟩
  exact ⟨.ref a, upd H1 a (ExV cls d a), J.call' (ch := []) os (Un.laidN k na ha1) (J.hok.laidN k ha1 new) ag (fun b y => absurd y (by simp)), rfl, q a _ ha1 (same_new ha1) upd_same⟩
/-- at a an exception of the class D, with the field at = y -/
def ExF (H : Hp) (a D : Addr) (y : V) : Prop := ∃ dx, H a = some (ExV (.ref D) (some dx) a) ∧ H dx = some (.xd [(("at" : Str), y)])
/-- at a an exception of the class D -/
def ExAt (H : Hp) (a D : Addr) : Prop := H a = some (ExO (.ref D) a) ∨ ∃ y, ExF H a D y
theorem ExF.same {H H' : Hp} {a D : Addr} {y : V} (h : ExF H a D y) (s : Same H H') : ExF H' a D y := by
  obtain ⟨dx, h1, h2⟩ := h
  exact ⟨dx, s _ _ h1, s _ _ h2⟩
theorem ExAt.same {H H' : Hp} {a D : Addr} (h : ExAt H a D) (s : Same H H') : ExAt H' a D := by
  rcases h with h | ⟨y, h⟩
  · exact .inl (s _ _ h)
  · exact .inr ⟨y, h.same s⟩
theorem notCls_of {o : Obj} {vs : Array Value} (hd : o.data = .fields vs) : PySem.W.notCls o = true := by
  unfold PySem.W.notCls
  rw [hd]
section
variable {X : Cx} {pins : List (Addr × Obj)} {σ : L2.St} {H : Hp} {s : Shared} {a D : Addr} {y : V}
theorem ExF.inst (I : Inv X pins σ H s) (h : ExF H a D y) : ∃ ox od u, PySem.W.InstAt s.heap a ox D (some od) ∧ PySem.W.lookIn "at" od = some (some u) ∧ RelV y u := by
  obtain ⟨dx, h1, h2⟩ := h
  have z1 : ObjOk X.prog X.w H s.heap a (.ext fun h => ∃ (oe : Obj) (vs : Array Value), h.get? a = some oe ∧ Zc (.ref D) (some dx) oe ∧ oe.data = .fields vs) := I.hok a _ h1
  obtain ⟨⟨oe, vs, ha, ⟨hc, hd⟩, hv⟩, _⟩ := z1
  have z2 : ObjOk X.prog X.w H s.heap dx (.xd [(("at" : Str), y)]) := I.hok dx _ h2
  obtain ⟨mA, hn, hr⟩ := z2
  obtain ⟨od, ho, hl⟩ := lookIn_ns hn
  have l : List.lookup ("at" : Str) [(("at" : Str), y)] = some y := by simp [List.lookup]
  obtain ⟨u, hu, ru⟩ := RelO.some_of (v := y) (o := mA "at") (by rw [← l]; exact hr "at")
  exact ⟨oe, od, u, ⟨ha, hc, notCls_of hv, by rw [hd]; exact ho⟩, by rw [hl, hu], ru⟩
theorem ExAt.inst (I : Inv X pins σ H s) (h : ExAt H a D) : ∃ ox od, PySem.W.InstAt s.heap a ox D od := by
  rcases h with h | ⟨y, h⟩
  · obtain ⟨⟨oe, vs, ha, ⟨hc, hd⟩, hv, _⟩, _⟩ := I.hok a _ h
    exact ⟨oe, none, ⟨ha, hc, notCls_of hv, by rw [hd]; exact trivial⟩⟩
  · obtain ⟨ox, od, _, J, _⟩ := h.inst I
    exact ⟨ox, some od, J⟩
end
/-- X(e), X an own class without own __init__ -/
def tExN (C : Addr) (te : TE) : TE := fun σ H Q => te σ H fun _ H1 => ∀ a H2, H1 a = none → Same H1 H2 → H2 a = some (ExO (.ref C) a) → Q (.ref a) H2
theorem pe_excN {X : Cx} {C : Addr} {bmB : List Value} {B newId initId : String} {x : Str} {e : Expr} {te : TE} {p pos : Pos} (F : ExcBaseFacts B newId initId bmB) (q : PySem.W.excIn X.K C bmB newId = true) (gC : X.mg x = some (.ref C)) (kC : PySem.W.keepIn X.K (.ref C) = true) (hg : Gl X x)
    (he : PE X e te) (hs : starEach [e] X.env = (false, eval e X.env) :: starEach [] X.env := by rfl) (hdb : (x == ("__debug__" : Str)) = false := by decide) : PE X (.Call (.Name x p) [e] [] pos) (tExN C te) :=
  pe_weak (pe_exc1 F q gC kC hg (pe_cl he) hs hdb) fun _ _ _ h => ⟨_, fun _ _ z a na => z a _ na (same_new na) upd_same, h⟩
/-- isinstance(e, c) of an exception -/
def rIsX (K : PySem.W.Frag) : List V → Hp → VK → Prop := fun xs H Q => ∃ (a D : Addr) (c : V) (cv : Value) (b : Bool), xs = [.ref a, c] ∧ ExAt H a D ∧ ExcC K D ∧ (∀ u, RelV c u → u = cv) ∧ PySem.W.kitOne K (.ref D) cv = some b ∧ Q (.bl b) H
theorem call_isX {X : Cx} : CallR X (.builtin "isinstance") (rIsX X.K) := by
  intro pins s σ H xs us Q I r h
  obtain ⟨a, D, c, cv, b, rfl, hE, C, hcv, e, q⟩ := h
  cases r with
  | cons rx rr =>
    cases rr with
    | cons rt rr =>
      cases rr
      cases rx
      have ec := hcv _ rt
      subst ec
      obtain ⟨ox, od, J⟩ := hE.inst I
      have cl : (PySem.W.clsIn X.K D).isSome = true := by
        obtain ⟨cd, hc, _⟩ := PySem.W.any_some C.hd
        rw [hc]
        rfl
      exact PySem.W.kia_one (PySem.W.kitx_exc cl C.hg C.hk C.hs C.ha C.hn C.ht C.hm) I.kIn J e (fun z => nomatch z) fun tk => ⟨.bl b, H, I.kept (t' := tk) fun _ _ z => z, rfl, q⟩
/-- e.at of an exception -/
def tAtX (K : PySem.W.Frag) (te : TE) : TE := fun σ H Q => te σ H fun x H1 => ∃ (a D : Addr) (y : V), x = .ref a ∧ ExF H1 a D y ∧ ExcC K D ∧ PySem.W.findIn K (.ref D) "at" = some none ∧ Q y H1
theorem pe_atX {X : Cx} {e : Expr} {te : TE} {pos : Pos} (he : PE X e te) (hb : attributeBase e "at" X.env (eval e X.env) = eval e X.env := by rfl) : PE X (.Attribute e "at" pos) (tAtX X.K te) := by
  refine ⟨fun pins s σ H Q I h => attr_of hb (thn (he.run pins s σ H _ I h) fun u s1 hh => ?_)⟩
  obtain ⟨x, H1, I1, rx, a, D, y, rfl, hE, C, nf, q⟩ := hh
  cases rx
  obtain ⟨ox, od, u, J, l, ru⟩ := hE.inst I1
  exact HandSPX.exc_get I1.kIn J C.hg C.hk C.hs (PySem.W.findObj_own C.hd nf rfl l) (handed_of ru) ⟨y, H1, I1.tok _, ru, q⟩
/-- the promise of «def __init__(self, at): self.at = at» -/
def spInit (K : PySem.W.Frag) : Sp := fun vs H Q _ => ∃ (a C : Addr) (y : V), vs = [.ref a, y] ∧ OexC K C ∧ PySem.W.findIn K (.ref C) "at" = some none ∧ H a = some (exo a C none) ∧
  ∀ dx, H dx = none → dx ≠ a → Q .non (upd (upd H dx (exd dx [(("at" : Str), y)])) a (exo a C (some dx)))
theorem del_new {H1 : Hp} {a dx : Addr} {o1 o2 o3 : HO} (na : H1 a = none) (ne : dx ≠ a) : del (upd (upd (upd H1 a o1) dx o2) a o3) a = upd H1 dx o2 := by
  funext b
  by_cases hb : b = a
  · subst hb
    rw [del_same, upd_ne (Ne.symm ne), na]
  · rw [del_ne hb, upd_ne hb]
    by_cases hd : b = dx
    · subst hd
      rw [upd_same, upd_same]
    · rw [upd_ne hd, upd_ne hd, upd_ne hb]
/-- what C(y) asks, C with that __init__: the exception and its field -/
theorem made_F {K : PySem.W.Frag} {C : Addr} {y : V} {H1 : Hp} {Q : VK} (T : OexC K C) (nf : PySem.W.findIn K (.ref C) "at" = some none) (h : ∀ a H2, H1 a = none → Same H1 H2 → ExF H2 a C y → Q (.ref a) H2) :
    [y].length ≤ 1000 ∧ ∀ a, H1 a = none → spInit K (.ref a :: ([y] ++ [])) (upd H1 a (exo a C none)) (fun v H2 => v = .non ∧ ∃ (d : Addr) (fs : List (Str × V)), H2 a = some (exo a C (some d)) ∧ H2 d = some (exd d fs) ∧ H1 d = none ∧
      Made (upd (del H2 a) d (.xd fs)) (Value.ref C) (some d) Q) (fun _ _ _ => False) := by
  refine ⟨by simp, fun a na => ⟨a, C, y, rfl, T, nf, upd_same, fun dx nd ne => ?_⟩⟩
  have nd1 : H1 dx = none := by
    rw [upd_ne ne] at nd
    exact nd
  refine ⟨rfl, dx, [(("at" : Str), y)], upd_same, by rw [upd_ne ne, upd_same], nd1, ?_⟩
  rw [del_new na ne, upd_upd]
  intro b H3 nb s3 e3
  have sd : Same H1 (upd H1 dx (.xd [(("at" : Str), y)])) := same_new nd1
  exact h b H3 (sd.free nb) (sd.trans s3) ⟨dx, e3, s3 _ _ upd_same⟩
end Ev1
namespace Gx
open PySem PySem.Spec PyProof.Rows L2 GxR
/-! ### any, all of a generator expression whose element is run by the layer's own rules -/
/-- the generator's frame running, awake under any | all -/
abbrev gCx (X : Cx) (ge : Expr) (s : Shared) (H : Hp) (cenv : Env) (it : Addr) (fp : List Addr) (pn : List (Addr × Obj)) : Cx :=
  { X with
    s_0 := s
    H_0 := H
    env := cenv
    outer := X.stack
    stack := cenv :: X.stack
    ex := fp
    fn := fun _ => false
    pn := pn
    xe := fun _ _ => False
    A := X.A.in1.in1.over (.compLoop ge 0 (.ref it) .none cenv) [] }
theorem room_gen {k : Nat} {X : Cx} {elt : Expr} {gs : List Comprehension} {scope : Scope} {pos : Pos} {s : Shared} {H : Hp} {cenv : Env} {it : Addr} {fp : List Addr} {pn : List (Addr × Obj)} (r : Room (k + 1) X.A) :
    Room k (gCx X (.GeneratorExp elt gs scope pos) s H cenv it fp pn).A := by
  refine ⟨r.hd, ?_, ?_⟩
  · have := r.dp
    show X.A.depth + 0 + 1 + 3 * k + 5 < recursionLimit
    omega
  · have := r.un
    show X.A.units + 1 + 1 + 0 + 3 + 16 * k + 200 < cLine
    omega
/-- gens, drawn and toks say nothing but that all are bare -/
theorem inv_gens {X : Cx} {pins : List (Addr × Obj)} {σ : L2.St} {H : Hp} {s s' : Shared} (I : Inv X pins σ H s) (hh : s'.heap = s.heap) (ho : s'.os = s.os) (hb : AllBare s'.gens) : Inv X pins σ H s' := by
  obtain ⟨h, g, d, t, o⟩ := s
  obtain ⟨h', g', d', t', o'⟩ := s'
  dsimp only at hh ho hb
  subst hh ho
  exact { ok := I.ok, os := I.os, bare := hb, base := I.base, loc := I.loc, cell := I.cell, free := I.free, freeC := I.freeC, pin := I.pin, hok := I.hok, len := I.len }
theorem bare_set {s : Shared} {g : Nat} {x : GenState} (h : AllBare s.gens) (hx : x.bare = true) : AllBare (s.setGen g x).gens := by
  intro y hy
  have hy' : y ∈ s.gens.setIfInBounds g x := hy
  obtain ⟨i, hi, e⟩ := Array.mem_iff_getElem.mp hy'
  by_cases hg : g = i
  · subst hg
    rw [Array.getElem_setIfInBounds_self] at e
    rw [← e]
    exact hx
  · rw [Array.getElem_setIfInBounds_ne (by simpa using hi) hg] at e
    rw [← e]
    exact h _ (Array.getElem_mem _)
section
variable {X : Cx} {pins : List (Addr × Obj)} {σ : L2.St} {H : Hp} {s : Shared}
/-- what the frame of the generator knows as it begins -/
theorem gen_start {ge : Expr} {scope : Scope} {own : List (Str × Nat)} {fp : List Addr} {it a : Addr} {code : Value} {go : Obj} {gs : Array GenState} {tk : Nat} {h5 : Heap} {m : Str → Option Value} (I : Inv X pins σ H s) (hc : X.calm = true) (ok : BlkOk X.N X.env.scope scope own) (hN : X.N.Nodup)
    (nc : ∀ y ∈ scope.names, y.2 ≠ .cell) (hfp : ∀ b ∈ fp, FpOk X pins H b ∧ b < s.heap.objs.size) (fr : (X.A.in1.in1.over (.compLoop ge 0 (.ref it) .none (genEnv scope (cloFrom X.env.cells scope.names []) s.heap.objs.size code builtinsNs X.env)) []).frames = some (genEnv scope (cloFrom X.env.cells scope.names []) s.heap.objs.size code builtinsNs X.env :: X.stack))
    (hg : AllBare gs) (kp : ∀ b o, s.heap.get? b = some o → h5.get? b = some o) (hns : h5.Ns s.heap.objs.size m) (ha : h5.get? a = some go) (ha1 : s.heap.objs.size < a) (hd : ∀ v, go.data ≠ .cell v) :
    Inv (gCx X ge s H (genEnv scope (cloFrom X.env.cells scope.names []) s.heap.objs.size code builtinsNs X.env) it fp [(a, go)]) [] (wipe σ (own.map (·.2))) H { s with gens := gs, toks := tk, heap := h5 } := by
  have cm : ∀ {y : Str} {c : Addr}, (cloFrom X.env.cells scope.names []).lookup y = some c → X.env.cells.lookup y = some c := fun {y c} e => by
    rcases cloFrom_mem (PySem.mem_of_lookup e) with z | ⟨h1, z⟩
    · cases z
    · have q : ∃ c', X.env.cells.lookup y = some c' := by
        rcases ok.free (y, .free) h1 rfl with k | k
        · exact I.ok.has y (.inl k)
        · exact I.ok.has y (.inr k)
      obtain ⟨c', q⟩ := q
      rw [q] at z
      rw [q, z]
      rfl
  have ch : ∀ {y : Str}, scope.names.lookup y = some .free → ∃ c, (cloFrom X.env.cells scope.names []).lookup y = some c := fun {y} e => mem_lookup (cloFrom_has (PySem.mem_of_lookup e))
  have noc : ∀ {y : Str}, scope.names.lookup y ≠ some .cell := fun {y} e => nc _ (PySem.mem_of_lookup e) rfl
  have stL : ∀ b ∈ frs X.stack, b < s.heap.objs.size := fun b hb => by
    obtain ⟨_, o, e, _⟩ := I.stack.mem hb
    exact Heap.lt_size e
  have okG : (gCx X ge s H (genEnv scope (cloFrom X.env.cells scope.names []) s.heap.objs.size code builtinsNs X.env) it fp [(a, go)]).Ok := {
    mod := I.ok.mod
    kind := ok.kind
    glob := I.ok.glob
    blt := rfl
    above := Nat.le_refl _
    inj := fun x y c h1 h2 => I.ok.inj x y c (cm h1) (cm h2)
    has := fun x h => h.elim (fun k => absurd k noc) fun k => ch k
    cab := fun x c h => Bool.noConfusion h
    hd := fun h => I.ok.hd h
    frames := fr
    stk := .inr ⟨rfl, rfl⟩
    exf := fun b hb => ⟨Nat.ne_of_lt (hfp b hb).2, fun x c e => (hfp b hb).1.2.2.2.2.1 x c (cm e)⟩
    bs := I.bs
    bsz := Nat.le_trans I.ok.bsz I.sz
    noex := fun b o e hb => by
      rcases (hfp b hb).1.2.2.2.1 with z | z
      · exact I.ok.noex b o e z
      · exact Nat.lt_irrefl _ (Nat.lt_of_lt_of_le (Heap.lt_size e) (Nat.le_trans I.ok.bsz z))
    exfs := fun b hb z => by
      rcases List.mem_cons.mp (I.stkSub b z) with y | y
      · exact (hfp b hb).1.2.1 y
      · exact (hfp b hb).1.2.2.1 y
    funs := I.stack
    frf := I.stkFree }
  refine { ok := okG, os := rfl, bare := hg, base := Un.kept kp, loc := ⟨m, hns, fun i x v e1 e2 e3 => ?_⟩, cell := fun x c e => ?_, free := I.hok.fresh (Nat.le_refl _), freeC := fun x c e => I.freeC x c (cm e), pin := fun p hp => ?_, hok := I.hok.kept kp, len := (wipe_length _ _).trans I.len }
  · obtain ⟨e2, hi⟩ := wipe_some e2
    have hf : scope.names.lookup x = some .free := by
      have no : ∀ k, scope.names.lookup x = some k → ¬ (k = .local ∨ k = .cell) := fun k hk hh => by
        rcases ok.own _ (PySem.mem_of_lookup hk) hh with z | z
        · obtain ⟨p, hp, hx⟩ := List.mem_map.mp z
          have q := ok.ix p hp
          have hx' : p.1 = x := hx
          rw [hx'] at q
          exact hi (List.mem_map.mpr ⟨p, hp, nodup_ix hN q e1⟩)
        · exact z (List.mem_of_getElem? e1)
      have e3 : Vis scope x := e3
      rcases e3 with k | k | k
      · exact absurd (.inl rfl) (no _ k)
      · exact absurd (.inr rfl) (no _ k)
      · exact k
    have hv := ok.free _ (PySem.mem_of_lookup hf) rfl
    obtain ⟨m0, _, hl⟩ := I.loc
    obtain ⟨u, ru, q⟩ := hl i x v e1 e2 (.inr hv)
    refine ⟨u, ru, .inr ⟨.inr hf, ?_⟩⟩
    rcases q with ⟨k, _⟩ | ⟨_, c, ec, z⟩
    · have k' : X.env.scope.names.lookup x = some .local := k
      rcases hv with y | y
      · have y' : X.env.scope.names.lookup x = some .cell := y
        rw [k'] at y'
        cases y'
      · have y' : X.env.scope.names.lookup x = some .free := y
        rw [k'] at y'
        cases y'
    · obtain ⟨c', e'⟩ := ch hf
      have e2 := cm e'
      rw [ec] at e2
      cases e2
      exact ⟨c, e', z.keeps kp⟩
  · obtain ⟨v, z⟩ := I.cell x c (cm e)
    exact ⟨v, z.keeps kp⟩
  · have hp' : p ∈ [(a, go)] ++ ([] : List (Addr × Obj)) := hp
    have e : p = (a, go) := by simpa using hp'
    subst e
    refine ⟨ha, I.hok.fresh (Nat.le_of_lt ha1), Nat.ne_of_gt ha1, fun z => ?_, hd⟩
    exact Nat.lt_irrefl _ (Nat.lt_trans (stL _ z) ha1)
end
/-- what a turn's way through the generator must reach. stopb: the truth at which any (true), all (false) stops -/
def GEndP (Y : Cx) (σw : L2.St) (stopb : Bool) (Q : VK) : Nat → Shared → Shared → Prop := fun _ _ s => ∃ H', Inv Y [] σw H' s ∧ Q (.bl (!stopb)) H'
def GProto (Y : Cx) (σw : L2.St) (fp : List Addr) (tn : Nat → Heap → Prop) (W : Nat → Nat → Hp → Prop) (stopb : Bool) (Q : VK) : Protocol := fun n _ v s kap => ∃ (k : Bool) (H' : Hp), v = .bool k ∧ Inv Y [] σw H' s ∧
  ((k = stopb ∧ Q (.bl stopb) H') ∨ (k = !stopb ∧ ∃ i m, m < n ∧ W i m H' ∧ ∀ s'' : Shared, s''.heap = s.heap → s''.os = s.os → AllBare s''.gens → kap (.send .none) s''))
section
variable {X : Cx} {elt tg iter : Expr} {ifs : List Expr} {scope : Scope} {gpos : Pos} {s4 : Shared} {H4 : Hp} {cenv : Env} {it : Addr} {fp : List Addr} {pn : List (Addr × Obj)} {J : It} {tn : Nat → Heap → Prop} {g : TG} {tt : TT} {te : TE} {own : List Nat} {σ : L2.St} {stopb : Bool} {Q : VK} {W : Nat → Nat → Hp → Prop}
/-- the turns of the generator's own loop -/
theorem gen_loop (hc : X.calm = true) (hco : cenv.scope.isCoroutine = false) (T : Turn X.prog X.w X.K tg J fp it tn) (hpn : ∀ p ∈ pn, ∀ b ∈ fp, p.1 ≠ b)
    (pg : PG (gCx X (.GeneratorExp elt [⟨tg, iter, ifs, 0⟩] scope gpos) s4 H4 cenv it fp pn) tg g) (pt : PTs (gCx X (.GeneratorExp elt [⟨tg, iter, ifs, 0⟩] scope gpos) s4 H4 cenv it fp pn) ifs tt) (pe : PE (gCx X (.GeneratorExp elt [⟨tg, iter, ifs, 0⟩] scope gpos) s4 H4 cenv it fp pn) elt te)
    (turn : ∀ i m H, W i m H → (J.stop i H ∧ Q (.bl (!stopb)) H) ∨ (J.go i H ∧ ∃ Nx : Hp → Prop, (∀ H', Nx H' → ∃ m', m' < m ∧ W (i + 1) m' H') ∧ ∀ x H', J.yld i H x H' → g x (wipe σ own) H' fun σ2 H2 => wipe σ2 own = wipe σ own ∧ tt σ2 H2 fun b H3 =>
      if b = true then te σ2 H3 fun y H4 => (y = .bl stopb ∧ Q (.bl stopb) H4) ∨ (y = .bl (!stopb) ∧ Nx H4) else Nx H3)) :
    ∀ (m n i : Nat) (s0 s : Shared) (H' : Hp), m < n → W i m H' → Inv (gCx X (.GeneratorExp elt [⟨tg, iter, ifs, 0⟩] scope gpos) s4 H4 cenv it fp pn) [] (wipe σ own) H' s → tn i s.heap → (∀ b ∈ fp, H' b = none) →
      Seg (model X.prog X.w) X.A.in1.in1 (fun n s0 r s1 => r = .ok .next ∧ GEndP (gCx X (.GeneratorExp elt [⟨tg, iter, ifs, 0⟩] scope gpos) s4 H4 cenv it fp pn) (wipe σ own) stopb Q n s0 s1)
        (GProto (gCx X (.GeneratorExp elt [⟨tg, iter, ifs, 0⟩] scope gpos) s4 H4 cenv it fp pn) (wipe σ own) fp tn W stopb Q) n s0
        (.compLoop (.GeneratorExp elt [⟨tg, iter, ifs, 0⟩] scope gpos) 0 (.ref it) .none cenv) ((model X.prog X.w).den (.compLoop (.GeneratorExp elt [⟨tg, iter, ifs, 0⟩] scope gpos) 0 (.ref it) .none cenv)) [] s := by
  intro m
  induction m using Nat.strongRecOn with
  | ind m ih =>
    intro n i s0 s H' hmn w I st nf
    have fpk : ∀ {σ' : L2.St} {H' : Hp} {s' : Shared}, Inv (gCx X (.GeneratorExp elt [⟨tg, iter, ifs, 0⟩] scope gpos) s4 H4 cenv it fp pn) [] σ' H' s' → (∀ b ∈ fp, H' b = none) → ∀ b ∈ fp, FpOk (gCx X (.GeneratorExp elt [⟨tg, iter, ifs, 0⟩] scope gpos) s4 H4 cenv it fp pn) [] H' b := fun {σ' H' s'} I' hn b hb =>
      ⟨hn b hb, (I'.ok.exf b hb).1, I'.ok.exfs b hb, .inl hb, (I'.ok.exf b hb).2, fun p hp => hpn p (by simpa using hp) b hb⟩
    show Seg _ _ _ _ n s0 _ ((compTurn (.GeneratorExp elt [⟨tg, iter, ifs, 0⟩] scope gpos) 0 (.ref it) .none cenv).onRaise (leaving cenv)) [] s
    rw [compTurn_gen, Sem.onRaise_eq_wrap]
    refine seg_bind_wrap (wpAny_standAt ?_)
    rcases turn i m H' w with ⟨stop, q⟩ | ⟨go, Nx, hNx, step⟩
    · refine seg_bind_wrap (thnF (T.done (gCx X (.GeneratorExp elt [⟨tg, iter, ifs, 0⟩] scope gpos) s4 H4 cenv it fp pn) rfl rfl rfl hc i [] s _ H' (fun _ _ => False) I (fpk I nf) st stop) fun r s1 z => ?_)
      obtain ⟨rfl, I1⟩ := z
      exact seg_end (.ok .next) ⟨rfl, H', I1, q⟩
    · refine seg_bind_wrap (thnF (T.item (gCx X (.GeneratorExp elt [⟨tg, iter, ifs, 0⟩] scope gpos) s4 H4 cenv it fp pn) rfl rfl rfl hc i [] s _ H' (fun _ _ => False) I (fpk I nf) st go) fun r s1 z => ?_)
      obtain ⟨u, rfl, z⟩ := z
      refine seg_bind_wrap (thnF z fun _ s2 z2 => ?_)
      obtain ⟨x, H2, I2, r2, y2, st2, n2⟩ := z2
      have P2 := I2.pinned (fpk I2 n2) (T.obj _ _ st2)
      refine seg_bind_wrap (thnF (pg.run _ s2 _ H2 x u _ P2 r2 (step x H2 y2)) fun _ s3 z3 => ?_)
      obtain ⟨σ3, H3, I3, hw, q3⟩ := z3
      refine seg_bind_wrap (thnF (pt.run _ s3 σ3 H3 _ I3 q3) fun b sb zb => ?_)
      obtain ⟨Hb, Ib, qb⟩ := zb
      have back : ∀ {s' : Shared} {H' : Hp}, Inv (gCx X (.GeneratorExp elt [⟨tg, iter, ifs, 0⟩] scope gpos) s4 H4 cenv it fp pn) ([] ++ pinsAt fp s2.heap) σ3 H' s' →
          Inv (gCx X (.GeneratorExp elt [⟨tg, iter, ifs, 0⟩] scope gpos) s4 H4 cenv it fp pn) [] (wipe σ own) H' s' ∧ tn (i + 1) s'.heap ∧ ∀ b ∈ fp, H' b = none := fun {s' H'} I' => by
        have pin' : ∀ b ∈ fp, ∀ o, s2.heap.get? b = some o → s'.heap.get? b = some o ∧ H' b = none := fun b hb o e =>
          have y := I'.pin (b, o) (List.mem_append_right _ (List.mem_append_right _ (mem_pinsAt hb e)))
          ⟨y.1, y.2.1⟩
        have hl : (wipe σ own).length = σ3.length := by
          rw [← hw, wipe_length]
        refine ⟨(I'.unpinned (pins := [])).weak hl (fun j v e => ?_), T.keep _ _ _ st2 (fun b hb o e => (pin' b hb o e).1), fun b hb => ?_⟩
        · rw [← hw] at e
          exact (wipe_some e).1
        · obtain ⟨o, e, _⟩ := T.obj _ _ st2 b hb
          exact (pin' b hb o e).2
      cases b with
      | false =>
        simp only [Bool.false_eq_true, if_false] at qb ⊢
        obtain ⟨m', hm, w'⟩ := hNx _ qb
        obtain ⟨I', st', n'⟩ := back Ib
        exact seg_again rfl (ih m' hm n (i + 1) s0 sb Hb (Nat.lt_trans hm hmn) w' I' st' n')
      | true =>
        simp only [if_true] at qb ⊢
        have hy : ∀ v, yieldOut cenv v = yieldValue v := fun v => by simp only [yieldOut, hco, Bool.false_eq_true, if_false]
        simp only [hy]
        rw [Sem.bind_eq_wrap', Sem.bind_eq_wrap', Sem.wrap_wrap, Sem.wrap_wrap]
        refine seg_wrap (thnF (pe.run _ sb σ3 Hb _ Ib qb) fun z sy zy => ?_)
        obtain ⟨v, Hy, Iy, ry, qy⟩ := zy
        obtain ⟨I', st', n'⟩ := back Iy
        obtain ⟨n1, rfl⟩ : ∃ n1, n = n1 + 1 := ⟨n - 1, by omega⟩
        refine seg_at (seg_yield rfl rfl rfl ?_)
        rcases qy with ⟨rfl, q⟩ | ⟨rfl, q⟩
        · cases ry
          exact ⟨stopb, Hy, rfl, I', .inl ⟨rfl, q⟩⟩
        · cases ry
          obtain ⟨m', hm, w'⟩ := hNx _ q
          refine ⟨!stopb, Hy, rfl, I', .inr ⟨rfl, i + 1, m', by omega, w', fun s'' hh ho hb => ?_⟩⟩
          exact seg_again rfl (ih m' hm n1 (i + 1) s'' s'' Hy (by omega) w' (inv_gens I' hh ho hb) (by rw [hh]; exact st') n')
/-- the start of the generator's code -/
theorem gen_begin {n : Nat} {s0 s : Shared} {R : GenEnd} {Y : Protocol} (T : Turn X.prog X.w X.K tg J fp it tn) (st : tn 0 s.heap)
    (loop : Seg (model X.prog X.w) X.A.in1.in1 R Y n s0 (.compLoop (.GeneratorExp elt [⟨tg, iter, ifs, 0⟩] scope gpos) 0 (.ref it) .none cenv) ((model X.prog X.w).den (.compLoop (.GeneratorExp elt [⟨tg, iter, ifs, 0⟩] scope gpos) 0 (.ref it) .none cenv)) [] s) :
    Seg (model X.prog X.w) X.A.in1.in1 R Y n s0 (.compStart (.GeneratorExp elt [⟨tg, iter, ifs, 0⟩] scope gpos) 0 (.ref it) .none cenv) ((model X.prog X.w).den (.compStart (.GeneratorExp elt [⟨tg, iter, ifs, 0⟩] scope gpos) 0 (.ref it) .none cenv)) [] s := by
  show Seg _ _ _ _ n s0 _ ((compStart (.GeneratorExp elt [⟨tg, iter, ifs, 0⟩] scope gpos) 0 (.ref it) .none cenv).onRaise (leaving cenv)) [] s
  unfold compStart
  rw [Sem.onRaise_eq_wrap]
  refine seg_bind_wrap (wpAny_askSetting ?_)
  split
  · exact seg_again rfl loop
  · refine seg_bind_wrap (wpAny_rule ?_)
    show Seg _ _ _ _ n s0 _ ((standAt iter.pos >>= _).wrap _ _ _ _) [] s
    refine seg_bind_wrap (wpAny_standAt (seg_bind_wrap ?_))
    exact T.self _ 0 s _ _ st (seg_again rfl loop)
end
/-- the generator at a, number gn, is asleep (or fresh), with n turns at most -/
def Asleep (X Y : Cx) (σw : L2.St) (fp : List Addr) (tn : Nat → Heap → Prop) (W : Nat → Nat → Hp → Prop) (stopb : Bool) (Q : VK) (gn n : Nat) (s : Shared) : Prop :=
  ∃ (gs : GenState) (H' : Hp), s.gens[gn]? = some gs ∧ Inv Y [] σw H' s ∧ ∀ s'' : Shared, s''.heap = s.heap → s''.os = s.os → AllBare s''.gens →
    gs.Goes (model X.prog X.w) X.A.in1.in1 (fun n s0 r s1 => r = .ok .next ∧ GEndP Y σw stopb Q n s0 s1) (GProto Y σw fp tn W stopb Q) n (.send .none) s''
section
variable {X Y : Cx} {σw : L2.St} {fp : List Addr} {tn : Nat → Heap → Prop} {W : Nat → Nat → Hp → Prop} {Q : VK} {gn : Nat} {a : Addr} {go : Obj} {R : Result → Shared → Prop}
theorem set_at {s : Shared} {x : GenState} (h : gn < s.gens.size) : (s.setGen gn x).gens[gn]? = some x := by
  show (s.gens.setIfInBounds gn x)[gn]? = some x
  rw [Array.getElem?_setIfInBounds_self_of_lt h]
/-- one waking of the generator -/
theorem wake {stopb : Bool} {n : Nat} {s : Shared} {Q' : Option Value → Shared → Prop} {E : Value → Shared → Prop} (hh : X.A.handled = none) (hroom : X.A.depth < recursionLimit) (hp : (a, go) ∈ Y.pn) (hgo : ∀ h : Heap, h.get? a = some go → h.IsGen a gn) (S : Asleep X Y σw fp tn W stopb Q gn n s)
    (stop : ∀ s' H', Inv Y [] σw H' s' → Q (.bl stopb) H' → Q' (some (.bool stopb)) s') (next : ∀ s' m, m < n → Asleep X Y σw fp tn W stopb Q gn m s' → Q' (some (.bool (!stopb))) s') (done : ∀ s' H', Inv Y [] σw H' s' → Q (.bl (!stopb)) H' → Q' none s') :
    wpAny (model X.prog X.w) X.A.in1 (pyNext (.ref a)) Q' E s := by
  obtain ⟨gs, H', hg, I, hG⟩ := S
  have hlt : gn < s.gens.size := by
    rcases Nat.lt_or_ge gn s.gens.size with z | z
    · exact z
    · rw [Array.getElem?_eq_none z] at hg
      cases hg
  have ig : s.heap.IsGen a gn := hgo _ (I.pin (a, go) (List.mem_append_left _ hp)).1
  refine GenW.wpAny_gsz (n := s.gens.size) (Nat.le_refl _) ?_
  refine wpAny_pyNext_genexpQ (A := X.A.in1) hh I.nolimit hroom ig hg (hG _ rfl rfl (bare_set I.bare rfl)) (fun v s1 gs' hb hv sz => ?_) (fun s1 hp1 h' hk sz => ?_)
  · obtain ⟨k, H1, rfl, I1, z⟩ := hv
    have sz1 : gn < s1.gens.size := by
      have e : (s1.setGen gn gs').gens.size = s1.gens.size := GenW.setGen_size _ _ _
      rw [e] at sz
      omega
    have I2 : Inv Y [] σw H1 (s1.setGen gn gs') := inv_gens I1 rfl rfl (bare_set I1.bare hb)
    rcases z with ⟨rfl, q⟩ | ⟨rfl, i, m, hm, w, kap⟩
    · exact stop _ H1 I2 q
    · cases n with
      | zero => omega
      | succ n1 =>
        refine next _ n1 (Nat.lt_succ_self _) ⟨gs', H1, set_at sz1, I2, fun s'' h1 h2 h3 => ?_⟩
        exact kap s'' h1 h2 h3
  · obtain ⟨H1, I1, q⟩ := hp1
    refine done _ H1 ?_ q
    have I2 : Inv Y [] σw H1 (s1.setGen gn .finished) := inv_gens I1 rfl rfl (bare_set I1.bare rfl)
    exact I2.kept (h' := h') (t' := s1.toks) fun b o e => hk b o e
theorem any_loop (hh : X.A.handled = none) (hroom : X.A.depth < recursionLimit) (hp : (a, go) ∈ Y.pn) (hgo : ∀ h : Heap, h.get? a = some go → h.IsGen a gn)
    (fin : ∀ s' H' b, Inv Y [] σw H' s' → Q (.bl b) H' → R (.ok (.ret (.bool b))) s') : ∀ (n : Nat) (s : Shared), Asleep X Y σw fp tn W true Q gn n s → codeAny (model X.prog X.w) X.A (.builtin "any.loop" ⟨[.ref a], []⟩) R s := by
  intro n
  induction n using Nat.strongRecOn with
  | ind n ih =>
    intro s S
    refine codeAny_builtin F.entry_any_loop ?_
    rw [Around.under_plainId F.plain_any_loop _]
    show wpAny _ X.A.in1 (pyNext (.ref a) >>= _) _ _ s
    refine wpAny_bind (wake hh hroom hp hgo S (fun s' H' I q => ?_) (fun s' m hm S' => ?_) (fun s' H' I q => ?_))
    · refine wpAny_bind (wpAny_holding (wpAny_truthy_bool (wpAny_bind (wpAny_letGo ?_))))
      simp only [if_true]
      exact wpAny_bind (wpAny_rule (wpAny_pure (fin s' H' true I q)))
    · refine wpAny_bind (wpAny_holding (wpAny_truthy_bool (wpAny_bind (wpAny_letGo ?_))))
      simp only [Bool.not_true, Bool.false_eq_true, if_false]
      exact wpAny_pure ⟨plainId_quiet F.plain_any_loop _, ih m hm s' S'⟩
    · exact wpAny_bind (wpAny_rule (wpAny_pure (fin s' H' false I q)))
theorem all_loop (hh : X.A.handled = none) (hroom : X.A.depth < recursionLimit) (hp : (a, go) ∈ Y.pn) (hgo : ∀ h : Heap, h.get? a = some go → h.IsGen a gn)
    (fin : ∀ s' H' b, Inv Y [] σw H' s' → Q (.bl b) H' → R (.ok (.ret (.bool b))) s') : ∀ (n : Nat) (s : Shared), Asleep X Y σw fp tn W false Q gn n s → codeAny (model X.prog X.w) X.A (.builtin "all.loop" ⟨[.ref a], []⟩) R s := by
  intro n
  induction n using Nat.strongRecOn with
  | ind n ih =>
    intro s S
    refine codeAny_builtin F.entry_all_loop ?_
    rw [Around.under_plainId F.plain_all_loop _]
    show wpAny _ X.A.in1 (pyNext (.ref a) >>= _) _ _ s
    refine wpAny_bind (wake hh hroom hp hgo S (fun s' H' I q => ?_) (fun s' m hm S' => ?_) (fun s' H' I q => ?_))
    · refine wpAny_bind (wpAny_holding (wpAny_truthy_bool (wpAny_bind (wpAny_letGo ?_))))
      simp only [Bool.false_eq_true, if_false]
      exact wpAny_bind (wpAny_rule (wpAny_pure (fin s' H' false I q)))
    · refine wpAny_bind (wpAny_holding (wpAny_truthy_bool (wpAny_bind (wpAny_letGo ?_))))
      simp only [Bool.not_false, if_true]
      exact wpAny_pure ⟨plainId_quiet F.plain_all_loop _, ih m hm s' S'⟩
    · exact wpAny_bind (wpAny_rule (wpAny_pure (fin s' H' true I q)))
end
/-- any(elt for target in iter if ..) (stopb true), all(..) (stopb false): W by the turn and a measure, Nx what a turn is to reach; P: the def's table of code objects -/
def tAA (P : Addr) (stopb : Bool) (wi : TI) (g : TG) (tt : TT) (te : TE) (vs : List Nat) : TE := fun σ H Q => wi σ H fun J H1 => TabG H1 P ∧ ∀ H2, Tabbed P H1 H2 → ∃ W : Nat → Nat → Hp → Prop, (∃ m, W 0 m H2) ∧
  ∀ i m H, W i m H → (J.stop i H ∧ Q (.bl (!stopb)) H) ∨ (J.go i H ∧ ∃ Nx : Hp → Prop, (∀ H', Nx H' → ∃ m', m' < m ∧ W (i + 1) m' H') ∧ ∀ x H', J.yld i H x H' → g x (wipe σ vs) H' fun σ2 H2 => wipe σ2 vs = wipe σ vs ∧ tt σ2 H2 fun b H3 =>
    if b = true then te σ2 H3 fun y H4 => (y = .bl stopb ∧ Q (.bl stopb) H4) ∨ (y = .bl (!stopb) ∧ Nx H4) else Nx H3)
/-- over a tuple that stays -/
theorem aa_tup {K : PySem.W.Frag} {a : Addr} {xs : List V} {g : TG} {tt : TT} {te : TE} {vs : List Nat} {σ : L2.St} {H1 : Hp} {stopb : Bool} {Q : VK} (Pv : Nat → Hp → Prop) (h0 : Pv 0 H1) (hl : ∀ i H, i ≤ xs.length → Pv i H → SqT K H a xs)
    (hs : ∀ i x H, xs[i]? = some x → Pv i H → g x (wipe σ vs) H fun σ2 H2 => wipe σ2 vs = wipe σ vs ∧ tt σ2 H2 fun b H3 => if b = true then te σ2 H3 fun y H4 => (y = .bl stopb ∧ Q (.bl stopb) H4) ∨ (y = .bl (!stopb) ∧ Pv (i + 1) H4) else Pv (i + 1) H3) (hd : ∀ H, Pv xs.length H → Q (.bl (!stopb)) H) :
    ∃ W : Nat → Nat → Hp → Prop, (∃ m, W 0 m H1) ∧ ∀ i m H, W i m H → ((Itt K a).stop i H ∧ Q (.bl (!stopb)) H) ∨ ((Itt K a).go i H ∧ ∃ Nx : Hp → Prop, (∀ H', Nx H' → ∃ m', m' < m ∧ W (i + 1) m' H') ∧ ∀ x H', (Itt K a).yld i H x H' → g x (wipe σ vs) H' fun σ2 H2 => wipe σ2 vs = wipe σ vs ∧ tt σ2 H2 fun b H3 =>
      if b = true then te σ2 H3 fun y H4 => (y = .bl stopb ∧ Q (.bl stopb) H4) ∨ (y = .bl (!stopb) ∧ Nx H4) else Nx H3) := by
  refine ⟨fun i m H => i + m = xs.length ∧ Pv i H, ⟨xs.length, Nat.zero_add _, h0⟩, fun i m H ⟨e, p⟩ => ?_⟩
  have sq := hl i H (by omega) p
  cases m with
  | zero =>
    have ei : i = xs.length := by omega
    subst ei
    exact .inl ⟨⟨xs, sq, Nat.le_refl _⟩, hd H p⟩
  | succ m =>
    have lt : i < xs.length := by omega
    refine .inr ⟨⟨xs, xs[i], sq, List.getElem?_eq_getElem lt⟩, Pv (i + 1), fun H' q => ⟨m, Nat.lt_succ_self m, by omega, q⟩, fun x H' y => ?_⟩
    obtain ⟨rfl, y⟩ := y
    exact hs i x _ (y xs sq) p
section
variable {X : Cx} {pins : List (Addr × Obj)} {σ : L2.St} {H : Hp} {s : Shared} {c P : Addr} {elt tg iter : Expr} {ifs : List Expr} {scope : Scope} {own : List (Str × Nat)} {gpos : Pos} {wi : TI} {g : TG} {tt : TT} {te : TE} {stopb : Bool} {k : Nat}
/-- the scope of a generator expression: no cells of its own -/
structure GSc (scope : Scope) : Prop where
  co : scope.isCoroutine = false
  nc : ∀ y ∈ scope.names, y.2 ≠ .cell
  dot : scope.names.lookup (".0" : Str) = some NameKind.local
theorem gen_make {Q : VK} {Q' : Value → Shared → Prop} (hr : Room k X.A) (hc : X.calm = true) (hN : X.N.Nodup) (TB : TabB X.base X.mg c P) (hcode : X.env.code = .ref c) (hi : PI X tg iter wi) (ok : BlkOk X.N X.env.scope scope own) (S : GSc scope)
    (hg : ∀ (s : Shared) (H : Hp) (C : Addr) (code : Value) (it : Addr) (fp : List Addr) (pn : List (Addr × Obj)), PG (gCx X (.GeneratorExp elt [⟨tg, iter, ifs, 0⟩] scope gpos) s H (genEnv scope (cloFrom X.env.cells scope.names []) C code builtinsNs X.env) it fp pn) tg g)
    (ht : ∀ (s : Shared) (H : Hp) (C : Addr) (code : Value) (it : Addr) (fp : List Addr) (pn : List (Addr × Obj)), PTs (gCx X (.GeneratorExp elt [⟨tg, iter, ifs, 0⟩] scope gpos) s H (genEnv scope (cloFrom X.env.cells scope.names []) C code builtinsNs X.env) it fp pn) ifs tt)
    (he : ∀ (s : Shared) (H : Hp) (C : Addr) (code : Value) (it : Addr) (fp : List Addr) (pn : List (Addr × Obj)), PE (gCx X (.GeneratorExp elt [⟨tg, iter, ifs, 0⟩] scope gpos) s H (genEnv scope (cloFrom X.env.cells scope.names []) C code builtinsNs X.env) it fp pn) elt te)
    (hs : ∀ x, genFold iter X.env x = pure x) (I : Inv X pins σ H s) (h : tAA P stopb wi g tt te (own.map (·.2)) σ H Q)
    (hQ : ∀ (a : Addr) (go : Obj) (gn n : Nat) (Y : Cx) (fp : List Addr) (tn : Nat → Heap → Prop) (W : Nat → Nat → Hp → Prop) (s5 : Shared), (a, go) ∈ Y.pn → (∀ h : Heap, h.get? a = some go → h.IsGen a gn) → (∀ s' H', Inv Y [] (wipe σ (own.map (·.2))) H' s' → Inv X pins σ H' s') → s5.heap.get? a = some go →
      Asleep X Y (wipe σ (own.map (·.2))) fp tn W stopb Q gn n s5 → Q' (.ref a) s5) :
    wpAny (model X.prog X.w) X.A (eval (.GeneratorExp elt [⟨tg, iter, ifs, 0⟩] scope gpos) X.env) Q' X.xe s := by
  have hfree : ∀ y ∈ scope.names, y.2 = .free → ∃ c, X.env.cells.lookup y.1 = some c := fun y hy e => by
    rcases ok.free y hy e with z | z
    · exact I.ok.has _ (.inl z)
    · exact I.ok.has _ (.inr z)
  refine wpAny_GeneratorExp_make S.co (closure_ok hfree) S.nc S.dot ok.kind (by have := hr.dp; omega) (thn (hi.run pins s σ H _ I h) fun xv s1 hx => thn hx fun itv s2 h2 => ?_) hs
  obtain ⟨it, fp, tn, J, H2, rfl, I2, T, st2, f2, ⟨ps, hP, hT⟩, q⟩ := h2
  have hPs : s2.heap.get? P = some { cls := .none, data := .fields ps } := I2.hok P _ hP
  have cd : PySem.W.CodeHd s2.heap c P := TB.code.keeps I2.bk
  have szf : ∀ b ∈ fp, b < s2.heap.objs.size := fun b hb => by
    obtain ⟨o, e, _⟩ := T.obj _ _ st2 b hb
    exact Heap.lt_size e
  have nP : ∀ b ∈ fp, b ≠ P := fun b hb z => by
    have e := (f2 b hb).1
    rw [z, hP] at e
    cases e
  refine ⟨I2.nolimit, ?_⟩
  have cont : ∀ (code : Value) (h3 : Heap) (tk : Nat) (more : Array Value), Heap.ExtBut P s2.heap h3 → s2.heap.objs.size ≤ h3.objs.size → h3.get? P = some { cls := .none, data := .fields (ps ++ more) } → TriplesOk (ps ++ more).toList →
      wpAny (model X.prog X.w) X.A (builtinsFor X.env.globals X.env.builtins) (fun bi s4 => ∀ h', h'.Ns s4.heap.objs.size (fun y => if y = ".0" then some (.ref it) else none) → Heap.SameBut s4.heap.objs.size (s4.heap.push { cls := .type "frame", data := .dict #[] }) h' →
        Q' (.ref h'.objs.size) { s4 with
          gens := s4.gens.push (.fresh (.compStart (.GeneratorExp elt [⟨tg, iter, ifs, 0⟩] scope gpos) 0 (.ref it) .none (genEnv scope (cloFrom X.env.cells scope.names []) s4.heap.objs.size code bi X.env))),
          toks := s4.toks + 1 + 1 + 1,
          heap := h'.push { cls := .type "generator", data := .fields #[.int s4.gens.size 0, .str "<genexpr>" (s4.toks + 1), .str (X.env.qual ++ "<genexpr>") (s4.toks + 1 + 1)] } }) X.xe { s2 with heap := h3, toks := tk } := by
    intro code h3 tk more hx hsz hP3 hT3
    obtain ⟨bm, ob, e1, e2, e3, e4, e5, e6, e7, e8⟩ := TB.bm
    have I3 : Inv X pins σ (upd H2 P (.tbl (ps ++ more))) { s2 with heap := h3, toks := tk } := inv_tab (g' := s2.gens) (d' := s2.drawn) (t' := tk) I2 hP (fun b o hb e => hx b o hb e) hP3 I2.bare
    have f3 : ∀ b ∈ fp, FpOk X pins (upd H2 P (.tbl (ps ++ more))) b ∧ b < h3.objs.size := fun b hb => ⟨⟨by rw [upd_ne (nP b hb)]; exact (f2 b hb).1, (f2 b hb).2⟩, Nat.lt_of_lt_of_le (szf b hb) hsz⟩
    have st3 : tn 0 h3 := T.keep _ _ _ st2 fun b hb o e => hx b o (nP b hb) e
    obtain ⟨W, ⟨m0, w0⟩, turn⟩ := q (upd H2 P (.tbl (ps ++ more))) ⟨⟨_, upd_same, hT3⟩, fun b hb => upd_ne hb⟩
    refine wpAny_builtinsFor (m := X.mg) (by rw [I3.ok.glob]; exact I3.mod.glob.keeps I3.bk) e1 e2 (hx _ _ e4 (I2.bk _ _ e5)) e6 e7 e8 ?_
    intro h' hn' hs'
    have hsz' : h'.objs.size = h3.objs.size + 1 := by
      rw [hs'.1]
      exact Heap.size_push ..
    have kp : ∀ b o, h3.get? b = some o → (h'.push { cls := .type "generator", data := .fields #[.int s2.gens.size 0, .str "<genexpr>" (tk + 1), .str (X.env.qual ++ "<genexpr>") (tk + 1 + 1)] }).get? b = some o := fun b o e =>
      Heap.get?_push_of_some _ (hs'.extBut b o (Nat.ne_of_lt (Heap.lt_size e)) (Heap.get?_push_of_some _ e))
    have st5 := T.keep _ _ _ st3 fun b hb o e => kp b o e
    have nf : ∀ b ∈ fp, (upd H2 P (.tbl (ps ++ more))) b = none := fun b hb => (f3 b hb).1.1
    have IG := gen_start (ge := .GeneratorExp elt [⟨tg, iter, ifs, 0⟩] scope gpos) (it := it) (code := code) (tk := tk + 1 + 1 + 1)
      (gs := s2.gens.push (.fresh (.compStart (.GeneratorExp elt [⟨tg, iter, ifs, 0⟩] scope gpos) 0 (.ref it) .none (genEnv scope (cloFrom X.env.cells scope.names []) h3.objs.size code builtinsNs X.env)))) I3 hc ok hN S.nc f3
      (by show pushEnvs [_] (pushEnvs [] X.A.frames) = _; rw [I.ok.frames]; rfl) (I2.bare.push rfl) kp (hn'.keeps fun b o e => Heap.get?_push_of_some _ e) (Heap.get?_push_size h' rfl) (show h3.objs.size < h'.objs.size by omega) (fun v z => by cases z)
    refine hQ h'.objs.size _ s2.gens.size (m0 + 1) _ fp tn W _ List.mem_cons_self (fun h0 e => ?_) (fun s' H' J' => ?_) (Heap.get?_push_size h' rfl) ⟨_, _, Array.getElem?_push_size .., IG, fun s'' h1 h2 h3' => ?_⟩
    · exact ⟨_, _, _, e, rfl, rfl, rfl⟩
    · exact I3.call' (ch := fp) J'.os J'.base J'.hok J'.bare fun b hb => ⟨(f3 b hb).1.2.2.2.1, (f3 b hb).1.2.1, (f3 b hb).1.2.2.2.2.1, (f3 b hb).1.2.2.2.2.2⟩
    · refine ⟨rfl, gen_begin T (by rw [h1]; exact st5) ?_⟩
      refine gen_loop hc S.co T (fun p hp b hb z => ?_) (hg _ _ _ _ _ _ _) (ht _ _ _ _ _ _ _) (he _ _ _ _ _ _ _) turn m0 (m0 + 1) 0 s'' s'' _ (Nat.lt_succ_self _) w0 (inv_gens IG h1 h2 h3') (by rw [h1]; exact st5) nf
      rw [List.mem_singleton.mp hp] at z
      have z1 := (f3 b hb).2
      rw [← z] at z1
      have z2 : h'.objs.size < h3.objs.size := z1
      omega
  cases hf : codeAmong gpos ps.toList with
  | none =>
    refine wpAny_genexprCodeX hcode (cd.code hPs hT) (cd.tab hPs) hf fun c' h' tk hx hge hlt hco' _ htab' _ => ?_
    have tr : TriplesOk (ps ++ #[rawInt gpos.line, rawInt gpos.col, Value.ref c']).toList := by
      obtain ⟨_, _, _, _, _, _, _, _, _, _, _, _, _, _, _, _, _, _, _, z, _⟩ := hco'
      exact z
    exact cont _ h' tk _ hx (Nat.le_trans hge (Nat.le_of_lt hlt)) htab'.2 tr
  | some cv =>
    refine wpAny_genexprCode_hit hcode (cd.code hPs hT) hf ?_
    exact cont cv s2.heap s2.toks #[] (Heap.ExtBut.refl _ _) (Nat.le_refl _) (by rw [Array.append_empty]; exact hPs) (by rw [Array.append_empty]; exact hT)
theorem pe_any {p pos : Pos} (hr : Room k X.A) (hb : Gl X "any") (hm : X.mg "any" = none) (hc : X.calm = true) (hN : X.N.Nodup) (TB : TabB X.base X.mg c P) (hcode : X.env.code = .ref c) (hi : PI X tg iter wi) (ok : BlkOk X.N X.env.scope scope own) (S : GSc scope)
    (hg : ∀ (s : Shared) (H : Hp) (C : Addr) (code : Value) (it : Addr) (fp : List Addr) (pn : List (Addr × Obj)), PG (gCx X (.GeneratorExp elt [⟨tg, iter, ifs, 0⟩] scope gpos) s H (genEnv scope (cloFrom X.env.cells scope.names []) C code builtinsNs X.env) it fp pn) tg g)
    (ht : ∀ (s : Shared) (H : Hp) (C : Addr) (code : Value) (it : Addr) (fp : List Addr) (pn : List (Addr × Obj)), PTs (gCx X (.GeneratorExp elt [⟨tg, iter, ifs, 0⟩] scope gpos) s H (genEnv scope (cloFrom X.env.cells scope.names []) C code builtinsNs X.env) it fp pn) ifs tt)
    (he : ∀ (s : Shared) (H : Hp) (C : Addr) (code : Value) (it : Addr) (fp : List Addr) (pn : List (Addr × Obj)), PE (gCx X (.GeneratorExp elt [⟨tg, iter, ifs, 0⟩] scope gpos) s H (genEnv scope (cloFrom X.env.cells scope.names []) C code builtinsNs X.env) it fp pn) elt te)
    (hs : ∀ x, genFold iter X.env x = pure x := by intro _; rfl)
    (hst : starEach [.GeneratorExp elt [⟨tg, iter, ifs, 0⟩] scope gpos] X.env = (false, eval (.GeneratorExp elt [⟨tg, iter, ifs, 0⟩] scope gpos) X.env) :: starEach [] X.env := by rfl) :
    PE X (.Call (.Name "any" p) [.GeneratorExp elt [⟨tg, iter, ifs, 0⟩] scope gpos] [] pos) (tAA P true wi g tt te (own.map (·.2))) := by
  refine ⟨fun pins s σ H Q I h => wpAny_Call_Name_kw (ld_blt I hb hm boot_any (PyProof.Rows.callWith_builtin1 ?_ hst (by rfl)))⟩
  rw [hst]
  refine Calls.spliced_cons (gen_make hr hc hN TB hcode hi ok S hg ht he hs I h fun a go gn n Y fp tn W s5 h1 h2 h3 h4 SL => Calls.spliced_nil ?_)
  refine call_function_tree F.kind_any F.plain_any F.entry_any (F.args_any1 _) ?_
  unfold Builtin.«any»
  refine wpAny_bind (m := oneArg "any" _) (wpAny_pure (wpAny_bind (wpAny_pyIter_gen (h2 _ h4) (wpAny_pure ⟨plainId_quiet F.plain_any_loop _, ?_⟩))))
  exact any_loop (I.ok.hd hc) hr.depth h1 h2 (fun s' H' b J q => ⟨.bl b, H', h3 s' H' J, rfl, q⟩) n s5 SL
theorem pe_all {p pos : Pos} (hr : Room k X.A) (hb : Gl X "all") (hm : X.mg "all" = none) (hc : X.calm = true) (hN : X.N.Nodup) (TB : TabB X.base X.mg c P) (hcode : X.env.code = .ref c) (hi : PI X tg iter wi) (ok : BlkOk X.N X.env.scope scope own) (S : GSc scope)
    (hg : ∀ (s : Shared) (H : Hp) (C : Addr) (code : Value) (it : Addr) (fp : List Addr) (pn : List (Addr × Obj)), PG (gCx X (.GeneratorExp elt [⟨tg, iter, ifs, 0⟩] scope gpos) s H (genEnv scope (cloFrom X.env.cells scope.names []) C code builtinsNs X.env) it fp pn) tg g)
    (ht : ∀ (s : Shared) (H : Hp) (C : Addr) (code : Value) (it : Addr) (fp : List Addr) (pn : List (Addr × Obj)), PTs (gCx X (.GeneratorExp elt [⟨tg, iter, ifs, 0⟩] scope gpos) s H (genEnv scope (cloFrom X.env.cells scope.names []) C code builtinsNs X.env) it fp pn) ifs tt)
    (he : ∀ (s : Shared) (H : Hp) (C : Addr) (code : Value) (it : Addr) (fp : List Addr) (pn : List (Addr × Obj)), PE (gCx X (.GeneratorExp elt [⟨tg, iter, ifs, 0⟩] scope gpos) s H (genEnv scope (cloFrom X.env.cells scope.names []) C code builtinsNs X.env) it fp pn) elt te)
    (hs : ∀ x, genFold iter X.env x = pure x := by intro _; rfl)
    (hst : starEach [.GeneratorExp elt [⟨tg, iter, ifs, 0⟩] scope gpos] X.env = (false, eval (.GeneratorExp elt [⟨tg, iter, ifs, 0⟩] scope gpos) X.env) :: starEach [] X.env := by rfl) :
    PE X (.Call (.Name "all" p) [.GeneratorExp elt [⟨tg, iter, ifs, 0⟩] scope gpos] [] pos) (tAA P false wi g tt te (own.map (·.2))) := by
  refine ⟨fun pins s σ H Q I h => wpAny_Call_Name_kw (ld_blt I hb hm (show bootBuiltins "all" = some (.builtin "all") by decide +kernel) (PyProof.Rows.callWith_builtin1 ?_ hst (by rfl)))⟩
  rw [hst]
  refine Calls.spliced_cons (gen_make hr hc hN TB hcode hi ok S hg ht he hs I h fun a go gn n Y fp tn W s5 h1 h2 h3 h4 SL => Calls.spliced_nil ?_)
  refine call_function_tree F.kind_all F.plain_all F.entry_all (F.args_all1 _) ?_
  unfold Builtin.«all»
  refine wpAny_bind (m := oneArg "all" _) (wpAny_pure (wpAny_bind (wpAny_pyIter_gen (h2 _ h4) (wpAny_pure ⟨plainId_quiet F.plain_all_loop _, ?_⟩))))
  exact all_loop (I.ok.hd hc) hr.depth h1 h2 (fun s' H' b J q => ⟨.bl b, H', h3 s' H' J, rfl, q⟩) n s5 SL
end
end Gx
namespace Dr
open PySem PySem.Spec PyProof.Rows L2
/-! ### the drawing of numbers: smixed, sdraw, sopen -/
def topS (i : Nat) : Stmt := PySem.Challenge.pw_sparecut_k51_falls_and_stands_looked_at.main.body.getD i (.Pass ⟨0, 0, 0, 0⟩)
abbrev sFre : Stmt := topS 16
abbrev sDrw : Stmt := topS 17
abbrev sOpn : Stmt := topS 15
theorem scFre : FnScope ["pen", "at", "cell", "one", "two", "mixed", "other"] ["pen"] (defScope sFre) := ⟨rfl, rfl, rfl, by decide +kernel, rfl, by decide +kernel, by decide +kernel⟩
theorem scDrw : FnScope ["pen", "many", "found"] ["pen", "many"] (defScope sDrw) := ⟨rfl, rfl, rfl, by decide +kernel, rfl, by decide +kernel, by decide +kernel⟩
theorem scOpn : FnScope ["script"] ["script"] (defScope sOpn) := ⟨rfl, rfl, rfl, by decide +kernel, rfl, by decide +kernel, by decide +kernel⟩
/-- the built-ins that stand as they stood -/
structure Zp (mg : Str → Option Value) : Prop where
  z_len : mg "len" = none
  z_list : mg "list" = none
/-- what lies at f: cells (at c), a place, a rest; at most B cells were taken -/
def Feed (H : Hp) (f c : Addr) (B : Nat) : Prop := ∃ (ns : List Int) (n : Nat) (r : Int),
  H f = some (.lst [.ref c, .int n, .int r]) ∧ H c = some (.lst (ns.map V.int)) ∧ ns.length ≤ 60 ∧ n ≤ B
/-- all but f is as it was -/
def But (f : Addr) (H H' : Hp) : Prop := ∀ b, b ≠ f → H' b = H b
theorem But.refl (f : Addr) (H : Hp) : But f H H := fun _ _ => rfl
theorem But.trans {f : Addr} {H H1 H2 : Hp} (a : But f H H1) (b : But f H1 H2) : But f H H2 := fun x n => (b x n).trans (a x n)
theorem Feed.mono {H : Hp} {f c : Addr} {B B' : Nat} (h : Feed H f c B) (l : B ≤ B') : Feed H f c B' := by
  obtain ⟨ns, n, r, h1, h2, h3, h4⟩ := h
  exact ⟨ns, n, r, h1, h2, h3, Nat.le_trans h4 l⟩
theorem Feed.same {H H' : Hp} {f c : Addr} {B : Nat} (h : Feed H f c B) (s : Same H H') : Feed H' f c B := by
  obtain ⟨ns, n, r, h1, h2, h3, h4⟩ := h
  exact ⟨ns, n, r, s _ _ h1, s _ _ h2, h3, h4⟩
theorem Feed.upd {H : Hp} {f c D : Addr} {B : Nat} {o : HO} (h : Feed H f c B) (nf : D ≠ f) (nc : D ≠ c) : Feed (upd H D o) f c B := by
  obtain ⟨ns, n, r, h1, h2, h3, h4⟩ := h
  exact ⟨ns, n, r, by rw [upd_ne (Ne.symm nf)]; exact h1, by rw [upd_ne (Ne.symm nc)]; exact h2, h3, h4⟩
theorem Feed.nf {H : Hp} {f c D : Addr} {B : Nat} (h : Feed H f c B) (n : H D = none) : D ≠ f := by
  obtain ⟨_, _, _, h1, _⟩ := h
  exact Ne.symm (ne_of_none h1 n)
theorem Feed.nc {H : Hp} {f c D : Addr} {B : Nat} (h : Feed H f c B) (n : H D = none) : D ≠ c := by
  obtain ⟨_, _, _, _, h2, _⟩ := h
  exact Ne.symm (ne_of_none h2 n)
theorem feed_ne {H : Hp} {f c : Addr} {ns : List Int} {a : V} {as : List V} (h1 : H f = some (.lst (.ref c :: as))) (h2 : H c = some (.lst (ns.map V.int))) : c ≠ f := by
  intro e
  rw [e, h1] at h2
  have z := HO.lst.inj (Option.some.inj h2)
  cases ns with
  | nil => cases z
  | cons x r => cases z
section
variable {P : Program} {w : World} {K : PySem.W.Frag} {mg : Str → Option Value} {base : Heap}
/-- sopen(script) -/
def spOpn (K : PySem.W.Frag) : Sp := fun vs H Q _ => ∃ (a : Addr) (ns : List Int), vs = [.ref a] ∧ SqL K H a (ns.map V.int) ∧ ∀ (f c : Addr) (H' : Hp), H f = none → H c = none → Same H H' → Feed H' f c 0 → Q (.ref f) H'
theorem cut60 (ns : List Int) : cutV (ns.map V.int) none (some 60) = (ns.take 60).map V.int := by
  unfold cutV
  rw [HT.sIx_none, show HT.sIx (ns.map V.int).length (ns.map V.int).length (some 60) = min 60 (ns.map V.int).length from HT.sIx_nat _ _ 60]
  rw [List.drop_zero, Nat.sub_zero, List.map_take, List.length_map]
  by_cases h : ns.length ≤ 60
  · rw [Nat.min_eq_right h, List.take_of_length_le (by rw [List.length_map]; exact Nat.le_refl _), List.take_of_length_le (by rw [List.length_map]; exact h)]
  · rw [Nat.min_eq_left (by omega)]
theorem same_upd {H : Hp} {p : Addr} {o : HO} (h : H p = none) : Same H (upd H p o) := fun b x e => by
  rw [upd_ne (ne_of_none e h)]
  exact e
theorem ok_opn {f : Addr} {fd : FuncData} {k : Nat} (F : Fun K "_law_e_pen" "_law_e_pen" sOpn f fd) (ml : mg "list" = none) : FnOk P w K mg base CX0 (k + 1) f fd ["script"] (spOpn K) := by
  refine F.ok scOpn (fun vs H Q E h => ?_) (fun cdv A outer s H vs Q E hr h => ?_)
  · obtain ⟨a, ns, rfl, _⟩ := h
    rfl
  · obtain ⟨a, ns, rfl, hS, q⟩ := h
    refine ⟨_, pss_one (ps_ret (pe_lst (pa_cons (pe_callTy call_list_of (by rfl) ml (by decide +kernel) (pa_cons (pe_slice sl_list (pv 0) po_none (po_some pe_int)) pa_nil)) (pa_cons pe_int (pa_cons pe_int pa_nil))))), ?_⟩
    refine ⟨.ref a, rfl, 60, rfl, a, _, rfl, hS, fun c nc => ?_⟩
    refine ⟨c, _, rfl, .inl (.of upd_same), fun d nd => ?_⟩
    refine ⟨by show 3 ≤ sizeLine; decide, fun p np => ?_⟩
    have s1 : Same H (upd H c (.lst (cutV (ns.map V.int) none (some 60)))) := same_upd nc
    have s2 := s1.trans (same_upd (o := .lst (cutV (ns.map V.int) none (some 60))) nd)
    have s3 := s2.trans (same_upd (o := .lst [.ref d, .int 0, .int 0]) np)
    refine q p d _ (s2.free np) (s1.free nd) s3 ⟨ns.take 60, 0, 0, upd_same, ?_, ?_, Nat.le_refl _⟩
    · have ndp : d ≠ p := ne_of_none (upd_same (H := upd H c (.lst (cutV (ns.map V.int) none (some 60)))) (a := d) (o := .lst (cutV (ns.map V.int) none (some 60)))) np
      rw [upd_ne ndp, upd_same, cut60]
    · rw [List.length_take]
      omega
end
end Dr
namespace Kp
open PySem PySem.Spec PyProof.Rows L2 GxR Nw Dr
/-! ### what a call leaves as it was: all but the feed (F) and the tables of code objects -/
structure Ke (F : Addr → Prop) (H H' : Hp) : Prop where
  keep : ∀ b o, H b = some o → (∀ ps, o ≠ .tbl ps) → ¬ F b → H' b = some o
  tabs : ∀ P, TabG H P → TabG H' P
  tups : ∀ b xs, H b = some (.tup xs) → H' b = some (.tup xs)
abbrev Nof : Addr → Prop := fun _ => False
variable {F G : Addr → Prop} {H H1 H2 H' : Hp} {f c P : Addr} {B : Nat}
theorem Ke.refl (F : Addr → Prop) (H : Hp) : Ke F H H := ⟨fun _ _ h _ _ => h, fun _ h => h, fun _ _ h => h⟩
theorem Ke.trans (a : Ke F H H1) (b : Ke F H1 H2) : Ke F H H2 := ⟨fun x o h n m => b.keep x o (a.keep x o h n m) n m, fun Q h => b.tabs Q (a.tabs Q h), fun x xs h => b.tups x xs (a.tups x xs h)⟩
theorem Ke.mono (a : Ke F H H1) (h : ∀ b, F b → G b) : Ke G H H1 := ⟨fun x o e n m => a.keep x o e n fun z => m (h x z), a.tabs, a.tups⟩
theorem Ke.all (a : Ke Nof H H1) : Ke F H H1 := a.mono fun _ z => z.elim
theorem Ke.same (s : Same H H1) : Ke F H H1 := ⟨fun b o e _ _ => s b o e, fun Q ⟨ps, h, t⟩ => ⟨ps, s _ _ h, t⟩, fun b xs e => s _ _ e⟩
theorem Ke.lst {a : Addr} {xs : List V} (k : Ke F H H1) (h : H a = some (.lst xs)) (n : ¬ F a) : H1 a = some (.lst xs) := k.keep a _ h (fun ps z => by cases z) n
theorem Ke.tabbed (t : TabG H P) (x : Tabbed P H H1) : Ke F H H1 := by
  obtain ⟨ps, hP, _⟩ := t
  have nP : ∀ b o, H b = some o → (∀ qs, o ≠ .tbl qs) → b ≠ P := fun b o e n z => by
    rw [z, hP] at e
    exact n ps (Option.some.inj e).symm
  refine ⟨fun b o e n _ => (x.2 b (nP b o e n)).trans e, fun Q hQ => ?_, fun b xs e => (x.2 b (nP b _ e fun qs z => by cases z)).trans e⟩
  by_cases hq : Q = P
  · rw [hq]
    exact x.1
  · obtain ⟨qs, h1, h2⟩ := hQ
    exact ⟨qs, (x.2 Q hq).trans h1, h2⟩
theorem Ke.but (h : Feed H f c B) (b : But f H H1) : Ke (· = f) H H1 := by
  obtain ⟨ns, n, r, h1, _⟩ := h
  refine ⟨fun x o e _ m => (b x m).trans e, fun Q ⟨qs, e, t⟩ => ⟨qs, (b Q fun z => ?_).trans e, t⟩, fun x xs e => (b x fun z => ?_).trans e⟩
  · rw [z, h1] at e
    cases e
  · rw [z, h1] at e
    cases e
/-- a write to an object of ours that was new behind H -/
theorem Ke.upd {p : Addr} {o : HO} (k : Ke F H H1) (n : H p = none) : Ke F H (upd H1 p o) := by
  refine ⟨fun b x e t m => ?_, fun Q hQ => ?_, fun b xs e => ?_⟩
  · rw [upd_ne (ne_of_none e n)]
    exact k.keep b x e t m
  · obtain ⟨ps, e, t⟩ := hQ
    obtain ⟨qs, e2, t2⟩ := k.tabs Q ⟨ps, e, t⟩
    exact ⟨qs, by rw [upd_ne (ne_of_none e n)]; exact e2, t2⟩
  · rw [upd_ne (ne_of_none e n)]
    exact k.tups b xs e
theorem Ke.feed (k : Ke Nof H H1) (h : Feed H f c B) : Feed H1 f c B := by
  obtain ⟨ns, n, r, h1, h2, h3, h4⟩ := h
  exact ⟨ns, n, r, k.lst h1 (fun z => z), k.lst h2 (fun z => z), h3, h4⟩
/-- p holds nothing that H knows (but a table, perhaps) -/
def Frs (H : Hp) (p : Addr) : Prop := ∀ b o, H b = some o → (∀ ps, o ≠ .tbl ps) → b ≠ p
theorem Frs.of {p : Addr} (h : H p = none) : Frs H p := fun b o e _ => ne_of_none e h
theorem Frs.ke {p : Addr} (k : Ke (· = f) H H1) (hF : Feed H1 f c B) (h : Frs H1 p) : Frs H p := fun b o e n => by
  by_cases hb : b = f
  · obtain ⟨_, _, _, h1, _⟩ := hF
    rw [hb]
    exact h f _ h1 fun ps z => by cases z
  · exact h b o (k.keep b o e n hb) n
theorem Frs.ke0 {p : Addr} (k : Ke Nof H H1) (h : Frs H1 p) : Frs H p := fun b o e n => h b o (k.keep b o e n fun z => z) n
theorem Ke.write {p : Addr} {xs : List V} {o : HO} (k : Ke F H H1) (fr : Frs H p) (h1 : H1 p = some (.lst xs)) : Ke F H (L2.upd H1 p o) := by
  refine ⟨fun b x e t m => ?_, fun Q hQ => ?_, fun b ys e => ?_⟩
  · rw [upd_ne (fr b x e t)]
    exact k.keep b x e t m
  · obtain ⟨qs, e2, t2⟩ := k.tabs Q hQ
    have n : Q ≠ p := fun z => by
      rw [z, h1] at e2
      cases e2
    exact ⟨qs, by rw [upd_ne n]; exact e2, t2⟩
  · rw [upd_ne (fr b _ e fun ps z => by cases z)]
    exact k.tups b ys e
/-- whole numbers in a tuple, truths in a tuple -/
def TupI (H : Hp) (v : V) (ns : List Int) : Prop := ∃ a, v = .ref a ∧ H a = some (.tup (ns.map V.int))
def TupB (H : Hp) (v : V) (bs : List Bool) : Prop := ∃ a, v = .ref a ∧ H a = some (.tup (bs.map V.bl))
def LstI (H : Hp) (v : V) (ns : List Int) : Prop := ∃ a, v = .ref a ∧ H a = some (.lst (ns.map V.int))
/-- a tuple of claims -/
def Bk (H : Hp) (v : V) (css : List (List Int)) : Prop := ∃ a vs, v = .ref a ∧ H a = some (.tup vs) ∧ vs.length = css.length ∧ ∀ (i : Nat) (x : V) (cs : List Int), vs[i]? = some x → css[i]? = some cs → TupI H x cs
theorem TupI.ke {v : V} {ns : List Int} (h : TupI H v ns) (k : Ke F H H1) : TupI H1 v ns := by
  obtain ⟨a, e, h⟩ := h
  exact ⟨a, e, k.tups _ _ h⟩
theorem TupB.ke {v : V} {ns : List Bool} (h : TupB H v ns) (k : Ke F H H1) : TupB H1 v ns := by
  obtain ⟨a, e, h⟩ := h
  exact ⟨a, e, k.tups _ _ h⟩
theorem Bk.ke {v : V} {css : List (List Int)} (h : Bk H v css) (k : Ke F H H1) : Bk H1 v css := by
  obtain ⟨a, vs, e, h, l, t⟩ := h
  exact ⟨a, vs, e, k.tups _ _ h, l, fun i x cs h1 h2 => (t i x cs h1 h2).ke k⟩
/-! ### claims -/
def rising : List Int → Bool
  | a :: b :: r => decide (a < b) && rising (b :: r)
  | _ => true
structure IsCl (cs : List Int) : Prop where
  up : cs.Pairwise (· < ·)
  says : ∀ k ∈ cs, k ≠ 0 ∧ -8 ≤ k ∧ k ≤ 8
  opp : ∀ k ∈ cs, -k ∉ cs
  len : cs.length ≤ 8
theorem IsCl.nil : IsCl [] := { up := .nil, says := fun _ h => (nomatch h), opp := fun _ h => (nomatch h), len := by decide }
end Kp
namespace Dr
open PySem PySem.Spec PyProof.Rows L2 Nw Kp
theorem pick7 (n : Nat) : ∃ one : Int, 2147483500 < one ∧ one < 2147483648 ∧ atI [V.int 2147483647, V.int 2147483629, V.int 2147483587, V.int 2147483579, V.int 2147483563, V.int 2147483549, V.int 2147483543] ((n : Int) % 7) = some (.int one) := by
  have h : (n : Int) % 7 = 0 ∨ (n : Int) % 7 = 1 ∨ (n : Int) % 7 = 2 ∨ (n : Int) % 7 = 3 ∨ (n : Int) % 7 = 4 ∨ (n : Int) % 7 = 5 ∨ (n : Int) % 7 = 6 := by omega
  rcases h with h | h | h | h | h | h | h <;> rw [h] <;> exact ⟨_, by decide, by decide, rfl⟩
theorem pick5 (n : Nat) : ∃ two : Int, 2147483390 < two ∧ two < 2147483648 ∧ atI [V.int 2147483497, V.int 2147483489, V.int 2147483477, V.int 2147483423, V.int 2147483399] ((n : Int) % 5) = some (.int two) := by
  have h : (n : Int) % 5 = 0 ∨ (n : Int) % 5 = 1 ∨ (n : Int) % 5 = 2 ∨ (n : Int) % 5 = 3 ∨ (n : Int) % 5 = 4 := by omega
  rcases h with h | h | h | h | h <;> rw [h] <;> exact ⟨_, by decide, by decide, rfl⟩
section
variable {P : Program} {w : World} {K : PySem.W.Frag} {mg : Str → Option Value} {base : Heap}
/-- fresh(pen): any number -/
def spFre : Sp := fun vs H Q _ => ∃ (f c : Addr) (B : Nat), vs = [.ref f] ∧ Feed H f c B ∧ B ≤ 2 ^ 28 ∧ ∀ (r : Int) (H' : Hp), Feed H' f c (B + 1) → Ke (· = f) H H' → Q (.int r) H'
set_option exponentiation.threshold 4000 in
theorem ok_fre {f : Addr} {fd : FuncData} {k : Nat} (F : Fun K "_law_e_fresh" "_law_e_fresh" sFre f fd) (T : Zp mg) : FnOk P w K mg base CX0 (k + 1) f fd ["pen"] spFre := by
  refine F.ok scFre (fun vs H Q E h => ?_) (fun cdv A outer s H vs Q E hr h => ?_)
  · obtain ⟨f, c, B, rfl, _⟩ := h
    rfl
  · obtain ⟨f, c, B, rfl, hF, hB, q⟩ := h
    obtain ⟨ns, n, r, h1, h2, h3, h4⟩ := id hF
    have hcf : c ≠ f := feed_ne (a := .non) h1 h2
    have hS : SqL K H f [.ref c, .int n, .int r] := .of h1
    have n28 : n ≤ 268435456 := Nat.le_trans h4 hB
    refine ⟨_, (pss_cons (ps_set (i := 1) scFre.nd rfl (.inl rfl) (pe_ix ix_list (pv 0) pe_int (fun _ _ => rfl)))
      (Evl.pss_cut (ps_asg (pe_op op_add (pv 1) pe_int) (pg_sub (pv 0) pe_int set_list))
      (pss_cons (ps_set (i := 2) scFre.nd rfl (.inl rfl) pe_int)
      (Evl.pss_cut (ps_if (pt_cmpR (op_neD hr.units) (pe_ix ix_list (pv 0) pe_int (fun _ _ => rfl)) (pe_lstN pa_nil) (nomark _)) (pss_one (ps_set (i := 2) scFre.nd rfl (.inl rfl) (pe_op op_fdiv (pe_ix ix_list (pe_ix ix_list (pv 0) pe_int (fun _ _ => rfl)) (pe_op op_mod (pe_op op_mul (pv 1) pe_int) (pe_callB call_len_seq (by rfl) T.z_len (by decide +kernel) (pa_cons (pe_ix ix_list (pv 0) pe_int (fun _ _ => rfl)) pa_nil))) (fun _ _ => rfl)) (pe_op op_add pe_int (pe_op op_fdiv (pv 1) (pe_callB call_len_seq (by rfl) T.z_len (by decide +kernel) (pa_cons (pe_ix ix_list (pv 0) pe_int (fun _ _ => rfl)) pa_nil))))))) pss_nil)
      (Evl.pss_cut (ps_if (pt_cmpR op_lt (pv 1) (pe_callB call_len_seq (by rfl) T.z_len (by decide +kernel) (pa_cons (pe_ix ix_list (pv 0) pe_int (fun _ _ => rfl)) pa_nil)) (nomark _)) (pss_one (ps_set (i := 2) scFre.nd rfl (.inl rfl) (pe_ix ix_list (pe_ix ix_list (pv 0) pe_int (fun _ _ => rfl)) (pv 1) (fun _ _ => rfl)))) pss_nil)
      (pss_cons (ps_if (pt_cmpR op_ge (pv 2) (pe_op op_pow pe_int pe_int) (nomark _)) (pss_one (ps_ret (pv 2))) pss_nil)
      (Evl.pss_cut (ps_set (i := 3) scFre.nd rfl (.inl rfl) (pe_ix ix_list (pe_lstN (pa_cons pe_int (pa_cons pe_int (pa_cons pe_int (pa_cons pe_int (pa_cons pe_int (pa_cons pe_int (pa_cons pe_int pa_nil)))))))) (pe_op op_mod (pv 1) pe_int) (fun _ _ => rfl)))
      (Evl.pss_cut (ps_set (i := 4) scFre.nd rfl (.inl rfl) (pe_ix ix_list (pe_lstN (pa_cons pe_int (pa_cons pe_int (pa_cons pe_int (pa_cons pe_int (pa_cons pe_int pa_nil)))))) (pe_op op_mod (pv 1) pe_int) (fun _ _ => rfl)))
      (Evl.pss_cut (ps_set (i := 5) scFre.nd rfl (.inl rfl) (pe_op op_mod (pe_op op_pow (pe_op op_add (pe_op op_add (pe_op op_mod (pv 2) (pv 3)) (pe_op op_mul pe_int (pv 1))) pe_int) pe_int) (pv 3)))
      (Evl.pss_cut (ps_set (i := 6) scFre.nd rfl (.inl rfl) (pe_op op_mod (pe_op op_pow (pe_op op_add (pe_op op_add (pv 5) (pe_op op_mod (pv 2) (pv 4))) (pe_op op_mul (pv 1) (pv 1))) pe_int) (pv 4)))
      (pss_one (ps_ret (pe_op op_add (pe_op op_mul (pe_op op_add (pv 5) pe_int) (pv 4)) (pv 6)))))))))))))), ?_⟩
    refine ⟨.ref f, rfl, f, _, 1, _, rfl, rfl, hS, rfl, ?_⟩
    -- pen[1] = at + 1
    refine Evl.q_cut (M := fun σ' H' => σ' = [some (.ref f), some (.int n), none, none, none, none, none] ∧ H' f = some (.lst [.ref c, .int ((n + 1 : Nat) : Int), .int r]) ∧ H' c = some (.lst (ns.map V.int)) ∧ Ke (· = f) H H') ?_ ?_
    · refine ⟨_, rfl, _, _, rfl, rfl, _, rfl, f, _, 1, 1, rfl, rfl, h1, rfl, rfl, upd_same, by rw [upd_ne hcf]; exact h2, .but hF fun b nb => upd_ne nb⟩
    rintro σ' H1 ⟨rfl, f1, c1, k1⟩
    have F1 : Feed H1 f c (B + 1) := ⟨ns, n + 1, r, f1, c1, h3, by omega⟩
    have hS1 : SqL K H1 f [.ref c, .int ((n + 1 : Nat) : Int), .int r] := .of f1
    have hC1 : SqL K H1 c (ns.map V.int) := .of c1
    -- cell
    refine Evl.q_cut (M := fun σ' H' => ∃ z : Int, σ' = [some (.ref f), some (.int n), some (.int z), none, none, none, none] ∧ Same H1 H') ?_ ?_
    · refine ⟨.ref f, rfl, f, _, 0, _, rfl, rfl, hS1, rfl, Nat.zero_le _, fun p H2 np s2 hp _ => ?_⟩
      have hS2 : SqL K H2 f [.ref c, .int ((n + 1 : Nat) : Int), .int r] := .of (s2 _ _ f1)
      have hC2 : SqL K H2 c (ns.map V.int) := .of (s2 _ _ c1)
      refine ⟨_, _, .lst hC2 (dp_ints ns), .lst (.of hp) .nil, shaped_list (flat_ints _), shaped_list rfl, _, rfl, ite2 (fun e => ?_) (fun e => ?_)⟩
      · have l0 : 0 < ns.length := by
          cases ns with
          | nil => exact absurd e (by decide)
          | cons a b => exact Nat.succ_pos _
        have l1 : n * 7 % ns.length < ns.length := Nat.mod_lt _ l0
        refine ⟨.ref f, rfl, f, _, 0, _, rfl, rfl, hS2, rfl, _, rfl, _, _, rfl, rfl, .inr ⟨by decide, by decide⟩, .ref f, rfl, f, _, 0, _, rfl, rfl, hS2, rfl, c, _, rfl, .inl hC2, _, _, rfl, rfl, ?_, c, _, _, .int (ns[n * 7 % ns.length]), rfl, rfl, hC2, ?_, ?_⟩
        · show (0 : Int) < ((ns.map V.int).length : Int)
          rw [List.length_map]
          omega
        · refine at_of (j := n * 7 % ns.length) ?_ ?_
          · rw [List.length_map, Int.natCast_emod, Int.natCast_mul]
            rfl
          · rw [List.getElem?_map, List.getElem?_eq_getElem l1]
            rfl
        · refine ⟨_, rfl, .ref f, rfl, f, _, 0, _, rfl, rfl, hS2, rfl, c, _, rfl, .inl hC2, _, _, rfl, rfl, ⟨?_, ?_⟩, _, _, rfl, rfl, _, _, rfl, rfl, ⟨?_, ?_⟩, _, rfl, s2⟩
          · show (0 : Int) < ((ns.map V.int).length : Int)
            rw [List.length_map]
            omega
          · show ((ns.map V.int).length : Int) < 1073741824
            rw [List.length_map]
            omega
          · show (0 : Int) < 1 + (n : Int) / ((ns.map V.int).length : Int)
            have : (0 : Int) ≤ (n : Int) / ((ns.map V.int).length : Int) := Int.ediv_nonneg (by omega) (by omega)
            omega
          · show 1 + (n : Int) / ((ns.map V.int).length : Int) < 1073741824
            have : (n : Int) / ((ns.map V.int).length : Int) ≤ n := Int.ediv_le_self _ (by omega)
            omega
      · exact ⟨_, rfl, s2⟩
    rintro σ' H2 ⟨z, rfl, s2⟩
    have hS2 : SqL K H2 f [.ref c, .int ((n + 1 : Nat) : Int), .int r] := .of (s2 _ _ f1)
    have hC2 : SqL K H2 c (ns.map V.int) := .of (s2 _ _ c1)
    refine Evl.q_cut (M := fun σ' H' => ∃ z : Int, σ' = [some (.ref f), some (.int n), some (.int z), none, none, none, none] ∧ H' = H2) ?_ ?_
    · refine ⟨_, rfl, .ref f, rfl, f, _, 0, _, rfl, rfl, hS2, rfl, c, _, rfl, .inl hC2, _, _, rfl, rfl, _, rfl, ite2 (fun e => ?_) (fun e => ?_)⟩
      · have l1 : n < ns.length := by
          have e : (n : Int) < ((ns.map V.int).length : Int) := of_decide_eq_true e
          rw [List.length_map] at e
          omega
        refine ⟨.ref f, rfl, f, _, 0, _, rfl, rfl, hS2, rfl, _, rfl, c, _, _, .int (ns[n]), rfl, rfl, hC2, ?_, _, rfl, rfl⟩
        refine at_of (j := n) rfl ?_
        rw [List.getElem?_map, List.getElem?_eq_getElem l1]
        rfl
      · exact ⟨_, rfl, rfl⟩
    clear z
    rintro σ' H' ⟨z, rfl, rfl⟩
    have F2 := F1.same s2
    have k2 : Ke (· = f) H H' := k1.trans (.same s2)
    refine ⟨_, rfl, _, _, rfl, rfl, ⟨by decide, by decide, by decide⟩, _, _, rfl, rfl, _, rfl, ite2 (fun e => ⟨_, rfl, q z H' F2 k2⟩) (fun e => ?_)⟩
    -- one
    obtain ⟨one, o1, o2, ha⟩ := pick7 n
    refine Evl.q_cut (M := fun σ' H2 => σ' = [some (.ref f), some (.int n), some (.int z), some (.int one), none, none, none] ∧ Same H' H2) ?_ ?_
    · refine ⟨by show 7 ≤ sizeLine; decide, fun p H3 np s3 hp _ => ?_⟩
      exact ⟨_, rfl, _, _, rfl, rfl, by show (0 : Int) < 7; decide, p, _, _, .int one, rfl, rfl, .of hp, ha, rfl, s3⟩
    rintro σ' H3 ⟨rfl, s3⟩
    obtain ⟨two, t1, t2, hb⟩ := pick5 n
    refine Evl.q_cut (M := fun σ' H2 => σ' = [some (.ref f), some (.int n), some (.int z), some (.int one), some (.int two), none, none] ∧ Same H' H2) ?_ ?_
    · refine ⟨by show 5 ≤ sizeLine; decide, fun p H4 np s4 hp _ => ?_⟩
      exact ⟨_, rfl, _, _, rfl, rfl, by show (0 : Int) < 5; decide, p, _, _, .int two, rfl, rfl, .of hp, hb, rfl, s3.trans s4⟩
    rintro σ' H4 ⟨rfl, s4⟩
    have z1 : 0 ≤ z % one := Int.emod_nonneg _ (by omega)
    have z2 : z % one < one := Int.emod_lt_of_pos _ (by omega)
    have z3 : 0 ≤ z % two := Int.emod_nonneg _ (by omega)
    have z4 : z % two < two := Int.emod_lt_of_pos _ (by omega)
    refine Evl.q_cut (M := fun σ' H2 => ∃ mx : Int, σ' = [some (.ref f), some (.int n), some (.int z), some (.int one), some (.int two), some (.int mx), none] ∧ H2 = H4 ∧ 0 ≤ mx ∧ mx < one) ?_ ?_
    · refine ⟨_, rfl, _, rfl, _, _, rfl, rfl, (by show (0 : Int) < one; omega), _, rfl, _, _, rfl, rfl, .inl ⟨by decide, by decide⟩, _, _, rfl, rfl, _, _, rfl, rfl, _, _, rfl, rfl, ⟨by decide, by decide, ?_⟩, _, rfl, _, _, rfl, rfl, (by show (0 : Int) < one; omega), _, rfl, rfl, Int.emod_nonneg _ (by omega), Int.emod_lt_of_pos _ (by omega)⟩
      show (z % one + 31 * (n : Int) + 5).natAbs < 18446744073709551616
      omega
    rintro σ' H5 ⟨mx, rfl, rfl, m1, m2⟩
    refine Evl.q_cut (M := fun σ' H2 => ∃ ot : Int, σ' = [some (.ref f), some (.int n), some (.int z), some (.int one), some (.int two), some (.int mx), some (.int ot)] ∧ H2 = H5) ?_ ?_
    · refine ⟨_, rfl, _, rfl, _, rfl, _, _, rfl, rfl, (by show (0 : Int) < two; omega), _, _, rfl, rfl, _, rfl, _, rfl, _, _, rfl, rfl, .inl ⟨by omega, by omega⟩, _, _, rfl, rfl, _, _, rfl, rfl, ⟨by decide, by decide, ?_⟩, _, rfl, _, _, rfl, rfl, (by show (0 : Int) < two; omega), _, rfl, rfl⟩
      show (mx + z % two + (n : Int) * (n : Int)).natAbs < 18446744073709551616
      have : (n : Int) * (n : Int) ≤ 268435456 * 268435456 := Int.mul_le_mul (by omega) (by omega) (by omega) (by omega)
      have : 0 ≤ (n : Int) * (n : Int) := Int.mul_nonneg (by omega) (by omega)
      omega
    rintro σ' H6 ⟨ot, rfl, rfl⟩
    exact ⟨_, rfl, _, _, rfl, rfl, _, rfl, _, _, rfl, rfl, .inl ⟨by omega, by omega⟩, _, rfl, _, _, rfl, rfl, q _ _ (F2.same s4) (k2.trans (.same s4))⟩
/-- take(pen, many): any number from 0 to many - 1 -/
def spDrw : Sp := fun vs H Q _ => ∃ (f c : Addr) (m : Int) (B : Nat), vs = [.ref f, .int m] ∧ 0 < m ∧ m < 2 ^ 29 ∧ Feed H f c B ∧ B ≤ 2 ^ 28 ∧
  ∀ (d : Int) (H' : Hp), 0 ≤ d → d < m → Feed H' f c (B + 1) → Ke (· = f) H H' → Q (.int d) H'
theorem ok_drw {f fM : Addr} {fd fdM : FuncData} {k : Nat} (F : Fun K "_law_e_take" "_law_e_take" sDrw f fd) (FM : Fun K "_law_e_fresh" "_law_e_fresh" sFre fM fdM) (bM : Binds K fdM ["pen"] []) (gM : mg "_law_e_fresh" = some (.ref fM)) (T : Zp mg) :
    FnOk P w K mg base CX0 (k + 2) f fd ["pen", "many"] spDrw := by
  have GM : FnOk P w K mg base CX0 1 fM fdM ["pen"] spFre := ok_fre FM T
  refine F.ok scDrw (fun vs H Q E h => ?_) (fun cdv A outer s H vs Q E hr h => ?_)
  · obtain ⟨f, c, m, B, rfl, _⟩ := h
    rfl
  · obtain ⟨f, c, m, B, rfl, m0, m1, hF, hB, q⟩ := h
    have hr1 : Room 1 _ := hr.mono (by omega)
    obtain ⟨ns, n, r, h1, h2, h3, h4⟩ := id hF
    have hcf : c ≠ f := feed_ne (a := .non) h1 h2
    have hS : SqL K H f [.ref c, .int n, .int r] := .of h1
    refine ⟨_, (Evl.pss_cut (ps_if (pt_cmpR op_lt (pe_ix ix_list (pv 0) pe_int (fun _ _ => rfl)) (pv 1) (nomark _)) (pss_one (ps_asg (pe_call GM hr1 (by rfl) gM FM.kp bM .nil pass0 (pa_cons (pv 0) pa_nil)) (pg_sub (pv 0) pe_int set_list))) pss_nil)
      (pss_cons (ps_set (i := 2) scDrw.nd rfl (.inl rfl) (pe_op op_mod (pe_ix ix_list (pv 0) pe_int (fun _ _ => rfl)) (pv 1)))
      (pss_cons (ps_asg (pe_op op_fdiv (pe_ix ix_list (pv 0) pe_int (fun _ _ => rfl)) (pv 1)) (pg_sub (pv 0) pe_int set_list))
      (pss_one (ps_ret (pv 2)))))), ?_⟩
    refine Evl.q_cut (M := fun σ' H' => σ' = [some (.ref f), some (.int m), none] ∧ Feed H' f c (B + 1) ∧ Ke (· = f) H H') ?_ ?_
    · refine ⟨.ref f, rfl, f, _, 2, _, rfl, rfl, hS, rfl, .int m, rfl, _, _, rfl, rfl, _, rfl, ite2 (fun e => ?_) (fun e => ?_)⟩
      · refine ⟨_, rfl, f, c, B, rfl, hF, hB, fun r2 H2 F2 k2 => ?_⟩
        obtain ⟨ns2, n2, r3, e1, e2, e3, e4⟩ := id F2
        have hcf2 : c ≠ f := feed_ne (a := .non) e1 e2
        refine ⟨_, rfl, f, _, 2, 2, rfl, rfl, e1, rfl, rfl, ⟨ns2, n2, r2, upd_same, by rw [upd_ne hcf2]; exact e2, e3, e4⟩, k2.trans (.but F2 fun b nb => upd_ne nb)⟩
      · exact ⟨rfl, hF.mono (by omega), .refl _ _⟩
    rintro σ' H' ⟨rfl, F1, k1⟩
    obtain ⟨ns2, n2, r3, e1, e2, e3, e4⟩ := id F1
    have hcf2 : c ≠ f := feed_ne (a := .non) e1 e2
    have hS1 : SqL K H' f [.ref c, .int n2, .int r3] := .of e1
    refine ⟨.ref f, rfl, f, _, 2, _, rfl, rfl, hS1, rfl, .int m, rfl, _, _, rfl, rfl, m0, ?_⟩
    refine ⟨.ref f, rfl, f, _, 2, _, rfl, rfl, hS1, rfl, .int m, rfl, _, _, rfl, rfl, ⟨m0, by omega⟩, .ref f, rfl, f, _, 2, 2, rfl, rfl, e1, rfl, ?_⟩
    exact ⟨_, rfl, q (r3 % m) _ (Int.emod_nonneg _ (by omega)) (Int.emod_lt_of_pos _ m0) ⟨ns2, n2, r3 / m, upd_same, by rw [upd_ne hcf2]; exact e2, e3, e4⟩ (k1.trans (.but F1 fun b nb => upd_ne nb))⟩
end
end Dr
namespace Nw
open PySem PySem.Spec PyProof.Rows L2
theorem prg_cl {X : Cx} {e : Expr} {te : L2.St → Hp → (Int → Int → Hp → Prop) → Prop} (he : PRg X e te) : PRg X e (fun σ H Q => ∃ R : Int → Int → Hp → Prop, (∀ a b H1, R a b H1 → Q a b H1) ∧ te σ H R) := by
  intro pins s σ H Q I ⟨R, i, q⟩
  refine thn (he pins s σ H R I q) fun x s1 ⟨r, a, b, t, u, v, H1, ex, hr, I1, z⟩ => ⟨r, a, b, t, u, v, H1, ex, hr, I1, i a b H1 z⟩
theorem pe_listRgN {X : Cx} {e : Expr} {te : L2.St → Hp → (Int → Int → Hp → Prop) → Prop} {p pos : Pos} (hc : X.calm = true) (hg : Gl X "list") (hm : X.mg "list" = none) (he : PRg X e te) (na : starEach [e] X.env = (false, eval e X.env) :: starEach [] X.env := by rfl) :
    PE X (.Call (.Name "list" p) [e] [] pos) (fun σ H Q => te σ H fun a b H1 => RgOk a b ∧ New H1 (.lst (rgV a b)) Q) :=
  pe_weak (pe_listRg hc hg hm (prg_cl he) na) fun _ _ _ q => ⟨_, fun _ _ _ z => ⟨z.1, z.2.to⟩, q⟩
end Nw
namespace Cl
open PySem PySem.Spec PyProof.Rows L2 GxR Nw Dr Kp
abbrev sClm : Stmt := topS 19
abbrev sBok : Stmt := topS 20
theorem scClm : FnScope ["pen", "most", "wide", "things", "found", "turn", "thing"] ["pen", "most", "wide"] (defScope sClm) := ⟨rfl, rfl, rfl, by decide +kernel, rfl, by decide +kernel, by decide +kernel⟩
theorem scBok : FnScope ["pen", "most", "many", "wide", "found", "turn", "claim"] ["pen", "most"] (defScope sBok) := ⟨rfl, rfl, rfl, by decide +kernel, rfl, by decide +kernel, by decide +kernel⟩
/-- the built-ins that stand as they stood -/
structure Zs (mg : Str → Option Value) : Prop where
  z_len : mg "len" = none
  z_list : mg "list" = none
  z_range : mg "range" = none
  z_min : mg "min" = none
  z_tuple : mg "tuple" = none
  z_sorted : mg "sorted" = none
/-- things: numbers from 1 to 8, none twice -/
structure Thg (ks : List Int) : Prop where
  nd : ks.Nodup
  one : ∀ k ∈ ks, 1 ≤ k ∧ k ≤ 8
  len : ks.length ≤ 8
theorem perm_pop : ∀ {l : List Int} {d : Nat} {y : Int}, l[d]? = some y → (y :: l.eraseIdx d).Perm l
  | [], _, _, h => by simp at h
  | a :: r, 0, y, h => by
    have e : a = y := Option.some.inj h
    subst e
    exact .refl _
  | a :: r, d + 1, y, h => by
    have ih := perm_pop (l := r) (d := d) (y := y) h
    exact (List.Perm.swap a y _).trans (.cons a ih)
theorem erase_len {l : List Int} {d : Nat} (h : d < l.length) : (l.eraseIdx d).length = l.length - 1 := List.length_eraseIdx_of_lt h
theorem erase_map : ∀ (l : List Int) (d : Nat), (l.map V.int).eraseIdx d = (l.eraseIdx d).map V.int
  | [], _ => rfl
  | _ :: _, 0 => rfl
  | a :: r, d + 1 => congrArg (V.int a :: ·) (erase_map r d)
theorem ix_seq {d : Int} {n : Nat} (h0 : 0 ≤ d) (h1 : d < (n : Int)) : seqIndex? d n = some d.toNat := by
  have e : ixN n d = some d.toNat := by
    unfold ixN
    rw [if_pos h0, if_pos h1]
  exact (ixN_seq e).1
theorem abs_nd : ∀ {l : List Int}, (l.map fun s => (s.natAbs : Int)).Nodup → l.Nodup ∧ ∀ k ∈ l, k ≠ 0 → -k ∉ l := fun {l} h => by
  refine ⟨(List.pairwise_map.mp h).imp (fun {a b} z e => z (by rw [e])), fun k hk h0 hn => ?_⟩
  have inj : ∀ a ∈ l, ∀ b ∈ l, (a.natAbs : Int) = b.natAbs → a = b := fun a ha b hb e => by
    obtain ⟨i, hi, ei⟩ := List.getElem_of_mem ha
    obtain ⟨j, hj, ej⟩ := List.getElem_of_mem hb
    have hij : (l.map fun s => (s.natAbs : Int))[i]'(by rw [List.length_map]; exact hi) = (l.map fun s => (s.natAbs : Int))[j]'(by rw [List.length_map]; exact hj) := by
      rw [List.getElem_map, List.getElem_map, ei, ej]
      exact e
    have := (List.getElem_inj h).mp hij
    subst this
    rw [← ei, ← ej]
  have := inj k hk (-k) hn (by omega)
  omega
theorem cl_of {says left ks ns : List Int} (T : Thg ks) (pm : ((says.map fun s => (s.natAbs : Int)) ++ left).Perm ks) (pn : ns.Perm says) (so : ns.Pairwise (· ≤ ·)) : IsCl ns ∧ ∀ s ∈ ns, (s.natAbs : Int) ∈ ks := by
  have nd := (List.nodup_append.mp (pm.nodup_iff.mpr T.nd)).1
  obtain ⟨n1, n2⟩ := abs_nd nd
  have mem : ∀ s ∈ ns, (s.natAbs : Int) ∈ ks := fun s hs => pm.mem_iff.mp (List.mem_append_left _ (List.mem_map.mpr ⟨s, pn.mem_iff.mp hs, rfl⟩))
  have nn : ns.Nodup := pn.nodup_iff.mpr n1
  have bd : ∀ s ∈ ns, s ≠ 0 ∧ -8 ≤ s ∧ s ≤ 8 := fun s hs => by
    have := T.one _ (mem s hs)
    omega
  refine ⟨⟨?_, bd, fun k hk hn => n2 k (pn.mem_iff.mp hk) (bd k hk).1 (pn.mem_iff.mp hn), ?_⟩, mem⟩
  · have := List.Pairwise.and so nn
    exact this.imp fun {a b} h => by
      obtain ⟨h1, h2⟩ := h
      omega
  · have l1 := pn.length_eq
    have l2 := pm.length_eq
    rw [List.length_append, List.length_map] at l2
    have := T.len
    omega
/-- a list of claims as it grows -/
def Ls (H : Hp) (L : Addr) (css : List (List Int)) : Prop := ∃ vs, H L = some (.lst vs) ∧ vs.length = css.length ∧ ∀ (i : Nat) (x : V) (cs : List Int), vs[i]? = some x → css[i]? = some cs → TupI H x cs
theorem ix_append {α β : Type} {R : α → β → Prop} {vs : List α} {ys : List β} {v : α} {y : β} (l : vs.length = ys.length) (h : ∀ (i : Nat) (x : α) (z : β), vs[i]? = some x → ys[i]? = some z → R x z) (r : R v y) :
    ∀ (i : Nat) (x : α) (z : β), (vs ++ [v])[i]? = some x → (ys ++ [y])[i]? = some z → R x z := by
  intro i x z h1 h2
  by_cases hi : i < vs.length
  · rw [List.getElem?_append_left hi] at h1
    rw [List.getElem?_append_left (by omega)] at h2
    exact h i x z h1 h2
  · have e : i = vs.length := by
      have := (List.getElem?_eq_some_iff.mp h1).1
      rw [List.length_append, List.length_singleton] at this
      omega
    subst e
    rw [List.getElem?_append_right (Nat.le_refl _), Nat.sub_self] at h1
    rw [List.getElem?_append_right (by omega), show vs.length - ys.length = 0 by omega] at h2
    cases h1
    cases h2
    exact r

theorem rg_ints (a b : Int) : rgV a b = ((List.range (b - a).toNat).map fun i => a + ((i : Nat) : Int)).map V.int := by
  unfold rgV
  rw [List.map_map]
  rfl
theorem rg_thg {m : Int} (h0 : 0 ≤ m) (h8 : m ≤ 8) : Thg ((List.range (m + 1 - 1).toNat).map fun i => (1 : Int) + ((i : Nat) : Int)) := by
  refine ⟨?_, fun k hk => ?_, ?_⟩
  · refine List.pairwise_map.mpr (List.Pairwise.imp (fun {a b} z e => z ?_) List.nodup_range)
    omega
  · obtain ⟨i, hi, rfl⟩ := List.mem_map.mp hk
    have := List.mem_range.mp hi
    omega
  · rw [List.length_map, List.length_range]
    omega
section
variable {P : Program} {w : World} {K : PySem.W.Frag} {mg : Str → Option Value} {base : Heap} {fD fM : Addr} {fdD fdM : FuncData}
/-- claim(pen, most, wide) -/
def spClm : Sp := fun vs H Q _ => ∃ (f c : Addr) (mo wi : Int) (B : Nat), vs = [.ref f, .int mo, .int wi] ∧ 1 ≤ mo ∧ mo ≤ 8 ∧ 0 ≤ wi ∧ wi ≤ 8 ∧ Feed H f c B ∧ B ≤ 2 ^ 27 ∧
  ∀ (cs : List Int) (p : Addr) (H' : Hp), Feed H' f c (B + 20) → Ke (· = f) H H' → Frs H p → H' p = some (.tup (cs.map V.int)) → IsCl cs → (∀ s ∈ cs, (s.natAbs : Int) ≤ mo) → (cs.length : Int) ≤ wi → Q (.ref p) H'
theorem ok_clm {f : Addr} {fd : FuncData} {k : Nat} (F : Fun K "_law_e_claim" "_law_e_claim" sClm f fd) (T : Zs mg) (FD : Fun K "_law_e_take" "_law_e_take" sDrw fD fdD) (bD : Binds K fdD ["pen", "many"] []) (gD : mg "_law_e_take" = some (.ref fD)) (GD : FnOk P w K mg base CX0 2 fD fdD ["pen", "many"] spDrw) :
    FnOk P w K mg base CX0 (k + 3) f fd ["pen", "most", "wide"] spClm := by
  refine F.ok scClm (fun vs H Q E h => ?_) (fun cdv A outer s H vs Q E hr h => ?_)
  · obtain ⟨f, c, mo, wi, B, rfl, _⟩ := h
    rfl
  · obtain ⟨f, c, mo, wi, B, rfl, m1, m8, w0, w8, hF, hB, q⟩ := h
    have hr2 : Room 2 _ := hr.mono (by omega)
    refine ⟨_, (Evl.pss_cut (ps_set (i := 3) scClm.nd rfl (.inl rfl) (pe_listRgN rfl (by rfl) T.z_list (prg_2 (by rfl) T.z_range pe_int (pe_op op_add (pv 1) pe_int))))
      (pss_cons (ps_set (i := 4) scClm.nd rfl (.inl rfl) (pe_lstN pa_nil))
      (Evl.pss_cut (ps_for PassesOwn.never rfl (pi_range1 (by rfl) T.z_range (pa_cons (pe_callB (call_min2 rfl) (by rfl) T.z_min (by decide +kernel) (pa_cons (pv 1) (pa_cons (pe_call GD hr2 (by rfl) gD FD.kp bD .nil pass0 (pa_cons (pv 0) (pa_cons (pe_op op_add (pv 2) pe_int) pa_nil))) pa_nil))) pa_nil)) (pg_name (i := 5) scClm.nd rfl (.inl rfl)) (pss_cons (ps_set (i := 6) scClm.nd rfl (.inl rfl) (pe_bm PySem.F.plainAttrs_list PySem.F.slot_list_pop PySem.F.type_list_pop mt_popAt (pv 3) (pa_cons (pe_call GD hr2 (by rfl) gD FD.kp bD .nil pass0 (pa_cons (pv 0) (pa_cons (pe_callB call_len_seq (by rfl) T.z_len (by decide +kernel) (pa_cons (pv 3) pa_nil)) pa_nil))) pa_nil)))
      (pss_one (ps_expr (pe_bm PySem.F.plainAttrs_list PySem.F.slot_list_append PySem.F.type_list_append mt_append (pv 4) (pa_cons (pe_ix ix_list (pe_lstN (pa_cons (pv 6) (pa_cons (pe_op op_sub pe_int (pv 6)) pa_nil))) (pe_call GD hr2 (by rfl) gD FD.kp bD .nil pass0 (pa_cons (pv 0) (pa_cons pe_int pa_nil))) (fun _ _ => rfl)) pa_nil))))))
      (pss_one (ps_ret (pe_callTy call_tuple_ofN (by rfl) T.z_tuple (by decide +kernel) (pa_cons (pe_callB cr_sortedN (by rfl) T.z_sorted (by decide +kernel) (pa_cons (pv 4) pa_nil)) pa_nil))))))), ?_⟩
    have Tk := rg_thg (by omega : 0 ≤ mo) m8
    have mk : ∀ k ∈ ((List.range (mo + 1 - 1).toNat).map fun i => (1 : Int) + ((i : Nat) : Int)), k ≤ mo := fun k hk => by
      obtain ⟨i, hi, rfl⟩ := List.mem_map.mp hk
      have := List.mem_range.mp hi
      omega
    have lk : (((List.range (mo + 1 - 1).toNat).map fun i => (1 : Int) + ((i : Nat) : Int)).length : Int) = mo := by
      rw [List.length_map, List.length_range]
      omega
    have rg := rg_ints 1 (mo + 1)
    generalize ((List.range (mo + 1 - 1).toNat).map fun i => (1 : Int) + ((i : Nat) : Int)) = ks at Tk mk lk rg
    -- things
    refine Evl.q_cut (M := fun σ' H' => ∃ L, σ' = [some (.ref f), some (.int mo), some (.int wi), some (.ref L), none, none, none] ∧ H L = none ∧ Same H H' ∧ H' L = some (.lst (ks.map V.int))) ?_ ?_
    · exact ⟨_, rfl, _, _, rfl, rfl, 1, mo + 1, rfl, rfl, .of_le (by omega) (by omega) (by omega) (by omega), fun L H1 nL s1 hL _ => ⟨L, rfl, nL, s1, rg ▸ hL⟩⟩
    rintro σ' H1 ⟨L, rfl, nL, s1, hL⟩
    refine ⟨Nat.zero_le _, fun S H2 nS s2 hS _ => ?_⟩
    have F2 : Feed H2 f c B := hF.same (s1.trans s2)
    have nLf : L ≠ f := hF.nf nL
    have nLc : L ≠ c := hF.nc nL
    have nSL : S ≠ L := Ne.symm (ne_of_none hL nS)
    have nSf : S ≠ f := (hF.same s1).nf nS
    have nSc : S ≠ c := (hF.same s1).nc nS
    have frL : Frs H L := .of nL
    have frS : Frs H S := .of (s1.free nS)
    have hL2 : H2 L = some (.lst (ks.map V.int)) := s2 _ _ hL
    -- the loop
    refine Evl.q_cut (M := fun σ' H' => ∃ (y5 y6 : Option V) (left says : List Int), σ' = [some (.ref f), some (.int mo), some (.int wi), some (.ref L), some (.ref S), y5, y6] ∧ Feed H' f c (B + 20) ∧ Ke (· = f) H H' ∧ H' S = some (.lst (says.map V.int)) ∧ (says.length : Int) ≤ wi ∧ ((says.map fun s => (s.natAbs : Int)) ++ left).Perm ks) ?_ ?_
    · refine ⟨_, rfl, _, rfl, _, rfl, _, _, rfl, rfl, f, c, _, B, rfl, by omega, by omega, F2, by omega, fun d H3 d0 d1 F3 b3 => ?_⟩
      refine ⟨_, _, rfl, ?_⟩
      generalize hn : (if d < mo then d else mo) = n
      have n0 : 0 ≤ n ∧ n ≤ wi ∧ n ≤ mo := by
        split at hn <;> omega
      have tl := Tk.len
      have hL3 : H3 L = some (.lst (ks.map V.int)) := b3.lst hL2 nLf
      have hS3 : H3 S = some (.lst (([] : List Int).map V.int)) := b3.lst hS nSf
      have k3 : Ke (· = f) H H3 := (Ke.same (s1.trans s2)).trans b3
      refine ⟨n, rfl, by omega, by omega, for_range (Pv := fun i σ H' => ∃ (y5 y6 : Option V) (left says : List Int), σ = [some (.ref f), some (.int mo), some (.int wi), some (.ref L), some (.ref S), y5, y6] ∧ Feed H' f c (B + 1 + 2 * i) ∧ Ke (· = f) H H' ∧ H' L = some (.lst (left.map V.int)) ∧ H' S = some (.lst (says.map V.int)) ∧
        left.length = ks.length - i ∧ says.length = i ∧ ((says.map fun s => (s.natAbs : Int)) ++ left).Perm ks) ?_ ?_ ?_⟩
      · exact ⟨none, none, ks, [], rfl, F3, k3, hL3, hS3, rfl, rfl, .refl _⟩
      · rintro i σ H' hi ⟨y5, y6, left, says, rfl, F4, k4, hL4, hS4, ll, ls, pm⟩
        have hi : i < n.toNat := hi
        refine ⟨_, rfl, .inl ⟨rfl, _, .of hL4⟩, _, rfl, _, rfl, L, _, rfl, .inl (.of hL4), f, c, _, B + 1 + 2 * i, rfl, ?_, ?_, F4, by omega, fun d H5 d0 d1 F5 b5 => ?_⟩
        · rw [List.length_map]
          omega
        · rw [List.length_map]
          omega
        rw [List.length_map] at d1
        have dl : d.toNat < left.length := by omega
        have hL5 : H5 L = some (.lst (left.map V.int)) := b5.lst hL4 nLf
        have hS5 : H5 S = some (.lst (says.map V.int)) := b5.lst hS4 nSf
        have k5 : Ke (· = f) H H5 := k4.trans b5
        refine ⟨L, _, d, d.toNat, .int left[d.toNat], rfl, rfl, hL5, by omega, by omega, by rw [List.length_map]; exact ix_seq d0 d1, by rw [List.getElem?_map, List.getElem?_eq_getElem dl]; rfl, ?_⟩
        have pp := perm_pop (List.getElem?_eq_getElem dl)
        have y1 := Tk.one left[d.toNat] (pm.mem_iff.mp (List.mem_append_right _ (List.getElem_mem dl)))
        generalize left[d.toNat] = y at pp y1
        have F6 : Feed (upd H5 L (.lst ((left.map V.int).eraseIdx d.toNat))) f c (B + 1 + 2 * i + 1) := F5.upd nLf nLc
        have k6 : Ke (· = f) H (upd H5 L (.lst ((left.map V.int).eraseIdx d.toNat))) := k5.write frL hL5
        have hL6 : (upd H5 L (.lst ((left.map V.int).eraseIdx d.toNat))) L = some (.lst ((left.eraseIdx d.toNat).map V.int)) := by rw [upd_same, erase_map]
        have hS6 : (upd H5 L (.lst ((left.map V.int).eraseIdx d.toNat))) S = some (.lst (says.map V.int)) := by rw [upd_ne nSL]; exact hS5
        generalize (upd H5 L (.lst ((left.map V.int).eraseIdx d.toNat))) = H6 at F6 k6 hL6 hS6 ⊢
        -- found.append([thing, 0 - thing][..])
        refine ⟨_, rfl, .inl ⟨rfl, _, .of hS6⟩, _, rfl, _, rfl, _, _, rfl, rfl, by show 2 ≤ sizeLine; decide, fun p H7 np s7 hp _ => ?_⟩
        refine ⟨_, rfl, f, c, 2, B + 1 + 2 * i + 1, rfl, by decide, by decide, F6.same s7, by omega, fun e H8 e0 e1 F8 b8 => ?_⟩
        have npf : p ≠ f := F6.nf np
        have hp8 := b8.lst hp npf
        have hS8 : H8 S = some (.lst (says.map V.int)) := b8.lst (s7 _ _ hS6) nSf
        have hL8 : H8 L = some (.lst ((left.eraseIdx d.toNat).map V.int)) := b8.lst (s7 _ _ hL6) nLf
        have k8 : Ke (· = f) H H8 := (k6.trans (.same s7)).trans b8
        have two : e = 0 ∨ e = 1 := by omega
        have go : ∀ z : Int, (z.natAbs : Int) = y → ((says ++ [z]).map (fun s => (s.natAbs : Int)) ++ left.eraseIdx d.toNat).Perm ks := fun z hz => by
          refine List.Perm.trans ?_ pm
          rw [List.map_append, List.append_assoc, List.map_singleton, hz]
          exact (List.Perm.refl _).append pp
        rcases two with rfl | rfl
        · refine ⟨p, _, 0, .int y, rfl, rfl, .of hp8, rfl, S, _, _, rfl, rfl, hS8, by rw [List.length_map]; exact small1000 (by omega), ?_⟩
          refine ⟨_, _, left.eraseIdx d.toNat, says ++ [y], rfl, (F8.upd nSf nSc).mono (by omega), k8.write frS hS8, by rw [upd_ne (Ne.symm nSL)]; exact hL8, by rw [upd_same, List.map_append]; rfl, by rw [erase_len dl]; omega, by rw [List.length_append, ls]; rfl, go y (by omega)⟩
        · refine ⟨p, _, 1, .int (0 - y), rfl, rfl, .of hp8, rfl, S, _, _, rfl, rfl, hS8, by rw [List.length_map]; exact small1000 (by omega), ?_⟩
          refine ⟨_, _, left.eraseIdx d.toNat, says ++ [0 - y], rfl, (F8.upd nSf nSc).mono (by omega), k8.write frS hS8, by rw [upd_ne (Ne.symm nSL)]; exact hL8, by rw [upd_same, List.map_append]; rfl, by rw [erase_len dl]; omega, by rw [List.length_append, ls]; rfl, go (0 - y) (by omega)⟩
      · rintro σ H' ⟨y5, y6, left, says, rfl, F4, k4, hL4, hS4, ll, ls, pm⟩
        exact ⟨y5, y6, left, says, rfl, F4.mono (by omega), k4, hS4, by omega, pm⟩
    rintro σ' H3 ⟨y5, y6, left, says, rfl, F3, k3, hS3, ls, pm⟩
    refine ⟨_, rfl, S, says, rfl, .of hS3, fun ns pn so p H4 np s4 hp _ => ?_⟩
    refine ⟨p, _, rfl, .of hp, fun p2 H5 np2 s5 hp2 _ => ?_⟩
    obtain ⟨h1, h2⟩ := cl_of Tk pm pn so
    refine q ns p2 H5 (F3.same (s4.trans s5)) (k3.trans (.same (s4.trans s5))) (.ke k3 F3 (.of (s4.free np2))) hp2 h1 (fun s hs => mk _ (h2 s hs)) ?_
    rw [pn.length_eq]
    exact ls
/-- the claim cs is of the things 1 to m -/
def Of (m : Int) (cs : List Int) : Prop := IsCl cs ∧ ∀ s ∈ cs, (s.natAbs : Int) ≤ m
theorem of_one {m k0 : Int} (h1 : 1 ≤ k0) (h2 : k0 ≤ m) (h8 : m ≤ 8) : Of m [k0] := by
  refine ⟨⟨.cons (fun _ h => (nomatch h)) .nil, fun k hk => ?_, fun k hk hn => ?_, by show 1 ≤ 8; decide⟩, fun s hs => ?_⟩
  · rw [List.mem_singleton.mp hk]
    omega
  · rw [List.mem_singleton.mp hk] at hn
    have := List.mem_singleton.mp hn
    omega
  · rw [List.mem_singleton.mp hs]
    omega
/-- book(pen, most) -/
def spBok : Sp := fun vs H Q _ => ∃ (f c : Addr) (m : Int) (B : Nat), vs = [.ref f, .int m] ∧ 1 ≤ m ∧ m ≤ 8 ∧ Feed H f c B ∧ B ≤ 2 ^ 26 ∧
  ∀ (css : List (List Int)) (p : Addr) (H' : Hp), Feed H' f c (B + 500) → Ke (· = f) H H' → Frs H p → Bk H' (.ref p) css → (∀ cs ∈ css, Of m cs) → 1 ≤ css.length → css.length ≤ 16 → Q (.ref p) H'
theorem ok_bok {f fC : Addr} {fd fdC : FuncData} {k : Nat} (F : Fun K "_law_e_book" "_law_e_book" sBok f fd) (T : Zs mg) (FD : Fun K "_law_e_take" "_law_e_take" sDrw fD fdD) (bD : Binds K fdD ["pen", "many"] []) (gD : mg "_law_e_take" = some (.ref fD)) (GD : FnOk P w K mg base CX0 2 fD fdD ["pen", "many"] spDrw)
    (FC : Fun K "_law_e_claim" "_law_e_claim" sClm fC fdC) (bC : Binds K fdC ["pen", "most", "wide"] []) (gC : mg "_law_e_claim" = some (.ref fC)) (GC : FnOk P w K mg base CX0 3 fC fdC ["pen", "most", "wide"] spClm) :
    FnOk P w K mg base CX0 (k + 4) f fd ["pen", "most"] spBok := by
  refine F.ok scBok (fun vs H Q E h => ?_) (fun cdv A outer s H vs Q E hr h => ?_)
  · obtain ⟨f, c, m, B, rfl, _⟩ := h
    rfl
  · obtain ⟨f, c, m, B, rfl, m0, m8, hF, hB, q⟩ := h
    have hr2 : Room 2 _ := hr.mono (by omega)
    have hr3 : Room 3 _ := hr.mono (by omega)
    refine ⟨_, (Evl.pss_cut (ps_set (i := 2) scBok.nd rfl (.inl rfl) (pe_ix ix_list (pe_lstN (pa_cons pe_int (pa_cons pe_int (pa_cons pe_int (pa_cons pe_int pa_nil))))) (pe_call GD hr2 (by rfl) gD FD.kp bD .nil pass0 (pa_cons (pv 0) (pa_cons pe_int pa_nil))) (fun _ _ => rfl)))
      (Evl.pss_cut (ps_set (i := 3) scBok.nd rfl (.inl rfl) (pe_ix ix_list (pe_lstN (pa_cons pe_int (pa_cons pe_int (pa_cons pe_int (pa_cons pe_int (pa_cons pe_int pa_nil)))))) (pe_call GD hr2 (by rfl) gD FD.kp bD .nil pass0 (pa_cons (pv 0) (pa_cons pe_int pa_nil))) (fun _ _ => rfl)))
      (pss_cons (ps_set (i := 4) scBok.nd rfl (.inl rfl) (pe_lstN pa_nil))
      (Evl.pss_cut (ps_for PassesOwn.never rfl (pi_range1 (by rfl) T.z_range (pa_cons (pe_op op_add pe_int (pe_call GD hr2 (by rfl) gD FD.kp bD .nil pass0 (pa_cons (pv 0) (pa_cons (pv 2) pa_nil)))) pa_nil)) (pg_name (i := 5) scBok.nd rfl (.inl rfl)) (Evl.pss_cut (ps_set (i := 6) scBok.nd rfl (.inl rfl) (pe_call GC hr3 (by rfl) gC FC.kp bC .nil pass0 (pa_cons (pv 0) (pa_cons (pv 1) (pa_cons (pv 3) pa_nil)))))
      (Evl.pss_cut (ps_if (PW.pt (pw_and (pt_cmpR (op_eqD hr.units) (pv 6) (pe_tupN pa_nil) (nomark _)) (pw_and1 (pt_cmpR op_gt (pe_call GD hr2 (by rfl) gD FD.kp bD .nil pass0 (pa_cons (pv 0) (pa_cons pe_int pa_nil))) pe_int (nomark _))))) (pss_one (ps_set (i := 6) scBok.nd rfl (.inl rfl) (pe_tupN (pa_cons (pe_op op_add pe_int (pe_call GD hr2 (by rfl) gD FD.kp bD .nil pass0 (pa_cons (pv 0) (pa_cons (pv 1) pa_nil)))) pa_nil)))) pss_nil)
      (pss_one (ps_expr (pe_bm PySem.F.plainAttrs_list PySem.F.slot_list_append PySem.F.type_list_append mt_append (pv 4) (pa_cons (pv 6) pa_nil)))))))
      (pss_one (ps_ret (pe_callTy call_tuple_ofN (by rfl) T.z_tuple (by decide +kernel) (pa_cons (pv 4) pa_nil)))))))), ?_⟩
    -- many
    refine Evl.q_cut (M := fun σ' H' => ∃ ma : Int, σ' = [some (.ref f), some (.int m), some (.int ma), none, none, none, none] ∧ 1 ≤ ma ∧ ma ≤ 16 ∧ Feed H' f c (B + 1) ∧ Ke (· = f) H H') ?_ ?_
    · refine ⟨by show 4 ≤ sizeLine; decide, fun p4 H4 np4 s4 hp4 _ => ⟨_, rfl, f, c, 4, _, rfl, by decide, by decide, hF.same s4, by omega, fun e H5 e0 e1 F5 b5 => ?_⟩⟩
      have pk : ∃ mm : Int, 1 ≤ mm ∧ mm ≤ 16 ∧ atI [V.int 4, V.int 8, V.int 12, V.int 16] e = some (.int mm) := by
        have four : e = 0 ∨ e = 1 ∨ e = 2 ∨ e = 3 := by omega
        rcases four with rfl | rfl | rfl | rfl <;> exact ⟨_, by decide, by decide, rfl⟩
      obtain ⟨mm, mm0, mm1, ha⟩ := pk
      exact ⟨p4, _, e, .int mm, rfl, rfl, .of (b5.lst hp4 (hF.nf np4)), ha, mm, rfl, mm0, mm1, F5, (Ke.same s4).trans b5⟩
    rintro σ' H1 ⟨ma, rfl, ma1, ma16, F1, k1⟩
    -- wide
    refine Evl.q_cut (M := fun σ' H' => ∃ wi : Int, σ' = [some (.ref f), some (.int m), some (.int ma), some (.int wi), none, none, none] ∧ 0 ≤ wi ∧ wi ≤ 8 ∧ Feed H' f c (B + 2) ∧ Ke (· = f) H H') ?_ ?_
    · refine ⟨by show 5 ≤ sizeLine; decide, fun p4 H4 np4 s4 hp4 _ => ⟨_, rfl, f, c, 5, _, rfl, by decide, by decide, F1.same s4, by omega, fun e H5 e0 e1 F5 b5 => ?_⟩⟩
      have pk : ∃ mm : Int, 0 ≤ mm ∧ mm ≤ 8 ∧ atI [V.int 2, V.int 3, V.int 3, V.int 4, V.int 8] e = some (.int mm) := by
        have four : e = 0 ∨ e = 1 ∨ e = 2 ∨ e = 3 ∨ e = 4 := by omega
        rcases four with rfl | rfl | rfl | rfl | rfl <;> exact ⟨_, by decide, by decide, rfl⟩
      obtain ⟨mm, mm0, mm1, ha⟩ := pk
      exact ⟨p4, _, e, .int mm, rfl, rfl, .of (b5.lst hp4 (F1.nf np4)), ha, mm, rfl, mm0, mm1, F5, k1.trans ((Ke.same s4).trans b5)⟩
    rintro σ' H2 ⟨wi, rfl, wi0, wi8, F2, k2⟩
    refine ⟨Nat.zero_le _, fun L H1 nL s1 hL _ => ?_⟩
    have nLf : L ≠ f := F2.nf nL
    have nLc : L ≠ c := F2.nc nL
    have frL : Frs H L := .ke k2 F2 (.of nL)
    have frL2 : Frs H2 L := .of nL
    refine Evl.q_cut (M := fun σ' H' => ∃ (y4 y5 : Option V) (css : List (List Int)), σ' = [some (.ref f), some (.int m), some (.int ma), some (.int wi), some (.ref L), y4, y5] ∧ Feed H' f c (B + 500) ∧ Ke (· = f) H2 H' ∧ Ls H' L css ∧ (∀ cs ∈ css, Of m cs) ∧ 1 ≤ css.length ∧ css.length ≤ 16) ?_ ?_
    · have F1 : Feed H1 f c (B + 2) := F2.same s1
      refine ⟨_, rfl, _, rfl, f, c, _, B + 2, rfl, by omega, by omega, F1, by omega, fun d H2' d0 d1 F2' b2 => ?_⟩
      refine ⟨_, _, rfl, rfl, 1 + d, rfl, by omega, by omega, for_range (Pv := fun i σ H' => ∃ (y4 y5 : Option V) (css : List (List Int)), σ = [some (.ref f), some (.int m), some (.int ma), some (.int wi), some (.ref L), y4, y5] ∧ Feed H' f c (B + 3 + 30 * i) ∧ Ke (· = f) H2 H' ∧ Ls H' L css ∧ (∀ cs ∈ css, Of m cs) ∧ css.length = i) ?_ ?_ ?_⟩
      · exact ⟨none, none, [], rfl, F2', (Ke.same s1).trans b2, ⟨[], b2.lst hL nLf, rfl, fun i x cs h => by simp at h⟩, fun cs h => (nomatch h), rfl⟩
      · rintro i σ H3 hi ⟨y4, y5, css, rfl, F3, k3, ⟨vs, hL3, lv, hv⟩, oc, lc⟩
        have hi : i < (1 + d).toNat := hi
        refine Evl.q_cut (M := fun σ' H' => ∃ (p : Addr) (cs : List Int), σ' = [some (.ref f), some (.int m), some (.int ma), some (.int wi), some (.ref L), some (.int (0 + (i : Int))), some (.ref p)] ∧ Feed H' f c (B + 3 + 30 * i + 21) ∧ Ke (· = f) H3 H' ∧ H' p = some (.tup (cs.map V.int)) ∧ Of m cs) ?_ ?_
        · refine ⟨_, rfl, _, rfl, _, rfl, f, c, m, wi, _, rfl, m0, m8, wi0, wi8, F3, by omega, fun cs p H6 F6 k6 _ hp h1 h2 _ => ?_⟩
          exact ⟨p, cs, rfl, F6.mono (by omega), k6, hp, h1, h2⟩
        rintro σ' H4 ⟨p, cs, rfl, F4, k4, hp, hc⟩
        -- if claim == () and ..
        refine Evl.q_cut (M := fun σ' H' => ∃ (p : Addr) (cs : List Int), σ' = [some (.ref f), some (.int m), some (.int ma), some (.int wi), some (.ref L), some (.int (0 + (i : Int))), some (.ref p)] ∧ Feed H' f c (B + 3 + 30 * i + 23) ∧ Ke (· = f) H3 H' ∧ H' p = some (.tup (cs.map V.int)) ∧ Of m cs) ?_ ?_
        · refine ⟨_, rfl, Nat.zero_le _, fun p5 H5 np5 s5 hp5 _ => ?_⟩
          have F5 := F4.same s5
          have k5 : Ke (· = f) H3 H5 := k4.trans (.same s5)
          refine ⟨_, _, .tup (.of (s5 _ _ hp)) (dp_ints cs), .tup (.of hp5) .nil, shaped_tuple (flat_ints _), shaped_tuple rfl, _, rfl, ite2 (fun e => ?_) (fun e => ?_)⟩
          · refine ⟨_, rfl, f, c, 8, _, rfl, by decide, by decide, F5, by omega, fun g H6 g0 g1 F6 b6 => ?_⟩
            have k6 : Ke (· = f) H3 H6 := k5.trans b6
            refine ⟨_, _, rfl, rfl, _, rfl, ite2 (fun e => ?_) (fun e => ?_)⟩
            · refine ⟨_, rfl, _, rfl, f, c, m, _, rfl, by omega, by omega, F6, by omega, fun g H7 g0 g1 F7 b7 => ?_⟩
              refine ⟨_, _, rfl, rfl, by show 1 ≤ sizeLine; decide, fun p8 H8 np8 s8 hp8 _ => ?_⟩
              exact ⟨p8, [1 + g], rfl, (F7.same s8).mono (by omega), (k6.trans b7).trans (.same s8), hp8, of_one (by omega) (by omega) m8⟩
            · exact ⟨p, cs, rfl, F6.mono (by omega), k6, b6.tups _ _ (s5 _ _ hp), hc⟩
          · exact ⟨p, cs, rfl, F5.mono (by omega), k5, s5 _ _ hp, hc⟩
        rintro σ' H5 ⟨p, cs, rfl, F5, k5, hp, hc⟩
        -- found.append(claim)
        have hL5 : H5 L = some (.lst vs) := k5.lst hL3 nLf
        refine ⟨_, rfl, .inl ⟨rfl, _, .of hL5⟩, _, rfl, L, _, _, rfl, rfl, hL5, small1000 (by omega), ?_⟩
        have k6 : Ke (· = f) H2 (upd H5 L (.lst (vs ++ [.ref p]))) := (k3.trans k5).write frL2 hL5
        have tp : ∀ {x : V} {ds : List Int}, TupI H5 x ds → TupI (upd H5 L (.lst (vs ++ [.ref p]))) x ds := fun {x ds} ⟨a, e, h⟩ => ⟨a, e, by
          have n : a ≠ L := fun z => by
            rw [z, hL5] at h
            cases h
          rw [upd_ne n]
          exact h⟩
        refine ⟨_, _, css ++ [cs], rfl, (F5.upd nLf nLc).mono (by omega), k6, ⟨vs ++ [.ref p], upd_same, by rw [List.length_append, List.length_append, lv]; rfl, ix_append lv (fun i x ds h1 h2 => tp ((hv i x ds h1 h2).ke k5)) (tp ⟨p, rfl, hp⟩)⟩, fun ds hd => ?_, by rw [List.length_append, lc]; rfl⟩
        rcases List.mem_append.mp hd with z | z
        · exact oc ds z
        · rw [List.mem_singleton.mp z]
          exact hc
      · rintro σ H3 ⟨y4, y5, css, rfl, F3, k3, ls, oc, lc⟩
        have lc' : css.length = (1 + d).toNat := lc
        exact ⟨y4, y5, css, rfl, F3.mono (by omega), k3, ls, oc, by omega, by omega⟩
    rintro σ' H3 ⟨y4, y5, css, rfl, F3, k3, ⟨vs, hL2, lv, hv⟩, oc, l1, l2⟩
    refine ⟨_, rfl, L, vs, rfl, .of hL2, fun p H4 np s4 hp _ => ?_⟩
    have k4 : Ke (· = f) H3 H4 := .same s4
    exact q css p H4 (F3.same s4) (k2.trans (k3.trans k4)) (.ke k2 F2 (.ke k3 F3 (.of np))) ⟨p, vs, rfl, hp, lv, fun i x cs h1 h2 => (hv i x cs h1 h2).ke k4⟩ oc l1 l2
end
end Cl
namespace Fo
open PySem PySem.Spec PyProof.Rows L2 GxR Nw Dr Kp
/-! ### what held says force: falls and stands do not hang on the order of the steps -/
theorem in_ints (k : Int) : ∀ cs : List Int, inV (.int k) (cs.map V.int) = true ↔ k ∈ cs
  | [] => by
    constructor
    · intro h
      cases h
    · intro h
      cases h
  | c :: r => by
    have ih := in_ints k r
    show (eqV (.int c) (.int k) || inV (.int k) (r.map V.int)) = true ↔ _
    rw [Bool.or_eq_true, ih, List.mem_cons]
    have e : eqV (.int c) (.int k) = true ↔ k = c := by
      show (c == k) = true ↔ k = c
      rw [beq_iff_eq]
      exact eq_comm
    rw [e]
/-- what is left of a claim where these are held -/
def left (cs held : List Int) : List Int := cs.filter fun s => !inV (.int (-s)) (held.map V.int)
theorem mem_left {cs held : List Int} {x : Int} : x ∈ left cs held ↔ x ∈ cs ∧ -x ∉ held := by
  unfold left
  rw [List.mem_filter, Bool.not_eq_true', Bool.eq_false_iff]
  exact ⟨fun ⟨a, b⟩ => ⟨a, fun z => b ((in_ints _ _).mpr z)⟩, fun ⟨a, b⟩ => ⟨a, fun z => b ((in_ints _ _).mp z)⟩⟩
theorem left_nil {cs held : List Int} : left cs held = [] ↔ ∀ y ∈ cs, -y ∈ held := by
  constructor
  · intro h y hy
    exact Classical.byContradiction fun z => by
      have := mem_left.mpr ⟨hy, z⟩
      rw [h] at this
      exact nomatch this
  · intro h
    exact List.eq_nil_iff_forall_not_mem.mpr fun x hx => (mem_left.mp hx).2 (h x (mem_left.mp hx).1)
/-- says: none twice, from -8 to 8 -/
structure Sy (cs : List Int) : Prop where
  nd : cs.Nodup
  bd : ∀ s ∈ cs, -8 ≤ s ∧ s ≤ 8
theorem sub_len : ∀ {xs L : List Int}, xs.Nodup → (∀ x ∈ xs, x ∈ L) → xs.length ≤ L.length
  | [], _, _, _ => Nat.zero_le _
  | x :: r, L, nd, h => by
    obtain ⟨n1, n2⟩ := List.nodup_cons.mp nd
    have m := h x List.mem_cons_self
    have ih := sub_len (xs := r) (L := L.erase x) n2 fun y hy => (List.mem_erase_of_ne fun e => n1 (by rw [← e]; exact hy)).mpr (h y (List.mem_cons_of_mem _ hy))
    rw [List.length_erase_of_mem m] at ih
    have := List.length_pos_of_mem m
    rw [List.length_cons]
    omega
theorem Sy.len {cs : List Int} (h : Sy cs) : cs.length ≤ 17 := by
  have := sub_len (L := (List.range 17).map fun i => ((i : Nat) : Int) - 8) h.nd fun x hx => List.mem_map.mpr ⟨(x + 8).toNat, List.mem_range.mpr (by have := h.bd x hx; omega), by have := h.bd x hx; omega⟩
  rw [List.length_map, List.length_range] at this
  exact this
theorem Sy.of {cs : List Int} (h : IsCl cs) : Sy cs := ⟨h.up.imp fun {a b} z => by omega, fun s hs => (h.says s hs).2⟩
/-- the claim forces x -/
def Forces (cs held : List Int) (x : Int) : Prop := left cs held = [x] ∧ x ∉ held
inductive Der (css : List (List Int)) (says : List Int) : Int → Prop where
  | base {s : Int} : s ∈ says → Der css says s
  | step {cs : List Int} {x : Int} : cs ∈ css → x ∈ cs → (∀ y ∈ cs, y ≠ x → Der css says (-y)) → Der css says x
def Fall (css : List (List Int)) (says : List Int) : Prop := ∃ cs ∈ css, ∀ y ∈ cs, Der css says (-y)
def Stand (css : List (List Int)) (held : List Int) : Prop := ∀ cs ∈ css, left cs held ≠ [] ∧ ∀ x, ¬ Forces cs held x
variable {css : List (List Int)} {says held cs : List Int} {x : Int}
theorem Forces.mem (h : Forces cs held x) : x ∈ cs := (mem_left.mp (by rw [h.1]; exact List.mem_singleton.mpr rfl : x ∈ left cs held)).1
theorem der_of (d : ∀ y ∈ held, Der css says y) (hc : cs ∈ css) (h : Forces cs held x) : Der css says x :=
  .step hc h.mem fun y hy ne => d _ (Classical.byContradiction fun z => ne (by
    have := mem_left.mpr ⟨hy, z⟩
    rw [h.1] at this
    exact List.mem_singleton.mp this))
theorem fall_of (d : ∀ y ∈ held, Der css says y) (hc : cs ∈ css) (h : left cs held = []) : Fall css says := ⟨cs, hc, fun y hy => d _ (left_nil.mp h y hy)⟩
theorem one_of : ∀ {l : List Int} {x : Int}, l.Nodup → (∀ y ∈ l, y = x) → l ≠ [] → l = [x]
  | [], _, _, _, h => absurd rfl h
  | [a], x, _, h, _ => by rw [h a List.mem_cons_self]
  | a :: b :: r, x, nd, h, _ => by
    have e1 := h a List.mem_cons_self
    have e2 := h b (List.mem_cons_of_mem _ List.mem_cons_self)
    exact absurd (e1.trans e2.symm) (List.nodup_cons.mp nd |>.1 |> fun n e => n (e ▸ List.mem_cons_self))
theorem Stand.der (S : Stand css held) (nd : ∀ cs ∈ css, cs.Nodup) (b : ∀ s ∈ says, s ∈ held) {x : Int} (d : Der css says x) : x ∈ held := by
  induction d with
  | base h => exact b _ h
  | @step cs x hc hx _ ih =>
    obtain ⟨s1, s2⟩ := S cs hc
    have e := one_of (l := left cs held) (x := x) ((nd cs hc).filter _) (fun y hy => Classical.byContradiction fun z => (mem_left.mp hy).2 (ih y (mem_left.mp hy).1 z)) s1
    exact Classical.byContradiction fun z => s2 x ⟨e, z⟩
theorem Stand.no (S : Stand css held) (nd : ∀ cs ∈ css, cs.Nodup) (b : ∀ s ∈ says, s ∈ held) : ¬ Fall css says := fun ⟨cs, hc, h⟩ => (S cs hc).1 (left_nil.mpr fun y hy => S.der nd b (h y hy))
/-- steps, one behind the other -/
def StepsOk (css : List (List Int)) (says : List Int) (steps : List (Nat × Int)) : Prop := ∀ (i : Nat) (s : Nat × Int), steps[i]? = some s → ∃ cs, css[s.1]? = some cs ∧ Forces cs (says ++ (steps.take i).map (·.2)) s.2
theorem StepsOk.nil : StepsOk css says [] := fun i s h => by simp at h
theorem StepsOk.snoc {steps : List (Nat × Int)} {n : Nat} (h : StepsOk css says steps) (hc : css[n]? = some cs) (f : Forces cs (says ++ steps.map (·.2)) x) : StepsOk css says (steps ++ [(n, x)]) := by
  intro i s hs
  by_cases hi : i < steps.length
  · rw [List.getElem?_append_left hi] at hs
    rw [List.take_append_of_le_length (Nat.le_of_lt hi)]
    exact h i s hs
  · have e : i = steps.length := by
      have := (List.getElem?_eq_some_iff.mp hs).1
      rw [List.length_append, List.length_singleton] at this
      omega
    subst e
    rw [List.getElem?_append_right (Nat.le_refl _), Nat.sub_self] at hs
    cases hs
    rw [List.take_append_of_le_length (Nat.le_refl _), List.take_length]
    exact ⟨cs, hc, f⟩
theorem StepsOk.der {steps : List (Nat × Int)} (h : StepsOk css says steps) : ∀ n, ∀ y ∈ says ++ (steps.take n).map (·.2), Der css says y
  | 0, y, hy => .base (by simpa using hy)
  | n + 1, y, hy => by
    have ih := StepsOk.der h n
    cases e : steps[n]? with
    | none =>
      rw [List.take_add_one, e] at hy
      exact ih y (by simpa using hy)
    | some s =>
      rw [List.take_add_one, e, List.map_append, ← List.append_assoc] at hy
      rcases List.mem_append.mp hy with z | z
      · exact ih y z
      · obtain ⟨cs, hc, f⟩ := h n s e
        have : y = s.2 := by simpa using z
        rw [this]
        exact der_of ih (List.mem_of_getElem? hc) f
theorem StepsOk.all {steps : List (Nat × Int)} (h : StepsOk css says steps) : ∀ y ∈ says ++ steps.map (·.2), Der css says y := by
  have := h.der steps.length
  rw [List.take_length] at this
  exact this
theorem sy_snoc (h : Sy held) (hc : Sy cs) (f : Forces cs held x) : Sy (held ++ [x]) := by
  refine ⟨List.nodup_append.mpr ⟨h.nd, by simp, fun a ha b hb e => f.2 (by rw [← List.mem_singleton.mp hb, ← e]; exact ha)⟩, fun s hs => ?_⟩
  rcases List.mem_append.mp hs with z | z
  · exact h.bd s z
  · rw [List.mem_singleton.mp z]
    exact hc.bd x f.mem
end Fo
namespace Se
open PySem PySem.Spec PyProof.Rows L2 GxR Nw Dr Kp
/-- a def of the text whose code object stands at c -/
structure FunC (K : PySem.W.Frag) (x qual : Str) (st : Stmt) (f c : Addr) (fd : FuncData) : Prop where
  ex : ∃ (oc : Value) (od : Option Addr) (kV doc pm : Value) (an : Option Addr) (ct : Value) (osl : Array (Option Value)), fd = PySem.W.fnOf x qual (defArgs st) (defBody st) (defScope st) .none kV doc pm an (.ref c) ct ∧ K.lookup f = some ⟨oc, od, .func fd, osl⟩ ∧ PySem.W.codeIn K (.ref c) qual = true
  kp : PySem.W.keepIn K (.ref f) = true
section
variable {P : Program} {w : World} {K : PySem.W.Frag} {mg : Str → Option Value} {base : Heap}
theorem FunC.fn {x qual : Str} {st : Stmt} {f c : Addr} {fd : FuncData} (F : FunC K x qual st f c fd) : Fun K x qual st f fd := by
  obtain ⟨oc, od, kV, doc, pm, an, ct, osl, e, l, cd⟩ := F.ex
  exact ⟨⟨oc, od, kV, doc, pm, an, .ref c, ct, osl, e, l, cd⟩, F.kp⟩
theorem FunC.ok {x qual : Str} {st : Stmt} {f c : Addr} {fd : FuncData} {N ps : List Str} {k : Nat} {sp : Sp} (F : FunC K x qual st f c fd) (S : FnScope N ps (defScope st)) (len : ∀ vs H Q E, sp vs H Q E → vs.length = ps.length)
    (body : ∀ (A : Around) (outer : List Env) (s : Shared) (H : Hp) (vs : List V) (Q : VK) (E : XK), Room k (A.deeper (envOfC qual (defScope st) s.heap.objs.size f (.ref c))) → sp vs H Q E →
      ∃ t, PSs (cxOf CX0 P w K mg base N qual (defScope st) f (.ref c) A outer s H E).nox (defBody st) t ∧ t { nx := fun _ H' => Q .non H', rt := Q } (start N vs) H) : FnOk P w K mg base CX0 (k + 1) f fd ps sp := by
  obtain ⟨oc, od, kV, doc, pm, an, ct, osl, rfl, lk, hcd⟩ := F.ex
  refine fn_of lk hcd S len fun A outer s H vs Q E hr hsp => ?_
  obtain ⟨t, h, q⟩ := body A outer s H vs Q E hr hsp
  exact ⟨t, h.nox, q⟩
end
end Se
namespace Sl
open PySem PySem.Spec PyProof.Rows L2
theorem filter_take {α : Type} {f : α → Bool} {l : List α} {i : Nat} {x : α} (h : l[i]? = some x) : (l.take (i + 1)).filter f = (l.take i).filter f ++ (if f x = true then [x] else []) := by
  rw [List.take_add_one, h, List.filter_append]
  congr 1
  show List.filter f [x] = _
  cases e : f x with
  | true => rw [List.filter_cons_of_pos e]; rfl
  | false => rw [List.filter_cons_of_neg (by rw [e]; decide)]; rfl
theorem filter_all {α : Type} (f : α → Bool) (l : List α) : decide (V.int ((l.filter (fun x => !f x)).length : Int) = V.int 0) = l.all f := by
  cases e : l.all f with
  | true =>
    have z : l.filter (fun x => !f x) = [] := List.filter_eq_nil_iff.mpr fun x hx h => by
      have := List.all_eq_true.mp e x hx
      rw [this] at h
      cases h
    rw [z]
    rfl
  | false =>
    obtain ⟨x, hx, h⟩ := List.all_eq_false.mp e
    have := List.length_pos_of_mem (List.mem_filter (p := fun x => !f x).mpr ⟨hx, (by cases g : f x with | true => exact absurd g h | false => rfl : (!f x) = true)⟩)
    exact decide_eq_false fun z => by
      have := V.int.inj z
      omega
end Sl
namespace PySem
/-! ### enumerate(a tuple) -/
set_option maxHeartbeats 2000000 in
theorem en_new (t : Addr) (its : Array Value) : Meets (Builtin.«enumerate.__new__» ⟨[.type "enumerate", .ref t], []⟩) (fun _ R s => s.heap.IsTuple t its ∧
    R (.ok (.ret (.ref (s.heap.push { cls := .type "tuple_iterator", data := .fields #[.ref t, .int 0 0] }).objs.size))) { s with heap := (s.heap.push { cls := .type "tuple_iterator", data := .fields #[.ref t, .int 0 0] }).push { cls := .type "enumerate", data := .fields #[.none, .bool false, .ref s.heap.objs.size, rawInt 0, .none, .none] } }) :=
  .of_wp fun prog w A R s z => by
    obtain ⟨hp, g, d, tk, os⟩ := s
    obtain ⟨ht, z⟩ := z
    have hsub := sub_enumerate
    have go : ∀ {A' : Around} {E : Value → Shared → Prop} {Q : Value → Shared → Prop}, Q (.ref hp.objs.size) ⟨hp.push { cls := .type "tuple_iterator", data := .fields #[.ref t, .int 0 0] }, g, d, tk, os⟩ → wpAny (model prog w) A' (pyIter (.ref t)) Q E ⟨hp, g, d, tk, os⟩ := fun q => wpAny_pyIter_tuple (s := ⟨hp, g, d, tk, os⟩) ht q
    wp_walk using go
    refine wpAny_stack_any fun st => wpAny_pure ?_
    split
    · rename_i c _ _ _ _ _
      cases (c == Value.type "enumerate") <;> (wp_walk using go; exact ⟨_, rfl, z⟩)
    · wp_walk using go; exact ⟨_, rfl, z⟩
theorem en_call {prog : Program} {w : World} {A : Around} {E : Value → Shared → Prop} {s : Shared} {t : Addr} {its : Array Value} {Q : Value → Shared → Prop} (ht : s.heap.IsTuple t its)
    (h : ∀ h', IsEnum h' (s.heap.objs.size + 1) s.heap.objs.size 0 .none → h'.IsTupleIter s.heap.objs.size t 0 → (∀ b o, s.heap.get? b = some o → h'.get? b = some o) → Q (.ref (s.heap.objs.size + 1)) { s with heap := h' }) :
    wpAny (model prog w) A (call (.type "enumerate") [.ref t]) Q E s := by
  refine callType_new F.called_enumerate (by decide) (F.typeCall_enumerate_1 _) (F.newCall_enumerate_1 _) (fun obj => F.args_object_init_2 obj _) F.entry_enumerate_new (en_new t its) ⟨ht, ?_⟩
  have hz : (s.heap.push { cls := .type "tuple_iterator", data := .fields #[.ref t, .int 0 0] }).objs.size = s.heap.objs.size + 1 := Heap.size_push ..
  show _ ∧ _
  rw [hz]
  have e1 := Heap.get?_push_size (s.heap.push { cls := .type "tuple_iterator", data := .fields #[.ref t, .int 0 0] }) (o := { cls := .type "enumerate", data := .fields #[.none, .bool false, .ref s.heap.objs.size, rawInt 0, .none, .none] }) rfl
  rw [hz] at e1
  exact ⟨⟨_, e1, rfl⟩, h _ e1 ⟨_, Heap.get?_push_of_some _ (Heap.get?_push_size _ rfl), rfl, rfl⟩ fun b o x => Heap.get?_push_of_some _ (Heap.get?_push_of_some _ x)⟩
end PySem
namespace En
open PySem PySem.Spec PyProof.Rows L2
theorem apart {h : Heap} {a e it : Addr} {vs : Array Value} {i : Nat} {old : Value} {c : Int} (p : h.IsTuple a vs) (hit : h.IsTupleIter it a i) (he : IsEnum h e it c old) : a ≠ it ∧ a ≠ e := by
  obtain ⟨o, e1, c1, _⟩ := p
  obtain ⟨o2, e2, c2, _⟩ := hit
  refine ⟨fun z => ?_, fun z => ?_⟩
  · rw [z, e2] at e1
    cases e1
    rw [c2] at c1
    simp at c1
  · have he : h.get? e = some _ := he
    rw [z, he] at e1
    cases e1
    simp at c1
/-- the tuple at a, each item in a new pair -/
def ItE (K : PySem.W.Frag) (a : Addr) : It :=
  ⟨fun i H => ∃ (xs : List V) (x : V), SqT K H a xs ∧ xs[i]? = some x, fun i H v H' => ∃ T x, v = .ref T ∧ H T = none ∧ H' = upd H T (.tup [.int (i : Nat), x]) ∧ ∀ xs, SqT K H a xs → xs[i]? = some x, fun i H => ∃ xs : List V, SqT K H a xs ∧ xs.length = i⟩
theorem turn {P : Program} {w : World} {K : PySem.W.Frag} {elts : List Expr} {kk : Nat} {tpos : Pos} (a e it : Addr) :
    Turn P w K (.Tuple elts kk tpos) (ItE K a) [e, it] e (fun i h => (∃ old, IsEnum h e it ((i : Nat) : Int) old) ∧ h.IsTupleIter it a i ∧ e ≠ it) where
  mem := by simp
  obj := fun i h st b hb => by
    obtain ⟨⟨old, he⟩, ⟨o, ho, _, hd⟩, _⟩ := st
    simp only [List.mem_cons, List.not_mem_nil, or_false] at hb
    rcases hb with rfl | rfl
    · exact ⟨_, he, fun v q => nomatch q⟩
    · exact ⟨o, ho, fun v q => by rw [hd] at q; cases q⟩
  keep := fun i h h' st k => let ⟨⟨old, he⟩, hi, ne⟩ := st; ⟨⟨old, k e (by simp) _ he⟩, hi.at fun o q => k it (by simp) o q, ne⟩
  item := by
    intro X hP hw hK hc i pins s σ H E I hf st hg
    subst hP hw hK
    obtain ⟨⟨old, he⟩, hit, ne⟩ := st
    obtain ⟨xs, x, hq, hx⟩ := hg
    obtain ⟨its, rv, p, hz⟩ := I.tuple hq
    have p : s.heap.IsTuple a its.toArray := p
    obtain ⟨u, hu, ru⟩ := rv.get hx
    obtain ⟨n1, n2⟩ := apart p hit he
    have le := Heap.lt_size he
    have li : it < s.heap.objs.size := by obtain ⟨_, q, _⟩ := hit; exact Heap.lt_size q
    have lt : i < its.toArray.size := by
      have := (List.getElem?_eq_some_iff.mp hu).1
      simpa using this
    refine wpAny_pyNext_enum_itemD (Draws.tuple (A := X.A.in1) (I.ok.hd hc) it a n1 its.toArray) he ⟨hit, p⟩ lt ne (by simp [ne, Ne.symm n2]) fun x' h1 tk q1 q2 q3 q4 q5 q6 => ?_
    obtain rfl : x' = u := by
      have q1 : its.toArray[i]? = some x' := q1
      rw [List.getElem?_toArray, hu] at q1
      exact (Option.some.inj q1).symm
    refine ⟨_, rfl, wpAny_letOwnedTupleGo_enum (s := { s with heap := h1, toks := tk + 1 }) q2 fun h2 he2 sb => ?_⟩
    have hT : h2.get? s.heap.objs.size = some { cls := .type "tuple", data := .seq #[.int i tk, x'] } := (sb.2 _ (Nat.ne_of_gt le)).trans q4
    have I1 : Inv X pins σ (upd H s.heap.objs.size (.tup [.int (i : Nat), x])) { s with heap := h2, toks := tk + 1 } :=
      I.turnedNew (ch := [e, it]) (fun b ob hb q => (sb.2 b (fun z => hb (by simp [z]))).trans (q6 b ob (fun z => hb (by simp [z])) (fun z => hb (by simp [z])) q)) hf (Nat.le_refl _)
        ⟨by show 2 ≤ sizeLine; decide, [.int i tk, x'], .cons ⟨_, rfl⟩ (.cons ru .nil), ⟨_, hT, rfl, _, rfl⟩⟩
    refine ⟨.ref s.heap.objs.size, _, I1, rfl, ⟨_, x, rfl, I.hok.fresh (Nat.le_refl _), rfl, fun ys hy => by rw [I.tuple_inj hy hq]; exact hx⟩, ⟨⟨x', ?_⟩, q3.1.at fun o q => (sb.2 it (Ne.symm ne)).trans q, ne⟩, fun b hb => ?_⟩
    · rw [show ((i + 1 : Nat) : Int) = (i : Int) + 1 by omega]
      exact he2
    · have lb : b < s.heap.objs.size := by
        have hb' : b = e ∨ b = it := by simpa using hb
        rcases hb' with z | z <;> rw [z] <;> assumption
      rw [upd_ne (Nat.ne_of_lt lb)]
      exact (hf b hb).1
  done := by
    intro X hP hw hK hc i pins s σ H E I hf st hg
    subst hP hw hK
    obtain ⟨⟨old, he⟩, hit, ne⟩ := st
    obtain ⟨xs, hq, hx⟩ := hg
    obtain ⟨its, rv, p, hz⟩ := I.tuple hq
    have p : s.heap.IsTuple a its.toArray := p
    obtain ⟨n1, n2⟩ := apart p hit he
    obtain ⟨f0, f1, f2, f3, f4, f5⟩ := hf it (by simp)
    have e1 : its.toArray.size = i := by
      have := rv.length
      rw [List.size_toArray]
      omega
    exact wpAny_pyNext_enum_endD (Draws.tuple (A := X.A.in1) (I.ok.hd hc) it a n1 its.toArray) he ⟨by rw [e1]; exact hit, p⟩ fun h1 eb => ⟨rfl, I.turned (t' := s.toks) (fun b o hb q => eb b o hb q) f0 f1 f3 f4 f5⟩
  self := fun A i s Q E st h => let ⟨⟨_, he⟩, _⟩ := st; wpAny_pyIter_enum he h
def iEn (K : PySem.W.Frag) (ta : TA) : TI := fun σ H R => ta σ H fun vs H1 => ∃ a xs, vs = [.ref a] ∧ SqT K H1 a xs ∧ R (ItE K a) H1
end En
theorem L2.pi_enumT {X : L2.Cx} {e : PySem.Expr} {ta : L2.TA} {p pos tpos : PySem.Pos} {elts : List PySem.Expr} {kk : Nat} (hg : L2.Gl X "enumerate") (hm : X.mg "enumerate" = none) (ha : L2.PA X [e] ta) (hs : PySem.starEach [e] X.env = [(false, PySem.eval e X.env)] := by rfl) :
    L2.PI X (.Tuple elts kk tpos) (.Call (.Name "enumerate" p) [e] [] pos) (En.iEn X.K ta) := by
  open PySem PySem.Spec PyProof.Rows L2 in
  refine ⟨fun pins s σ H R I h => Call_ (ld_blt I hg hm boot_enumerate (PyProof.Rows.callWith_type1 (thn (ha.run pos pins s σ H _ I h) fun us s1 ⟨vs, H1, I1, r1, a, xs, ex, hq, q⟩ => ?_) hs rfl))⟩
  subst ex
  cases r1 with
  | cons r rr =>
    cases rr
    cases r
    obtain ⟨its, rv, pt, hz⟩ := I1.tuple hq
    refine PySem.en_call (its := its.toArray) pt fun h1 he hit hk => PySem.wpAny_pyIter_enum he ?_
    refine ⟨s1.heap.objs.size + 1, [s1.heap.objs.size + 1, s1.heap.objs.size], _, _, H1, rfl, I1.kept (t' := s1.toks) hk, En.turn a (s1.heap.objs.size + 1) s1.heap.objs.size, ⟨⟨.none, he⟩, hit, Nat.succ_ne_self _⟩, fun b hb => ?_, q⟩
    have le : s1.heap.objs.size ≤ b := by
      have hb' : b = s1.heap.objs.size + 1 ∨ b = s1.heap.objs.size := by simpa using hb
      rcases hb' with z | z <;> rw [z]
      · exact Nat.le_succ _
      · exact Nat.le_refl _
    exact I1.fpOk le (I1.hok.fresh le)
namespace En
open PySem PySem.Spec PyProof.Rows L2
theorem for_en {K : PySem.W.Frag} {a : Addr} {xs : List V} {g : TG} {tb : TS} {D : Ends} {σ : L2.St} {H : Hp} (Pv : Nat → L2.St → Hp → Prop) (h0 : Pv 0 σ H) (hl : ∀ i σ H, i ≤ xs.length → Pv i σ H → SqT K H a xs)
    (hs : ∀ i x σ H T, xs[i]? = some x → Pv i σ H → H T = none → g (.ref T) σ (upd H T (.tup [.int (i : Nat), x])) fun σ2 H2 => tb { D with nx := Pv (i + 1), ct := Pv (i + 1), bk := D.nx } σ2 H2) (hd : ∀ σ H, Pv xs.length σ H → D.nx σ H) :
    ∃ W : Nat → Nat → L2.St → Hp → Prop, (∃ m, W 0 m σ H) ∧ ∀ i m σ H, W i m σ H →
      ((ItE K a).stop i H ∧ D.nx σ H) ∨ ((ItE K a).go i H ∧ ∃ N : L2.St → Hp → Prop, (∀ σ' H', N σ' H' → ∃ m', m' < m ∧ W (i + 1) m' σ' H') ∧ ∀ x H', (ItE K a).yld i H x H' → g x σ H' fun σ2 H2 => tb { D with nx := N, ct := N, bk := D.nx } σ2 H2) := by
  refine ⟨fun i m σ H => i + m = xs.length ∧ Pv i σ H, ⟨xs.length, Nat.zero_add _, h0⟩, fun i m σ H ⟨e, p⟩ => ?_⟩
  have sq := hl i σ H (by omega) p
  cases m with
  | zero =>
    obtain rfl : i = xs.length := by omega
    exact .inl ⟨⟨xs, sq, rfl⟩, hd σ H p⟩
  | succ m =>
    have hx := List.getElem?_eq_getElem (show i < xs.length by omega)
    refine .inr ⟨⟨xs, _, sq, hx⟩, Pv (i + 1), fun σ' H' q => ⟨m, Nat.lt_succ_self m, by omega, q⟩, ?_⟩
    rintro y H' ⟨T, x, rfl, nT, rfl, hy⟩
    exact hs i x σ H T (hy xs sq) p nT
theorem lc_en {K : PySem.W.Frag} {a : Addr} {xs : List V} {g : TG} {tt : TT} {te : TE} {vs : List Nat} {σ : L2.St} {H1 : Hp} {D : Addr} {Qd : Hp → Prop} (Pv : Nat → Hp → Prop) (h0 : Pv 0 (upd H1 D (.lst []))) (hl : ∀ i H, i ≤ xs.length → Pv i H → SqT K H a xs)
    (hs : ∀ i x H T, xs[i]? = some x → Pv i H → H T = none → g (.ref T) (wipe σ vs) (upd H T (.tup [.int (i : Nat), x])) fun σ2 H2 => wipe σ2 vs = wipe σ vs ∧ tt σ2 H2 fun b H3 => if b = true then te σ2 H3 fun y H4 => ∃ acc, H4 D = some (.lst acc) ∧ acc.length < sizeLine ∧ Pv (i + 1) (upd H4 D (.lst (acc ++ [y]))) else Pv (i + 1) H3) (hd : ∀ H, Pv xs.length H → Qd H) :
    ∃ W : Nat → Nat → Hp → Prop, (∃ m, W 0 m (upd H1 D (.lst []))) ∧ ∀ i m H, W i m H →
      ((ItE K a).stop i H ∧ Qd H) ∨ ((ItE K a).go i H ∧ ∃ Nx : Hp → Prop, (∀ H', Nx H' → ∃ m', m' < m ∧ W (i + 1) m' H') ∧ ∀ x H', (ItE K a).yld i H x H' → g x (wipe σ vs) H' fun σ2 H2 => wipe σ2 vs = wipe σ vs ∧ tt σ2 H2 fun b H3 =>
        if b = true then te σ2 H3 fun y H4 => ∃ acc, H4 D = some (.lst acc) ∧ acc.length < sizeLine ∧ Nx (upd H4 D (.lst (acc ++ [y]))) else Nx H3) := by
  refine ⟨fun i m H => i + m = xs.length ∧ Pv i H, ⟨xs.length, Nat.zero_add _, h0⟩, fun i m H ⟨e, p⟩ => ?_⟩
  have sq := hl i H (by omega) p
  cases m with
  | zero =>
    obtain rfl : i = xs.length := by omega
    exact .inl ⟨⟨xs, sq, rfl⟩, hd H p⟩
  | succ m =>
    have hx := List.getElem?_eq_getElem (show i < xs.length by omega)
    refine .inr ⟨⟨xs, _, sq, hx⟩, Pv (i + 1), fun H' q => ⟨m, Nat.lt_succ_self m, by omega, q⟩, ?_⟩
    rintro y H' ⟨T, x, rfl, nT, rfl, hy⟩
    exact hs i x H T (hy xs sq) p nT
end En
namespace Fo
open PySem PySem.Spec PyProof.Rows L2 GxR Nw Dr Kp Se Cl En
abbrev sFal : Stmt := topS 5
abbrev nFal : List Str := ["claim", "held", "say"]
theorem scFal : FnScope nFal ["claim", "held"] (defScope sFal) := ⟨rfl, rfl, rfl, by decide +kernel, rfl, by decide +kernel, by decide +kernel⟩
abbrev sFsy : Stmt := topS 6
abbrev nFsy : List Str := ["claim", "held", "left", "say"]
theorem scFsy : FnScope nFsy ["claim", "held"] (defScope sFsy) := ⟨rfl, rfl, rfl, by decide +kernel, rfl, by decide +kernel, by decide +kernel⟩
abbrev sFfa : Stmt := topS 7
theorem scFfa : FnScope ["claims", "held", "number", "claim"] ["claims", "held"] (defScope sFfa) := ⟨rfl, rfl, rfl, by decide +kernel, rfl, by decide +kernel, by decide +kernel⟩
abbrev sFst : Stmt := topS 8
theorem scFst : FnScope ["claims", "held", "number", "claim", "say"] ["claims", "held"] (defScope sFst) := ⟨rfl, rfl, rfl, by decide +kernel, rfl, by decide +kernel, by decide +kernel⟩
abbrev sFod : Stmt := topS 9
theorem scFod : FnScope ["claims", "says", "held", "steps", "number", "step"] ["claims", "says"] (defScope sFod) := ⟨rfl, rfl, rfl, by decide +kernel, rfl, by decide +kernel, by decide +kernel⟩
/-- the built-ins that stand as they stood -/
structure Zf (mg : Str → Option Value) : Prop where
  z_len : mg "len" = none
  z_list : mg "list" = none
  z_all : mg "all" = none
  z_enumerate : mg "enumerate" = none
theorem ints_flat (cs : List Int) : (cs.map V.int).all flatV = true := by
  rw [List.all_map, List.all_eq_true]
  exact fun _ _ => rfl
theorem at_int {ks : List Int} {i : Nat} {x : V} (hx : (ks.map V.int)[i]? = some x) : ∃ z, ks[i]? = some z ∧ x = V.int z := by
  rw [List.getElem?_map] at hx
  cases e : ks[i]? with
  | none =>
    rw [e] at hx
    cases hx
  | some z =>
    rw [e] at hx
    exact ⟨z, rfl, (Option.some.inj hx).symm⟩
theorem bk_at {H : Hp} {a : Addr} {vs : List V} {css : List (List Int)} {i : Nat} {x : V} (l : vs.length = css.length) (h : ∀ (i : Nat) (x : V) (cs : List Int), vs[i]? = some x → css[i]? = some cs → TupI H x cs) (hx : vs[i]? = some x) : ∃ cs, css[i]? = some cs ∧ TupI H x cs := by
  have li := (List.getElem?_eq_some_iff.mp hx).1
  have e := List.getElem?_eq_getElem (show i < css.length by omega)
  exact ⟨_, e, h i x _ hx e⟩
section
variable {P : Program} {w : World} {K : PySem.W.Frag} {mg : Str → Option Value} {base : Heap}
/-- falls(claim, held) -/
def spFal (Po : Addr) : Sp := fun vs H Q _ => ∃ (v : V) (a : Addr) (cs held : List Int), vs = [v, .ref a] ∧ TupI H v cs ∧ H a = some (.lst (held.map V.int)) ∧ TabG H Po ∧
  ∀ H' b, Ke Nof H H' → (b = true ↔ left cs held = []) → Q (.bl b) H'
theorem ok_fal {f c Po : Addr} {fd : FuncData} {k : Nat} (F : FunC K "falls" "falls" sFal f c fd) (T : Zf mg) (TB : TabB base mg c Po) : FnOk P w K mg base CX0 (k + 3) f fd ["claim", "held"] (spFal Po) := by
  refine F.ok scFal (fun vs H Q E h => ?_) (fun A outer s H vs Q E hr h => ?_)
  · obtain ⟨v, a, cs, held, rfl, _⟩ := h
    rfl
  · obtain ⟨v, b, cs, held, rfl, ⟨a, rfl, ha⟩, hb, tg, q⟩ := h
    refine ⟨_, (pss_one (ps_ret (Gx.pe_all hr (by rfl) T.z_all rfl scFal.nd TB rfl (pi_tup (pv 0)) (own := [("say", 2)]) (g := gName 2) (tt := tYes) (blkOk_by (N := nFal) (sc := defScope sFal) (by decide +kernel)) ⟨rfl, by decide +kernel, rfl⟩ (fun _ _ _ _ _ _ _ => pg_name (i := 2) scFal.nd rfl (.inl rfl)) (fun _ _ _ _ _ _ _ => pts_nil) (fun _ _ _ _ _ _ _ => (pe_cmpR (op_in_seqB (K := K) rfl) (pe_un un_neg (pv 2)) (pv 1) (by rfl)))))), ?_⟩
    refine ⟨_, rfl, a, rfl, ⟨_, .of ha⟩, tg, fun H1 tb => ?_⟩
    have k1 : Ke Nof H H1 := .tabbed tg tb
    refine Gx.aa_tup (xs := cs.map V.int) (Pv := fun i H' => Ke Nof H H' ∧ ∀ s ∈ cs.take i, -s ∈ held) ⟨k1, fun s hs => by simp at hs⟩ (fun i H' _ p => .of (p.1.tups _ _ ha)) ?_ ?_
    · rintro i x H' hx ⟨k2, p⟩
      obtain ⟨z, hz, rfl⟩ := at_int hx
      refine ⟨rfl, _, rfl, _, rfl, _, rfl, b, _, rfl, .inl (.of (k2.lst hb fun z => z)), rfl, ints_flat held, ?_⟩
      cases e : inV (.int (-z)) (held.map V.int) with
      | false =>
        refine .inl ⟨rfl, q H' false k2 ⟨fun y => (nomatch y), fun y => ?_⟩⟩
        have := left_nil.mp y z (List.mem_of_getElem? hz)
        rw [(in_ints _ _).mpr this] at e
        cases e
      | true =>
        refine .inr ⟨rfl, k2, fun s hs => ?_⟩
        rw [List.take_add_one, hz] at hs
        rcases List.mem_append.mp hs with y | y
        · exact p s y
        · have : s = z := by simpa using y
          rw [this]
          exact (in_ints _ _).mp e
    · rintro H' ⟨k2, p⟩
      rw [List.length_map, List.take_length] at p
      exact q H' true k2 ⟨fun _ => left_nil.mpr p, fun _ => rfl⟩
/-- forced_say(claim, held) -/
def spFsy : Sp := fun vs H Q _ => ∃ (v : V) (a : Addr) (cs held : List Int), vs = [v, .ref a] ∧ TupI H v cs ∧ H a = some (.lst (held.map V.int)) ∧ cs.length ≤ 20 ∧
  (∀ H' x, Same H H' → Forces cs held x → Q (.int x) H') ∧ ∀ H', Same H H' → (∀ x, ¬ Forces cs held x) → Q .non H'
theorem ok_fsy {f : Addr} {fd : FuncData} {k : Nat} (F : Fun K "forced_say" "forced_say" sFsy f fd) (T : Zf mg) : FnOk P w K mg base CX0 (k + 1) f fd ["claim", "held"] spFsy := by
  refine F.ok scFsy (fun vs H Q E h => ?_) (fun cdv A outer s H vs Q E hr h => ?_)
  · obtain ⟨v, a, cs, held, rfl, _⟩ := h
    rfl
  · obtain ⟨v, b, cs, held, rfl, ⟨a, rfl, ha⟩, hb, lc, q1, q2⟩ := h
    refine ⟨_, (Evl.pss_cut (ps_setLc (i := 2) (own := [("say", 3)]) (g := (gName 3))  rfl scFsy.nd rfl rfl (sw_true rfl rfl rfl (by decide +kernel)) (pi_tup (pv 0)) (blkOk_by (N := nFsy) (sc := defScope sFsy) (by decide +kernel)) (fun _ _ _ _ _ => (pg_name (i := 3) scFsy.nd rfl (.inl rfl))) (fun _ _ _ _ _ => (pts_one (pt_cmpR (op_notIn_seqB (K := K) rfl) (pe_un un_neg (pv 3)) (pv 1) (by rfl)))) (fun _ _ _ _ _ => (pv 3)))
      (pss_cons (ps_if (PW.pt (pw_and (pt_cmpR op_eq (pe_callB call_len_seq (by rfl) T.z_len (by decide +kernel) (pa_cons (pv 2) pa_nil)) pe_int (nomark _)) (pw_and1 (pt_cmpR op_notIn_seq (pe_ix ix_list (pv 2) pe_int (fun _ _ => rfl)) (pv 1) (by rfl))))) (pss_one (ps_ret (pe_ix ix_list (pv 2) pe_int (fun _ _ => rfl)))) pss_nil)
      (pss_one (ps_ret pe_non)))), ?_⟩
    refine Evl.q_cut (M := fun σ' H' => ∃ D, σ' = [some (.ref a), some (.ref b), some (.ref D), none] ∧ Same H H' ∧ H' D = some (.lst ((left cs held).map V.int))) ?_ ?_
    · refine ⟨_, rfl, a, rfl, ⟨_, .of ha⟩, fun D nD => ?_⟩
      refine lc_tup (xs := cs.map V.int) (Pv := fun i H' => Same H H' ∧ H' D = some (.lst (((cs.take i).filter fun s => !inV (.int (-s)) (held.map V.int)).map V.int))) ⟨same_new nD, upd_same⟩ (fun i H' _ p => .of (p.1 _ _ ha)) ?_ ?_
      · rintro i x H' hx ⟨s1, hD⟩
        obtain ⟨z, hz, rfl⟩ := at_int hx
        have ft := Sl.filter_take (f := fun s => !inV (.int (-s)) (held.map V.int)) hz
        refine ⟨rfl, _, rfl, _, rfl, _, rfl, b, _, rfl, .inl (.of (s1 _ _ hb)), rfl, ints_flat held, _, rfl, ite2 (fun y1 => ?_) (fun y1 => ?_)⟩
        · have y1 : (!inV (.int (-z)) (held.map V.int)) = true := y1
          refine ⟨_, rfl, _, hD, ?_, fun c o y => ?_, ?_⟩
          · rw [List.length_map]
            exact small1000 (Nat.le_trans (List.length_filter_le _ _) (by rw [List.length_take]; omega))
          · rw [upd_ne (ne_of_none y nD)]
            exact s1 _ _ y
          · rw [upd_same, ft, if_pos y1, List.map_append]
            rfl
        · have y1 : ¬ (!inV (.int (-z)) (held.map V.int)) = true := y1
          refine ⟨s1, ?_⟩
          rw [ft, if_neg y1, List.append_nil]
          exact hD
      · rintro H' ⟨s1, hD⟩
        rw [List.length_map, List.take_length] at hD
        exact ⟨D, rfl, s1, hD⟩
    rintro σ' H1 ⟨D, rfl, s1, hD⟩
    have hb1 := s1 _ _ hb
    refine ⟨_, rfl, D, _, rfl, .inl (.of hD), rfl, _, rfl, ite2 (fun e => ?_) (fun e => ?_)⟩
    · have l1 : (left cs held).length = 1 := by
        have := V.int.inj (of_decide_eq_true e)
        rw [List.length_map] at this
        omega
      obtain ⟨x, hx⟩ := List.length_eq_one_iff.mp l1
      rw [hx] at hD
      refine ⟨_, rfl, D, _, 0, .int x, rfl, rfl, .of hD, rfl, _, rfl, b, _, rfl, .inl (.of hb1), rfl, ints_flat held, _, rfl, ite2 (fun e2 => ?_) (fun e2 => ?_)⟩
      · have e2 : (!inV (.int x) (held.map V.int)) = true := e2
        refine ⟨_, rfl, D, _, 0, .int x, rfl, rfl, .of hD, rfl, q1 H1 x s1 ⟨hx, fun z => ?_⟩⟩
        rw [(in_ints _ _).mpr z] at e2
        cases e2
      · have e2 : ¬ (!inV (.int x) (held.map V.int)) = true := e2
        refine q2 H1 s1 fun y ⟨h1, h2⟩ => ?_
        rw [hx] at h1
        cases h1
        cases z : inV (.int x) (held.map V.int) with
        | true => exact h2 ((in_ints _ _).mp z)
        | false =>
          rw [z] at e2
          exact e2 rfl
    · refine q2 H1 s1 fun y ⟨h1, h2⟩ => ?_
      rw [h1] at e
      exact e rfl
/-- first_fall(claims, held) -/
def spFfa (Po : Addr) : Sp := fun vs H Q _ => ∃ (v : V) (a : Addr) (css : List (List Int)) (held : List Int), vs = [v, .ref a] ∧ Bk H v css ∧ H a = some (.lst (held.map V.int)) ∧ TabG H Po ∧
  (∀ H' (n : Nat) cs, Ke Nof H H' → css[n]? = some cs → left cs held = [] → Q (.int n) H') ∧ ∀ H', Ke Nof H H' → (∀ cs ∈ css, left cs held ≠ []) → Q .non H'
theorem ok_ffa {f fF Po : Addr} {fd fdF : FuncData} {k : Nat} (F : Fun K "first_fall" "first_fall" sFfa f fd) (T : Zf mg) (kF : PySem.W.keepIn K (.ref fF) = true) (bF : Binds K fdF ["claim", "held"] []) (gF : mg "falls" = some (.ref fF)) (GF : FnOk P w K mg base CX0 3 fF fdF ["claim", "held"] (spFal Po)) :
    FnOk P w K mg base CX0 (k + 4) f fd ["claims", "held"] (spFfa Po) := by
  refine F.ok scFfa (fun vs H Q E h => ?_) (fun cdv A outer s H vs Q E hr h => ?_)
  · obtain ⟨v, a, css, held, rfl, _⟩ := h
    rfl
  · obtain ⟨v, a, css, held, rfl, ⟨b, vs, rfl, hb, lv, hv⟩, ha, tg, q1, q2⟩ := h
    have hr3 : Room 3 _ := hr.mono (by omega)
    refine ⟨_, (pss_cons (ps_for PassesOwn.never rfl (pi_enumT (by rfl) T.z_enumerate (pa_cons (pv 0) pa_nil)) (pg_tup rfl (pgs_cons (pg_name (i := 2) scFfa.nd rfl (.inl rfl)) (pgs_cons (pg_name (i := 3) scFfa.nd rfl (.inl rfl)) pgs_nil))) (pss_one (ps_if (pt_val (pe_call GF hr3 (by rfl) gF kF bF .nil pass0 (pa_cons (pv 3) (pa_cons (pv 1) pa_nil)))) (pss_one (ps_ret (pv 2))) pss_nil)))
      (pss_one (ps_ret pe_non))), ?_⟩
    refine ⟨_, rfl, b, vs, rfl, .of hb, for_en (K := K) (a := b) (xs := vs) (Pv := fun i σ H' => ∃ y2 y3 : Option V, σ = [some (.ref b), some (.ref a), y2, y3] ∧ Ke Nof H H' ∧ ∀ cs ∈ css.take i, left cs held ≠ []) ?_ (fun i σ H' _ p => ?_) ?_ ?_⟩
    · exact ⟨none, none, rfl, .refl _ _, fun cs hc => by simp at hc⟩
    · obtain ⟨_, _, _, k1, _⟩ := p
      exact .of (k1.tups _ _ hb)
    · rintro i x σ H1 T' hx ⟨y2, y3, rfl, k1, p⟩ nT
      obtain ⟨cs, hc, tx⟩ := bk_at (a := b) lv hv hx
      have k2 : Ke Nof H (upd H1 T' (.tup [.int (i : Nat), x])) := k1.trans (.same (same_new nT))
      refine ⟨T', _, rfl, .of upd_same, rfl, _, _, rfl, _, _, rfl, rfl, ?_⟩
      generalize upd H1 T' (.tup [.int (i : Nat), x]) = H2 at k2
      refine ⟨_, rfl, _, rfl, x, a, cs, held, rfl, tx.ke k2, k2.lst ha fun z => z, k2.tabs _ tg, fun H3 d k3 hd => ⟨d, rfl, ite2 (fun e => ?_) (fun e => ?_)⟩⟩
      · exact ⟨_, rfl, q1 H3 i cs (k2.trans k3) hc (hd.mp e)⟩
      · refine ⟨_, _, rfl, k2.trans k3, fun ds hd2 => ?_⟩
        rw [List.take_add_one, hc] at hd2
        rcases List.mem_append.mp hd2 with y | y
        · exact p ds y
        · have : ds = cs := by simpa using y
          rw [this]
          exact fun z => e (hd.mpr z)
    · rintro σ H1 ⟨y2, y3, rfl, k1, p⟩
      rw [lv, List.take_length] at p
      exact q2 H1 k1 p
/-- first_step(claims, held) -/
def spFst : Sp := fun vs H Q _ => ∃ (v : V) (a : Addr) (css : List (List Int)) (held : List Int), vs = [v, .ref a] ∧ Bk H v css ∧ H a = some (.lst (held.map V.int)) ∧ (∀ cs ∈ css, Sy cs) ∧
  (∀ H' p (n : Nat) x cs, Ke Nof H H' → H' p = some (.tup [.int n, .int x]) → css[n]? = some cs → Forces cs held x → Q (.ref p) H') ∧ ∀ H', Ke Nof H H' → (∀ cs ∈ css, ∀ x, ¬ Forces cs held x) → Q .non H'
theorem ok_fst {f fY : Addr} {fd fdY : FuncData} {k : Nat} (F : Fun K "first_step" "first_step" sFst f fd) (T : Zf mg) (FY : Fun K "forced_say" "forced_say" sFsy fY fdY) (bY : Binds K fdY ["claim", "held"] []) (gY : mg "forced_say" = some (.ref fY)) (GY : FnOk P w K mg base CX0 1 fY fdY ["claim", "held"] spFsy) :
    FnOk P w K mg base CX0 (k + 2) f fd ["claims", "held"] spFst := by
  refine F.ok scFst (fun vs H Q E h => ?_) (fun cdv A outer s H vs Q E hr h => ?_)
  · obtain ⟨v, a, css, held, rfl, _⟩ := h
    rfl
  · obtain ⟨v, a, css, held, rfl, ⟨b, vs, rfl, hb, lv, hv⟩, ha, sy, q1, q2⟩ := h
    have hr1 : Room 1 _ := hr.mono (by omega)
    refine ⟨_, (pss_cons (ps_for PassesOwn.never rfl (pi_enumT (by rfl) T.z_enumerate (pa_cons (pv 0) pa_nil)) (pg_tup rfl (pgs_cons (pg_name (i := 2) scFst.nd rfl (.inl rfl)) (pgs_cons (pg_name (i := 3) scFst.nd rfl (.inl rfl)) pgs_nil))) (pss_cons (ps_set (i := 4) scFst.nd rfl (.inl rfl) (pe_call GY hr1 (by rfl) gY FY.kp bY .nil pass0 (pa_cons (pv 3) (pa_cons (pv 1) pa_nil))))
      (pss_one (ps_if (pt_cmpR op_notN (pv 4) pe_non (nomark _)) (pss_one (ps_ret (pe_tupN (pa_cons (pv 2) (pa_cons (pv 4) pa_nil))))) pss_nil))))
      (pss_one (ps_ret pe_non))), ?_⟩
    refine ⟨_, rfl, b, vs, rfl, .of hb, for_en (K := K) (a := b) (xs := vs) (Pv := fun i σ H' => ∃ y2 y3 y4 : Option V, σ = [some (.ref b), some (.ref a), y2, y3, y4] ∧ Ke Nof H H' ∧ ∀ cs ∈ css.take i, ∀ x, ¬ Forces cs held x) ?_ (fun i σ H' _ p => ?_) ?_ ?_⟩
    · exact ⟨none, none, none, rfl, .refl _ _, fun cs hc => by simp at hc⟩
    · obtain ⟨_, _, _, _, k1, _⟩ := p
      exact .of (k1.tups _ _ hb)
    · rintro i x σ H1 T' hx ⟨y2, y3, y4, rfl, k1, p⟩ nT
      obtain ⟨cs, hc, tx⟩ := bk_at (a := b) lv hv hx
      have k2 : Ke Nof H (upd H1 T' (.tup [.int (i : Nat), x])) := k1.trans (.same (same_new nT))
      refine ⟨T', _, rfl, .of upd_same, rfl, _, _, rfl, _, _, rfl, rfl, ?_⟩
      generalize upd H1 T' (.tup [.int (i : Nat), x]) = H2 at k2
      have lc := (sy cs (List.mem_of_getElem? hc)).len
      refine ⟨_, rfl, _, rfl, x, a, cs, held, rfl, tx.ke k2, k2.lst ha fun z => z, by omega, fun H3 z s3 hz => ?_, fun H3 s3 hn => ?_⟩
      · refine ⟨_, rfl, rfl, _, rfl, iteT ?_⟩
        refine ⟨_, rfl, _, rfl, by show 2 ≤ sizeLine; decide, fun p H4 np s4 hp _ => q1 H4 p i z cs (k2.trans ((Ke.same s3).trans (.same s4))) hp hc hz⟩
      · refine ⟨_, rfl, rfl, _, rfl, iteF ⟨_, _, _, rfl, k2.trans (.same s3), fun ds hd2 => ?_⟩⟩
        rw [List.take_add_one, hc] at hd2
        rcases List.mem_append.mp hd2 with y | y
        · exact p ds y
        · have : ds = cs := by simpa using y
          rw [this]
          exact hn
    · rintro σ H1 ⟨y2, y3, y4, rfl, k1, p⟩
      rw [lv, List.take_length] at p
      exact q2 H1 k1 p
end
end Fo
namespace Fo
open PySem PySem.Spec PyProof.Rows L2 GxR Nw Dr Kp Se Cl En
/-- a list of steps -/
def StL (H : Hp) (vs : List V) (steps : List (Nat × Int)) : Prop := vs.length = steps.length ∧ ∀ (i : Nat) (v : V) (s : Nat × Int), vs[i]? = some v → steps[i]? = some s → ∃ p, v = .ref p ∧ H p = some (.tup [.int (s.1 : Nat), .int s.2])
theorem StL.tups {H H' : Hp} {vs : List V} {steps : List (Nat × Int)} (h : StL H vs steps) (k : ∀ b xs, H b = some (.tup xs) → H' b = some (.tup xs)) : StL H' vs steps := ⟨h.1, fun i v s h1 h2 => by
  obtain ⟨p, e, hp⟩ := h.2 i v s h1 h2
  exact ⟨p, e, k _ _ hp⟩⟩
theorem upd_tup {H : Hp} {p : Addr} {ys : List V} {o : HO} (hp : H p = some (.lst ys)) : ∀ b xs, H b = some (.tup xs) → upd H p o b = some (.tup xs) := fun b xs h => by
  have n : b ≠ p := fun z => by
    rw [z, hp] at h
    cases h
  rw [upd_ne n]
  exact h
theorem StL.snoc {H : Hp} {vs : List V} {steps : List (Nat × Int)} {p : Addr} {n : Nat} {x : Int} (h : StL H vs steps) (hp : H p = some (.tup [.int n, .int x])) : StL H (vs ++ [.ref p]) (steps ++ [(n, x)]) :=
  ⟨by rw [List.length_append, List.length_append, h.1]; rfl, ix_append h.1 h.2 ⟨p, rfl, hp⟩⟩
def NumOk (css : List (List Int)) (held : List Int) (v : V) : Prop := (v = .non ∧ ∀ cs ∈ css, left cs held ≠ []) ∨ ∃ (n : Nat) (cs : List Int), v = .int n ∧ css[n]? = some cs ∧ left cs held = []
def StpOk (H : Hp) (css : List (List Int)) (held : List Int) (v : V) : Prop := (v = .non ∧ ∀ cs ∈ css, ∀ x, ¬ Forces cs held x) ∨ ∃ (p : Addr) (n : Nat) (x : Int) (cs : List Int), v = .ref p ∧ H p = some (.tup [.int n, .int x]) ∧ css[n]? = some cs ∧ Forces cs held x
section
variable {P : Program} {w : World} {K : PySem.W.Frag} {mg : Str → Option Value} {base : Heap}
/-- forced(claims, says) -/
def spFod (Po : Addr) : Sp := fun vs H Q _ => ∃ (v : V) (a : Addr) (css : List (List Int)) (says : List Int), vs = [v, .ref a] ∧ Bk H v css ∧ H a = some (.lst (says.map V.int)) ∧ (∀ cs ∈ css, Sy cs) ∧ Sy says ∧ TabG H Po ∧
  (∀ H' p S us steps (n : Nat) cs, Ke Nof H H' → Frs H S → H' p = some (.tup [.str "falls", .ref S, .int n]) → H' S = some (.lst us) → StL H' us steps → StepsOk css says steps → steps.length ≤ 17 → css[n]? = some cs → left cs (says ++ steps.map (·.2)) = [] → Q (.ref p) H') ∧
  ∀ H' p S us steps, Ke Nof H H' → Frs H S → H' p = some (.tup [.str "stands", .ref S]) → H' S = some (.lst us) → StL H' us steps → StepsOk css says steps → steps.length ≤ 17 → Stand css (says ++ steps.map (·.2)) → Q (.ref p) H'
theorem ok_fod {f fA fS Po : Addr} {fd fdA fdS : FuncData} {k : Nat} (F : Fun K "forced" "forced" sFod f fd) (T : Zf mg)
    (FA : Fun K "first_fall" "first_fall" sFfa fA fdA) (bA : Binds K fdA ["claims", "held"] []) (gA : mg "first_fall" = some (.ref fA)) (GA : FnOk P w K mg base CX0 4 fA fdA ["claims", "held"] (spFfa Po))
    (FS : Fun K "first_step" "first_step" sFst fS fdS) (bS : Binds K fdS ["claims", "held"] []) (gS : mg "first_step" = some (.ref fS)) (GS : FnOk P w K mg base CX0 2 fS fdS ["claims", "held"] spFst) :
    FnOk P w K mg base CX0 (k + 5) f fd ["claims", "says"] (spFod Po) := by
  refine F.ok scFod (fun vs H Q E h => ?_) (fun cdv A outer s H vs Q E hr h => ?_)
  · obtain ⟨v, a, css, says, rfl, _⟩ := h
    rfl
  · obtain ⟨v, a, css, says, rfl, hbk, ha, sy, sa, tg, q1, q2⟩ := h
    obtain ⟨b, rfl⟩ : ∃ b, v = .ref b := by
      obtain ⟨b, _, e, _⟩ := hbk
      exact ⟨b, e⟩
    have hr4 : Room 4 _ := hr.mono (by omega)
    have hr2 : Room 2 _ := hr.mono (by omega)
    refine ⟨_, (Evl.pss_cut (ps_set (i := 2) scFod.nd rfl (.inl rfl) (pe_callTy call_list_ofN (by rfl) T.z_list (by decide +kernel) (pa_cons (pv 1) pa_nil)))
      (Evl.pss_cut (ps_set (i := 3) scFod.nd rfl (.inl rfl) (pe_lstN pa_nil))
      (Evl.pss_cut (ps_set (i := 4) scFod.nd rfl (.inl rfl) (pe_call GA hr4 (by rfl) gA FA.kp bA .nil pass0 (pa_cons (pv 0) (pa_cons (pv 2) pa_nil))))
      (Evl.pss_cut (ps_set (i := 5) scFod.nd rfl (.inl rfl) (pe_call GS hr2 (by rfl) gS FS.kp bS .nil pass0 (pa_cons (pv 0) (pa_cons (pv 2) pa_nil))))
      (Evl.pss_cut (ps_while PassesOwn.never (PW.pt (pw_and (pt_cmpR op_isN (pv 4) pe_non (nomark _)) (pw_and1 (pt_cmpR op_notN (pv 5) pe_non (nomark _))))) (Evl.pss_cut (ps_expr (pe_bm PySem.F.plainAttrs_list PySem.F.slot_list_append PySem.F.type_list_append mt_append (pv 3) (pa_cons (pv 5) pa_nil)))
      (Evl.pss_cut (ps_expr (pe_bm PySem.F.plainAttrs_list PySem.F.slot_list_append PySem.F.type_list_append mt_append (pv 2) (pa_cons (pe_ix ix_tup (pv 5) pe_int (fun _ _ => rfl)) pa_nil)))
      (Evl.pss_cut (ps_set (i := 4) scFod.nd rfl (.inl rfl) (pe_call GA hr4 (by rfl) gA FA.kp bA .nil pass0 (pa_cons (pv 0) (pa_cons (pv 2) pa_nil))))
      (pss_one (ps_set (i := 5) scFod.nd rfl (.inl rfl) (pe_call GS hr2 (by rfl) gS FS.kp bS .nil pass0 (pa_cons (pv 0) (pa_cons (pv 2) pa_nil)))))))))
      (pss_cons (ps_if (pt_cmpR op_isN (pv 4) pe_non (nomark _)) (pss_one (ps_ret (pe_tupN (pa_cons pe_str (pa_cons (pv 3) pa_nil))))) pss_nil)
      (pss_one (ps_ret (pe_tupN (pa_cons pe_str (pa_cons (pv 3) (pa_cons (pv 4) pa_nil)))))))))))), ?_⟩
    refine Evl.q_cut (M := fun σ' H' => ∃ D, σ' = [some (.ref b), some (.ref a), some (.ref D), none, none, none] ∧ H D = none ∧ Same H H' ∧ H' D = some (.lst (says.map V.int))) ?_ ?_
    · exact ⟨_, rfl, a, _, rfl, .inl (.of ha), fun D H1 nD s1 hD _ => ⟨D, rfl, nD, s1, hD⟩⟩
    rintro σ' H1 ⟨D, rfl, nD, s1, hD⟩
    refine Evl.q_cut (M := fun σ' H' => ∃ S, σ' = [some (.ref b), some (.ref a), some (.ref D), some (.ref S), none, none] ∧ H S = none ∧ S ≠ D ∧ Same H H' ∧ H' D = some (.lst (says.map V.int)) ∧ H' S = some (.lst [])) ?_ ?_
    · exact ⟨Nat.zero_le _, fun S H2 nS s2 hS _ => ⟨S, rfl, s1.free nS, Ne.symm (ne_of_none hD nS), s1.trans s2, s2 _ _ hD, hS⟩⟩
    clear hD s1 H1
    rintro σ' H1 ⟨S, rfl, nS, nSD, s1, hD, hS⟩
    have frD : Frs H D := .of nD
    have frS : Frs H S := .of nS
    have k1 : Ke Nof H H1 := .same s1
    refine Evl.q_cut (M := fun σ' H' => ∃ vn, σ' = [some (.ref b), some (.ref a), some (.ref D), some (.ref S), some vn, none] ∧ Ke Nof H1 H' ∧ NumOk css says vn) ?_ ?_
    · exact ⟨_, rfl, _, rfl, .ref b, D, css, says, rfl, hbk.ke k1, hD, k1.tabs _ tg, fun H2 n cs k2 hc hl => ⟨_, rfl, k2, .inr ⟨n, cs, rfl, hc, hl⟩⟩, fun H2 k2 hl => ⟨_, rfl, k2, .inl ⟨rfl, hl⟩⟩⟩
    rintro σ' H2 ⟨vn, rfl, k2, no⟩
    have k12 := k1.trans k2
    have hD2 := k2.lst hD fun z => z
    have hS2 := k2.lst hS fun z => z
    refine Evl.q_cut (M := fun σ' H' => ∃ vs, σ' = [some (.ref b), some (.ref a), some (.ref D), some (.ref S), some vn, some vs] ∧ Ke Nof H2 H' ∧ StpOk H' css says vs) ?_ ?_
    · exact ⟨_, rfl, _, rfl, .ref b, D, css, says, rfl, hbk.ke k12, hD2, sy, fun H3 p n x cs k3 hp hc hl => ⟨_, rfl, k3, .inr ⟨p, n, x, cs, rfl, hp, hc, hl⟩⟩, fun H3 k3 hl => ⟨_, rfl, k3, .inl ⟨rfl, hl⟩⟩⟩
    rintro σ' H3 ⟨vs, rfl, k3, so⟩
    -- the loop
    refine Evl.q_cut (M := fun σ' H' => ∃ (vn vs : V) (us : List V) (steps : List (Nat × Int)), σ' = [some (.ref b), some (.ref a), some (.ref D), some (.ref S), some vn, some vs] ∧ Ke Nof H H' ∧ H' S = some (.lst us) ∧ StL H' us steps ∧ StepsOk css says steps ∧ steps.length ≤ 17 ∧
      ((vn = .non ∧ Stand css (says ++ steps.map (·.2))) ∨ ∃ (n : Nat) (cs : List Int), vn = .int n ∧ css[n]? = some cs ∧ left cs (says ++ steps.map (·.2)) = [])) ?_ ?_
    · refine ⟨fun m σ H' => ∃ (vn vs : V) (us : List V) (steps : List (Nat × Int)), m = 40 - steps.length ∧ σ = [some (.ref b), some (.ref a), some (.ref D), some (.ref S), some vn, some vs] ∧ Ke Nof H H' ∧ H' D = some (.lst ((says ++ steps.map (·.2)).map V.int)) ∧ H' S = some (.lst us) ∧ StL H' us steps ∧ StepsOk css says steps ∧ Sy (says ++ steps.map (·.2)) ∧ NumOk css (says ++ steps.map (·.2)) vn ∧ StpOk H' css (says ++ steps.map (·.2)) vs, ⟨40, vn, vs, [], [], rfl, rfl, k12.trans k3, ?_, k3.lst hS2 fun z => z, ⟨rfl, fun i v s h => by simp at h⟩, .nil, ?_, ?_, ?_⟩, ?_⟩
      · rw [show says ++ ([] : List (Nat × Int)).map (·.2) = says by simp]
        exact k3.lst hD2 fun z => z
      · rw [show says ++ ([] : List (Nat × Int)).map (·.2) = says by simp]
        exact sa
      · rw [show says ++ ([] : List (Nat × Int)).map (·.2) = says by simp]
        exact no
      · rw [show says ++ ([] : List (Nat × Int)).map (·.2) = says by simp]
        exact so
      clear so no k3 k2 k12 hD2 hS2 H2 H3 vs vn hS hD k1 s1 H1
      rintro m σ H1 ⟨vn, vs, us, steps, rfl, rfl, k1, hD, hS, sl, st, sh, no, so⟩
      have l17 := sh.len
      have ls : steps.length ≤ 17 := by
        rw [List.length_append, List.length_map] at l17
        omega
      rcases no with ⟨rfl, no⟩ | ⟨n, cs, rfl, hc, hl⟩
      · refine ⟨_, rfl, rfl, _, rfl, iteT ?_⟩
        rcases so with ⟨rfl, so⟩ | ⟨p, n, x, cs, rfl, hp, hc, hf⟩
        · refine ⟨_, rfl, rfl, _, rfl, iteF ?_⟩
          exact ⟨_, _, us, steps, rfl, k1, hS, sl, st, ls, .inl ⟨rfl, fun cs hc => ⟨no cs hc, so cs hc⟩⟩⟩
        · refine ⟨_, rfl, rfl, _, rfl, iteT ?_⟩
          refine ⟨fun σ' H' => ∃ (vn vs : V) (us : List V), σ' = [some (.ref b), some (.ref a), some (.ref D), some (.ref S), some vn, some vs] ∧ Ke Nof H H' ∧ H' D = some (.lst ((says ++ (steps ++ [(n, x)]).map (·.2)).map V.int)) ∧ H' S = some (.lst us) ∧ StL H' us (steps ++ [(n, x)]) ∧ NumOk css (says ++ (steps ++ [(n, x)]).map (·.2)) vn ∧ StpOk H' css (says ++ (steps ++ [(n, x)]).map (·.2)) vs, ?_, ?_⟩
          · rintro σ' H' ⟨vn, vs, us, rfl, h1, h2, h3, h4, h5, h6⟩
            refine ⟨40 - (steps ++ [(n, x)]).length, by rw [List.length_append]; show 40 - (steps.length + 1) < _; omega, vn, vs, us, _, rfl, rfl, h1, h2, h3, h4, st.snoc hc hf, ?_, h5, h6⟩
            have := sy_snoc sh (sy cs (List.mem_of_getElem? hc)) hf
            rw [List.append_assoc] at this
            rw [List.map_append]
            exact this
          have eh : (says ++ (steps ++ [(n, x)]).map (·.2)) = (says ++ steps.map (·.2)) ++ [x] := by
            rw [List.map_append, ← List.append_assoc]
            rfl
          rw [eh]
          -- steps.append(step)
          refine Evl.q_cut (M := fun σ' H' => σ' = [some (.ref b), some (.ref a), some (.ref D), some (.ref S), some .non, some (.ref p)] ∧ Ke Nof H H' ∧ H' D = some (.lst ((says ++ steps.map (·.2)).map V.int)) ∧ H' S = some (.lst (us ++ [.ref p])) ∧ StL H' (us ++ [.ref p]) (steps ++ [(n, x)]) ∧ H' p = some (.tup [.int (n : Nat), .int x])) ?_ ?_
          · refine ⟨_, rfl, .inl ⟨rfl, _, .of hS⟩, _, rfl, S, _, _, rfl, rfl, hS, small1000 (by rw [sl.1]; omega), rfl, k1.write frS hS, by rw [upd_ne (Ne.symm nSD)]; exact hD, upd_same, (sl.snoc hp).tups (upd_tup hS), upd_tup hS _ _ hp⟩
          clear hp hS hD k1 sl
          rintro σ' H2 ⟨rfl, k2, hD, hS, sl, hp⟩
          -- held.append(step[1])
          refine Evl.q_cut (M := fun σ' H' => σ' = [some (.ref b), some (.ref a), some (.ref D), some (.ref S), some .non, some (.ref p)] ∧ Ke Nof H H' ∧ H' D = some (.lst (((says ++ steps.map (·.2)) ++ [x]).map V.int)) ∧ H' S = some (.lst (us ++ [.ref p])) ∧ StL H' (us ++ [.ref p]) (steps ++ [(n, x)])) ?_ ?_
          · refine ⟨_, rfl, .inl ⟨rfl, _, .of hD⟩, _, rfl, p, _, 1, .int x, rfl, rfl, .of hp, rfl, D, _, _, rfl, rfl, hD, small1000 (by rw [List.length_map]; omega), rfl, k2.write frD hD, by rw [upd_same]; simp, by rw [upd_ne nSD]; exact hS, sl.tups (upd_tup hD)⟩
          clear hp hS hD k2 sl
          rintro σ' H3 ⟨rfl, k3, hD, hS, sl⟩
          refine Evl.q_cut (M := fun σ' H' => ∃ vn, σ' = [some (.ref b), some (.ref a), some (.ref D), some (.ref S), some vn, some (.ref p)] ∧ Ke Nof H3 H' ∧ NumOk css ((says ++ steps.map (·.2)) ++ [x]) vn) ?_ ?_
          · exact ⟨_, rfl, _, rfl, .ref b, D, css, _, rfl, hbk.ke k3, hD, k3.tabs _ tg, fun H2 n cs k2 hc hl => ⟨_, rfl, k2, .inr ⟨n, cs, rfl, hc, hl⟩⟩, fun H2 k2 hl => ⟨_, rfl, k2, .inl ⟨rfl, hl⟩⟩⟩
          rintro σ' H4 ⟨vn, rfl, k4, no'⟩
          have k34 := k3.trans k4
          have hD4 := k4.lst hD fun z => z
          exact ⟨_, rfl, _, rfl, .ref b, D, css, _, rfl, hbk.ke k34, hD4, sy, fun H5 p n x cs k5 hp hc hl => ⟨_, _, _, rfl, k34.trans k5, k5.lst hD4 fun z => z, k5.lst (k4.lst hS fun z => z) fun z => z, (sl.tups k4.tups).tups k5.tups, no', .inr ⟨p, n, x, cs, rfl, hp, hc, hl⟩⟩,
            fun H5 k5 hl => ⟨_, _, _, rfl, k34.trans k5, k5.lst hD4 fun z => z, k5.lst (k4.lst hS fun z => z) fun z => z, (sl.tups k4.tups).tups k5.tups, no', .inl ⟨rfl, hl⟩⟩⟩
      · refine ⟨_, rfl, rfl, _, rfl, iteF ?_⟩
        exact ⟨_, _, us, steps, rfl, k1, hS, sl, st, ls, .inr ⟨n, cs, rfl, hc, hl⟩⟩
    clear so no k3 k2 k12 hD2 hS2 H2 H3 vs vn hS hD k1 s1 H1
    rintro σ' H1 ⟨vn, vs, us, steps, rfl, k1, hS, sl, st, ls, no⟩
    rcases no with ⟨rfl, sd⟩ | ⟨n, cs, rfl, hc, hl⟩
    · refine ⟨_, rfl, rfl, _, rfl, iteT ?_⟩
      exact ⟨_, rfl, by show 2 ≤ sizeLine; decide, fun p H2 np s2 hp _ => q2 H2 p S us steps (k1.trans (.same s2)) frS hp (s2 _ _ hS) (sl.tups fun b xs z => s2 _ _ z) st ls sd⟩
    · refine ⟨_, rfl, rfl, _, rfl, iteF ?_⟩
      exact ⟨_, rfl, _, rfl, by show 3 ≤ sizeLine; decide, fun p H2 np s2 hp _ => q1 H2 p S us steps n cs (k1.trans (.same s2)) frS hp (s2 _ _ hS) (sl.tups fun b xs z => s2 _ _ z) st ls hc hl⟩
end
end Fo
namespace Fo
open PySem PySem.Spec PyProof.Rows L2 GxR Nw Dr Kp Se Cl En
abbrev sWho : Stmt := topS 18
theorem scWho : FnScope ["thing"] ["thing"] (defScope sWho) := ⟨rfl, rfl, rfl, by decide +kernel, rfl, by decide +kernel, by decide +kernel⟩
abbrev sElf : Stmt := topS 21
abbrev nElf : List Str := ["claim", "held", "say"]
theorem scElf : FnScope nElf ["claim", "held"] (defScope sElf) := ⟨rfl, rfl, rfl, by decide +kernel, rfl, by decide +kernel, by decide +kernel⟩
abbrev sClo : Stmt := topS 22
theorem scClo : FnScope ["claims", "says", "held", "many", "claim", "left"] ["claims", "says"] (defScope sClo) := ⟨rfl, rfl, rfl, by decide +kernel, rfl, by decide +kernel, by decide +kernel⟩
abbrev sGon : Stmt := topS 24
theorem scGon : FnScope ["claims", "says", "steps", "held", "step"] ["claims", "says", "steps"] (defScope sGon) := ⟨rfl, rfl, rfl, by decide +kernel, rfl, by decide +kernel, by decide +kernel⟩
abbrev sIsf : Stmt := topS 25
theorem scIsf : FnScope ["claims", "says", "steps", "number", "held"] ["claims", "says", "steps", "number"] (defScope sIsf) := ⟨rfl, rfl, rfl, by decide +kernel, rfl, by decide +kernel, by decide +kernel⟩
abbrev sIss : Stmt := topS 26
theorem scIss : FnScope ["claims", "says", "steps", "held", "claim", "left"] ["claims", "says", "steps"] (defScope sIss) := ⟨rfl, rfl, rfl, by decide +kernel, rfl, by decide +kernel, by decide +kernel⟩
/-- the built-ins that stand as they stood -/
structure Zl (mg : Str → Option Value) : Prop where
  z_len : mg "len" = none
  z_list : mg "list" = none
  z_isinstance : mg "isinstance" = none
  z_int : mg "int" = none
  z_bool : mg "bool" = none
  z_tuple : mg "tuple" = none
theorem eq_nil {l : List Int} : PyData.eqv (.list (l.map PyData.int)) (.list []) = true ↔ l = [] := by
  cases l with
  | nil => exact ⟨fun _ => rfl, fun _ => rfl⟩
  | cons a r => exact ⟨fun h => absurd h (by simp [PyData.eqv, PyData.eqvAll]), fun h => nomatch h⟩
section
variable {P : Program} {w : World} {K : PySem.W.Frag} {mg : Str → Option Value} {base : Heap}
def spWho : Sp := fun vs H Q _ => ∃ k : Int, vs = [.int k] ∧ Q (.bl true) H
theorem ok_who {f : Addr} {fd : FuncData} {k : Nat} (F : Fun K "_law_e_whole" "_law_e_whole" sWho f fd) (T : Zl mg) : FnOk P w K mg base CX0 (k + 1) f fd ["thing"] spWho := by
  refine F.ok scWho (fun vs H Q E h => ?_) (fun cdv A outer s H vs Q E hr h => ?_)
  · obtain ⟨k, rfl, _⟩ := h
    rfl
  · obtain ⟨k, rfl, q⟩ := h
    refine ⟨_, (pss_one (ps_ret (pe_and (pe_callB call_isi (by rfl) T.z_isinstance (by decide +kernel) (pa_cons (pv 0) (pa_cons (pe_bltn (v := .ty "int") (u := .type "int") (by rfl) T.z_int (by decide +kernel) rfl) pa_nil))) (pe_one (pe_not (pe_callB call_isi (by rfl) T.z_isinstance (by decide +kernel) (pa_cons (pv 0) (pa_cons (pe_bltn (v := .ty "bool") (u := .type "bool") (by rfl) T.z_bool (by decide +kernel) rfl) pa_nil)))))))), ?_⟩
    refine ⟨_, rfl, .int k, .ty "int", .type "int", .type "int", true, rfl, .ty _, .base (.int k), kit_ty (by decide +kernel), _, rfl, ?_⟩
    refine ⟨_, rfl, .int k, .ty "bool", .type "int", .type "bool", false, rfl, .ty _, .base (.int k), kit_ty (by decide +kernel), _, rfl, q⟩
/-- left(claim, held) -/
def spElf : Sp := fun vs H Q _ => ∃ (v : V) (a : Addr) (cs held : List Int), vs = [v, .ref a] ∧ TupI H v cs ∧ H a = some (.lst (held.map V.int)) ∧ cs.length ≤ 20 ∧
  ∀ p H', H p = none → Same H H' → H' p = some (.lst ((left cs held).map V.int)) → Q (.ref p) H'
theorem ok_elf {f : Addr} {fd : FuncData} {k : Nat} (F : Fun K "_law_e_left" "_law_e_left" sElf f fd) : FnOk P w K mg base CX0 (k + 1) f fd ["claim", "held"] spElf := by
  refine F.ok scElf (fun vs H Q E h => ?_) (fun cdv A outer s H vs Q E hr h => ?_)
  · obtain ⟨v, a, cs, held, rfl, _⟩ := h
    rfl
  · obtain ⟨v, b, cs, held, rfl, ⟨a, rfl, ha⟩, hb, lc, q⟩ := h
    refine ⟨_, (pss_one (ps_ret (pe_lc (own := [("say", 2)]) (g := (gName 2))  rfl scElf.nd (pi_tup (pv 0)) (blkOk_by (N := nElf) (sc := defScope sElf) (by decide +kernel)) (fun _ _ _ _ _ => (pg_name (i := 2) scElf.nd rfl (.inl rfl))) (fun _ _ _ _ _ => (pts_one (pt_cmpR (op_notIn_seqB (K := K) rfl) (pe_op op_sub pe_int (pv 2)) (pv 1) (by rfl)))) (fun _ _ _ _ _ => (pv 2))))), ?_⟩
    refine ⟨_, rfl, a, rfl, ⟨_, .of ha⟩, fun D nD => ?_⟩
    refine lc_tup (xs := cs.map V.int) (Pv := fun i H' => Same H H' ∧ H' D = some (.lst (((cs.take i).filter fun s => !inV (.int (-s)) (held.map V.int)).map V.int))) ⟨same_new nD, upd_same⟩ (fun i H' _ p => .of (p.1 _ _ ha)) ?_ ?_
    · rintro i x H' hx ⟨s1, hD⟩
      obtain ⟨z, hz, rfl⟩ := at_int hx
      have ft := Sl.filter_take (f := fun s => !inV (.int (-s)) (held.map V.int)) hz
      refine ⟨rfl, _, rfl, _, _, rfl, rfl, _, rfl, b, _, rfl, .inl (.of (s1 _ _ hb)), rfl, ints_flat held, _, rfl, ite2 (fun y1 => ?_) (fun y1 => ?_)⟩
      · have y1 : (!inV (.int (0 - z)) (held.map V.int)) = true := y1
        rw [Int.zero_sub] at y1
        refine ⟨_, rfl, _, hD, ?_, fun c o y => ?_, ?_⟩
        · rw [List.length_map]
          exact small1000 (Nat.le_trans (List.length_filter_le _ _) (by rw [List.length_take]; omega))
        · rw [upd_ne (ne_of_none y nD)]
          exact s1 _ _ y
        · rw [upd_same, ft, if_pos y1, List.map_append]
          rfl
      · have y1 : ¬ (!inV (.int (0 - z)) (held.map V.int)) = true := y1
        rw [Int.zero_sub] at y1
        refine ⟨s1, ?_⟩
        rw [ft, if_neg y1, List.append_nil]
        exact hD
    · rintro H' ⟨s1, hD⟩
      rw [List.length_map, List.take_length] at hD
      exact q D H' nD s1 hD
/-- closed(claims, says) -/
def spClo : Sp := fun vs H Q _ => ∃ (v : V) (a : Addr) (css : List (List Int)) (says : List Int), vs = [v, .ref a] ∧ Bk H v css ∧ H a = some (.lst (says.map V.int)) ∧ (∀ cs ∈ css, Sy cs) ∧ Sy says ∧
  (∀ H', Ke Nof H H' → Fall css says → Q .non H') ∧ ∀ H' p, Ke Nof H H' → ¬ Fall css says → Q (.ref p) H'
theorem ok_clo {f fL : Addr} {fd fdL : FuncData} {k : Nat} (F : Fun K "_law_e_closed" "_law_e_closed" sClo f fd) (T : Zl mg) (FL : Fun K "_law_e_left" "_law_e_left" sElf fL fdL) (bL : Binds K fdL ["claim", "held"] []) (gL : mg "_law_e_left" = some (.ref fL)) (GL : FnOk P w K mg base CX0 1 fL fdL ["claim", "held"] spElf) :
    FnOk P w K mg base CX0 (k + 2) f fd ["claims", "says"] spClo := by
  refine F.ok scClo (fun vs H Q E h => ?_) (fun cdv A outer s H vs Q E hr h => ?_)
  · obtain ⟨v, a, css, says, rfl, _⟩ := h
    rfl
  · obtain ⟨v, a, css, says, rfl, ⟨b, bvs, rfl, hb, lv, hv⟩, ha, sy, sa, q1, q2⟩ := h
    have hr1 : Room 1 _ := hr.mono (by omega)
    refine ⟨_, (Evl.pss_cut (ps_set (i := 2) scClo.nd rfl (.inl rfl) (pe_callTy call_list_ofN (by rfl) T.z_list (by decide +kernel) (pa_cons (pv 1) pa_nil)))
      (Evl.pss_cut (ps_set (i := 3) scClo.nd rfl (.inl rfl) (pe_un un_neg pe_int))
      (Evl.pss_cut (ps_while PassesOwn.never (pt_cmpR op_ne (pv 3) (pe_callB call_len_seq (by rfl) T.z_len (by decide +kernel) (pa_cons (pv 2) pa_nil)) (nomark _)) (Evl.pss_cut (ps_set (i := 3) scClo.nd rfl (.inl rfl) (pe_callB call_len_seq (by rfl) T.z_len (by decide +kernel) (pa_cons (pv 2) pa_nil)))
      (pss_one (ps_for PassesOwn.never rfl (pi_tup (pv 0)) (pg_name (i := 4) scClo.nd rfl (.inl rfl)) (Evl.pss_cut (ps_set (i := 5) scClo.nd rfl (.inl rfl) (pe_call GL hr1 (by rfl) gL FL.kp bL .nil pass0 (pa_cons (pv 4) (pa_cons (pv 2) pa_nil))))
      (Evl.pss_cut (ps_if (pt_cmpR (op_eqD hr.units) (pv 5) (pe_lstN pa_nil) (nomark _)) (pss_one (ps_ret pe_non)) pss_nil)
      (pss_one (ps_if (PW.pt (pw_and (pt_cmpR op_eq (pe_callB call_len_seq (by rfl) T.z_len (by decide +kernel) (pa_cons (pv 5) pa_nil)) pe_int (nomark _)) (pw_and1 (pt_cmpR op_notIn_seq (pe_ix ix_list (pv 5) pe_int (fun _ _ => rfl)) (pv 2) (by rfl))))) (pss_one (ps_expr (pe_bm PySem.F.plainAttrs_list PySem.F.slot_list_append PySem.F.type_list_append mt_append (pv 2) (pa_cons (pe_ix ix_list (pv 5) pe_int (fun _ _ => rfl)) pa_nil)))) pss_nil))))))))
      (pss_one (ps_ret (pv 2)))))), ?_⟩
    refine Evl.q_cut (M := fun σ' H' => ∃ D, σ' = [some (.ref b), some (.ref a), some (.ref D), none, none, none] ∧ H D = none ∧ Same H H' ∧ H' D = some (.lst (says.map V.int))) ?_ ?_
    · exact ⟨_, rfl, a, _, rfl, .inl (.of ha), fun D H1 nD s1 hD _ => ⟨D, rfl, nD, s1, hD⟩⟩
    rintro σ' H1 ⟨D, rfl, nD, s1, hD⟩
    have frD : Frs H D := .of nD
    refine Evl.q_cut (M := fun σ' H' => σ' = [some (.ref b), some (.ref a), some (.ref D), some (.int (-1)), none, none] ∧ H' = H1) ?_ ?_
    · exact ⟨_, rfl, rfl, rfl⟩
    rintro σ' H1' ⟨rfl, rfl⟩
    refine Evl.q_cut (M := fun σ' H' => ∃ y3 y4 y5, σ' = [some (.ref b), some (.ref a), some (.ref D), y3, y4, y5] ∧ Ke Nof H H' ∧ ¬ Fall css says) ?_ ?_
    · refine ⟨fun m σ H' => ∃ (many : Int) (hd : List Int) (y4 y5 : Option V), m = 2 * (18 - hd.length) + (if many = hd.length then 0 else 1) ∧ σ = [some (.ref b), some (.ref a), some (.ref D), some (.int many), y4, y5] ∧ Ke Nof H H' ∧ H' D = some (.lst (hd.map V.int)) ∧ Sy hd ∧ (∀ s ∈ says, s ∈ hd) ∧ (∀ x ∈ hd, Der css says x) ∧ (many = hd.length → Stand css hd), ⟨_, -1, says, none, none, rfl, rfl, .same s1, hD, sa, fun s hs => hs, fun x hx => .base hx, fun z => by omega⟩, ?_⟩
      clear hD s1 H1'
      rintro m σ H1 ⟨many, hd, y4, y5, rfl, rfl, k1, hD, sh, sub, der, std⟩
      have l17 := sh.len
      refine ⟨_, rfl, _, rfl, D, _, rfl, .inl (.of hD), rfl, _, rfl, ite2 (fun e => ?_) (fun e => ?_)⟩
      · have ne : many ≠ hd.length := fun z => by
          rw [z, List.length_map] at e
          simp at e
        refine ⟨fun σ' H' => ∃ (hd' : List Int) (y4 y5 : Option V), σ' = [some (.ref b), some (.ref a), some (.ref D), some (.int (hd.length : Nat)), y4, y5] ∧ Ke Nof H H' ∧ H' D = some (.lst (hd'.map V.int)) ∧ Sy hd' ∧ (∀ s ∈ says, s ∈ hd') ∧ (∀ x ∈ hd', Der css says x) ∧ hd.length ≤ hd'.length ∧ (hd'.length = hd.length → Stand css hd'), ?_, ?_⟩
        · rintro σ' H' ⟨hd', z4, z5, rfl, h1, h2, h3, h4, h5, h6, h7⟩
          have l17' := h3.len
          refine ⟨_, ?_, (hd.length : Nat), hd', z4, z5, rfl, rfl, h1, h2, h3, h4, h5, fun z => h7 (by omega)⟩
          rw [if_neg ne]
          split <;> omega
        -- many = len(held)
        refine Evl.q_cut (M := fun σ' H' => σ' = [some (.ref b), some (.ref a), some (.ref D), some (.int (hd.length : Nat)), y4, y5] ∧ H' = H1) ?_ ?_
        · exact ⟨_, rfl, D, _, rfl, .inl (.of hD), by rw [List.length_map]; exact ⟨rfl, rfl⟩⟩
        rintro σ' H1' ⟨rfl, rfl⟩
        have hb1 := k1.tups _ _ hb
        refine ⟨_, rfl, b, rfl, ⟨_, .of hb1⟩, for_tup (K := K) (a := b) (xs := bvs) (Pv := fun i σ H' => ∃ (hd' : List Int) (y4 y5 : Option V), σ = [some (.ref b), some (.ref a), some (.ref D), some (.int (hd.length : Nat)), y4, y5] ∧ Ke Nof H H' ∧ H' D = some (.lst (hd'.map V.int)) ∧ Sy hd' ∧ (∀ s ∈ says, s ∈ hd') ∧ (∀ x ∈ hd', Der css says x) ∧ hd.length ≤ hd'.length ∧ (hd'.length = hd.length → ∀ cs ∈ css.take i, left cs hd' ≠ [] ∧ ∀ x, ¬ Forces cs hd' x)) ?_ (fun i σ H' _ p => ?_) ?_ ?_⟩
        · exact ⟨hd, y4, y5, rfl, k1, hD, sh, sub, der, Nat.le_refl _, fun _ cs hc => by simp at hc⟩
        · obtain ⟨_, _, _, _, k2, _⟩ := p
          exact .of (k2.tups _ _ hb)
        · rintro i x σ H2 hx ⟨hd', z4, z5, rfl, k2, hD2, sh2, sub2, der2, le2, std2⟩
          obtain ⟨cs, hc, tx⟩ := bk_at (a := b) lv hv hx
          have hcm := List.mem_of_getElem? hc
          have lcs := (sy cs hcm).len
          -- left
          refine Evl.q_cut (M := fun σ' H' => ∃ L, σ' = [some (.ref b), some (.ref a), some (.ref D), some (.int (hd.length : Nat)), some x, some (.ref L)] ∧ Same H2 H' ∧ H' L = some (.lst ((left cs hd').map V.int))) ?_ ?_
          · exact ⟨_, rfl, _, rfl, x, D, cs, hd', rfl, tx.ke k2, hD2, by omega, fun L H3 nL s3 hL => ⟨L, rfl, s3, hL⟩⟩
          rintro σ' H3 ⟨L, rfl, s3, hL⟩
          -- if left == []
          refine Evl.q_cut (M := fun σ' H' => σ' = [some (.ref b), some (.ref a), some (.ref D), some (.int (hd.length : Nat)), some x, some (.ref L)] ∧ Same H3 H' ∧ left cs hd' ≠ []) ?_ ?_
          · refine ⟨_, rfl, Nat.zero_le _, fun p5 H5 np5 s5 hp5 _ => ?_⟩
            refine ⟨_, _, .lst (.of (s5 _ _ hL)) (dp_ints _), .lst (.of hp5) .nil, shaped_list (flat_ints _), shaped_list rfl, _, rfl, ite2 (fun e => ?_) (fun e => ?_)⟩
            · exact q1 H5 (k2.trans (.same (s3.trans s5))) (fall_of der2 hcm (eq_nil.mp e))
            · exact ⟨rfl, s5, fun z => e (eq_nil.mpr z)⟩
          rintro σ' H4 ⟨rfl, s4, nl⟩
          have s34 := s3.trans s4
          have k4 : Ke Nof H H4 := k2.trans (.same s34)
          have hD4 := s34 _ _ hD2
          have hL4 := s4 _ _ hL
          have tk : ∀ cs', cs' ∈ css.take (i + 1) → cs' ∈ css.take i ∨ cs' = cs := fun cs' h' => by
            rw [List.take_add_one, hc] at h'
            rcases List.mem_append.mp h' with y | y
            · exact .inl y
            · exact .inr (by simpa using y)
          -- if len(left) == 1 and ..
          refine ⟨_, rfl, L, _, rfl, .inl (.of hL4), rfl, _, rfl, ite2 (fun e => ?_) (fun e => ?_)⟩
          · have l1 : (left cs hd').length = 1 := by
              have := V.int.inj (of_decide_eq_true e)
              rw [List.length_map] at this
              omega
            obtain ⟨y, hy⟩ := List.length_eq_one_iff.mp l1
            rw [hy] at hL4
            refine ⟨_, rfl, L, _, 0, .int y, rfl, rfl, .of hL4, rfl, _, rfl, D, _, rfl, .inl (.of hD4), rfl, ints_flat hd', _, rfl, ite2 (fun e2 => ?_) (fun e2 => ?_)⟩
            · have e2 : (!inV (.int y) (hd'.map V.int)) = true := e2
              have fo : Forces cs hd' y := ⟨hy, fun z => by
                rw [(in_ints _ _).mpr z] at e2
                cases e2⟩
              have l17' := sh2.len
              refine ⟨_, rfl, .inl ⟨rfl, _, .of hD4⟩, _, rfl, L, _, 0, .int y, rfl, rfl, .of hL4, rfl, D, _, _, rfl, rfl, hD4, small1000 (by rw [List.length_map]; omega), ?_⟩
              refine ⟨hd' ++ [y], _, _, rfl, k4.write frD hD4, by rw [upd_same]; simp, sy_snoc sh2 (sy cs hcm) fo, fun s hs => List.mem_append_left _ (sub2 s hs), fun z hz => ?_, by rw [List.length_append]; omega, fun z => ?_⟩
              · rcases List.mem_append.mp hz with u | u
                · exact der2 z u
                · rw [List.mem_singleton.mp u]
                  exact der_of der2 hcm fo
              · rw [List.length_append, List.length_singleton] at z
                omega
            · have e2 : ¬ (!inV (.int y) (hd'.map V.int)) = true := e2
              refine ⟨hd', _, _, rfl, k4, hD4, sh2, sub2, der2, le2, fun z cs' h' => ?_⟩
              rcases tk cs' h' with u | rfl
              · exact std2 z cs' u
              · refine ⟨nl, fun x' ⟨h1, h2⟩ => ?_⟩
                rw [hy] at h1
                cases h1
                cases z : inV (.int y) (hd'.map V.int) with
                | true => exact h2 ((in_ints _ _).mp z)
                | false =>
                  rw [z] at e2
                  exact e2 rfl
          · refine ⟨hd', _, _, rfl, k4, hD4, sh2, sub2, der2, le2, fun z cs' h' => ?_⟩
            rcases tk cs' h' with u | rfl
            · exact std2 z cs' u
            · refine ⟨nl, fun x' ⟨h1, h2⟩ => ?_⟩
              rw [h1] at e
              exact e rfl
        · rintro σ H2 ⟨hd', z4, z5, rfl, k2, hD2, sh2, sub2, der2, le2, std2⟩
          rw [lv, List.take_length] at std2
          exact ⟨hd', z4, z5, rfl, k2, hD2, sh2, sub2, der2, le2, std2⟩
      · have em : many = hd.length := by
          have e : ¬ (!decide (V.int many = V.int ((hd.map V.int).length : Nat))) = true := e
          rw [List.length_map] at e
          exact Classical.byContradiction fun z => e (by rw [decide_eq_false fun u => z (V.int.inj u)]; rfl)
        exact ⟨_, _, _, rfl, k1, (std em).no (fun cs hc => (sy cs hc).nd) sub⟩
    rintro σ' H2 ⟨y3, y4, y5, rfl, k2, nf⟩
    exact ⟨_, rfl, q2 H2 D k2 nf⟩
end
end Fo
namespace Fo
open PySem L2
theorem bl_t {b : Bool} (h : b = true) : V.bl b = V.bl true := by rw [h]
theorem bl_f {b : Bool} (h : b = false) : V.bl b = V.bl false := by rw [h]
end Fo
namespace L2
open PySem PySem.Spec PyProof.Rows
theorem pe_bmB {X : Cx} {K : PySem.W.Frag} {T : String} {name : Str} {id : String} {r : V → List V → Hp → VK → Prop} {o e : Expr} {es : List Expr} {to : TE} {t : TA} {apos cpos : Pos} (hK : X.K = K) (pa : PlainAttrs T) (slot : Slot T name id) (hty : typeOf (.builtin id) = pure (.type "method_descriptor")) (hm : MtR X id r) (ho : PE X o to) (ha : PA X (e :: es) t)
    (hbase : attributeBase o name X.env (eval o X.env) = eval o X.env := by rfl)
    (hfew : ((backTo cpos (starEach (e :: es) X.env)).all (fun x => !x.1) && (backToKw cpos (keywordEach [] X.env)).all (fun x => x.1.isSome)
      && decide ((e :: es).length + ([] : List Keyword).length + (if ([] : List Keyword).isEmpty then 0 else 1) < 30)) = true := by rfl)
    (hline : (apos.endLine == cpos.line) = true := by rfl) (hs : starEach (e :: es) X.env = (false, eval e X.env) :: starEach es X.env := by rfl) (hplain : (backTo cpos (starEach es X.env)).any (·.1) = false := by rfl) :
    PE X (.Call (.Attribute o name apos) (e :: es) [] cpos) (tBM K T r to t) := by
  subst hK
  exact pe_bm pa slot hty hm ho ha hbase hfew hline hs hplain
end L2
namespace Nw
open PySem PySem.Spec PyProof.Rows L2
theorem call_tuple_ofNB {X : Cx} {K : PySem.W.Frag} (h : X.K = K) : CallR X (.type "tuple") (fun xs H Q => ∃ p ys, xs = [.ref p] ∧ SqL K H p ys ∧ New H (.tup ys) Q) := by subst h; exact call_tuple_ofN
theorem cr_sortedNB {X : Cx} {K : PySem.W.Frag} (h : X.K = K) : CallR X (.builtin "sorted") (fun vs H Q => ∃ (a : Addr) (ns : List Int), vs = [V.ref a] ∧ SqL K H a (ns.map V.int) ∧ ∀ ns' : List Int, ns'.Perm ns → ns'.Pairwise (· ≤ ·) → New H (.lst (ns'.map V.int)) Q) := by subst h; exact cr_sortedN
end Nw
namespace Fd
open PySem PySem.Spec PyProof.Rows L2 GxR Nw Dr Kp Se Cl En Fo
theorem _root_.Kp.Ke.upd' {F : Addr → Prop} {H H1 : Hp} {p : Addr} {o : HO} (k : Ke F H H1) (fr : Frs H p) (n : H1 p = none) : Ke F H (L2.upd H1 p o) := k.trans (.same (same_new n))
theorem perm_popV {α : Type} : ∀ {l : List α} {d : Nat} {y : α}, l[d]? = some y → (y :: l.eraseIdx d).Perm l
  | [], _, _, h => by simp at h
  | a :: r, 0, y, h => by
    have e : a = y := Option.some.inj h
    subst e
    exact .refl _
  | a :: r, d + 1, y, h => by
    have ih := perm_popV (l := r) (d := d) (y := y) h
    exact (List.Perm.swap a y _).trans (.cons a ih)
/-- each of the values is a claim -/
def GoodL (H : Hp) (vs : List V) : Prop := ∀ v ∈ vs, ∃ cs, TupI H v cs ∧ Sy cs
theorem GoodL.tups {H H' : Hp} {vs : List V} (h : GoodL H vs) (k : ∀ b xs, H b = some (.tup xs) → H' b = some (.tup xs)) : GoodL H' vs := fun v hv => by
  obtain ⟨cs, ⟨a, e, ha⟩, sy⟩ := h v hv
  exact ⟨cs, ⟨a, e, k _ _ ha⟩, sy⟩
theorem good_css {H : Hp} : ∀ {vs : List V}, GoodL H vs → ∃ css : List (List Int), vs.length = css.length ∧ (∀ (i : Nat) (x : V) (cs : List Int), vs[i]? = some x → css[i]? = some cs → TupI H x cs) ∧ ∀ cs ∈ css, Sy cs
  | [], _ => ⟨[], rfl, fun i x cs h => by simp at h, fun cs h => nomatch h⟩
  | v :: r, h => by
    obtain ⟨css, l, t, s⟩ := good_css (vs := r) fun u hu => h u (List.mem_cons_of_mem _ hu)
    obtain ⟨cs, tv, sv⟩ := h v List.mem_cons_self
    refine ⟨cs :: css, by rw [List.length_cons, List.length_cons, l], fun i x ds h1 h2 => ?_, fun ds hd => ?_⟩
    · cases i with
      | zero =>
        cases h1
        cases h2
        exact tv
      | succ i => exact t i x ds h1 h2
    · rcases List.mem_cons.mp hd with e | e
      · rw [e]
        exact sv
      · exact s ds e
theorem good_of {H : Hp} {vs : List V} {css : List (List Int)} (l : vs.length = css.length) (h : ∀ (i : Nat) (x : V) (cs : List Int), vs[i]? = some x → css[i]? = some cs → TupI H x cs) (s : ∀ cs ∈ css, Sy cs) : GoodL H vs := fun v hv => by
  obtain ⟨i, hi, e⟩ := List.getElem_of_mem hv
  have h2 := List.getElem?_eq_getElem (show i < css.length by omega)
  exact ⟨_, h i v _ (by rw [List.getElem?_eq_getElem hi, e]) h2, s _ (List.getElem_mem _)⟩
theorem sy_perm {ns ms : List Int} (p : ns.Perm ms) (h : Sy ms) : Sy ns := ⟨p.nodup_iff.mpr h.nd, fun s hs => h.bd s (p.mem_iff.mp hs)⟩
/-- eight says of eight things -/
structure Od (ord : List Int) : Prop where
  len : ord.length = 8
  nd : (ord.map fun s => (s.natAbs : Int)).Nodup
  bd : ∀ s ∈ ord, 1 ≤ (s.natAbs : Int) ∧ (s.natAbs : Int) ≤ 8
theorem Od.two {ord : List Int} (h : Od ord) {i j : Nat} {a b : Int} (hi : ord[i]? = some a) (hj : ord[j]? = some b) (ne : i ≠ j) : a.natAbs ≠ b.natAbs := fun e => ne (by
  have li := (List.getElem?_eq_some_iff.mp hi).1
  have lj := (List.getElem?_eq_some_iff.mp hj).1
  have z : (ord.map fun s => (s.natAbs : Int))[i]'(by rw [List.length_map]; exact li) = (ord.map fun s => (s.natAbs : Int))[j]'(by rw [List.length_map]; exact lj) := by
    rw [List.getElem_map, List.getElem_map, (List.getElem?_eq_some_iff.mp hi).2, (List.getElem?_eq_some_iff.mp hj).2, e]
  exact (List.getElem_inj h.nd).mp z)
theorem sy_two {x y : Int} (h : x ≠ y) (hx : -8 ≤ x ∧ x ≤ 8) (hy : -8 ≤ y ∧ y ≤ 8) : Sy [x, y] := by
  refine ⟨List.nodup_cons.mpr ⟨fun z => h (List.mem_singleton.mp z), by simp⟩, fun s hs => ?_⟩
  rcases List.mem_cons.mp hs with e | e
  · rw [e]
    exact hx
  · rw [List.mem_singleton.mp e]
    exact hy
theorem sy_one {x : Int} (hx : -8 ≤ x ∧ x ≤ 8) : Sy [x] := ⟨by simp, fun s hs => by rw [List.mem_singleton.mp hs]; exact hx⟩
theorem small1000' {n : Nat} (h : n ≤ 1000) : n ≤ sizeLine := Nat.le_trans h (by decide)
theorem cut_to (xs : List V) (n : Nat) : cutV xs none (some (n : Int)) = xs.take n := by
  unfold cutV
  rw [HT.sIx_none, HT.sIx_nat, List.drop_zero, Nat.sub_zero]
  by_cases h : n ≤ xs.length
  · rw [Nat.min_eq_left h]
  · rw [Nat.min_eq_right (by omega), List.take_length, List.take_of_length_le (by omega)]
end Fd
namespace Fd
open PySem PySem.Spec PyProof.Rows L2 GxR Nw Dr Kp Se Cl En Fo
abbrev sMny : Stmt := topS 27
abbrev nMny : List Str := ["pen", "order", "claims", "most", "things", "says", "turn", "thing", "k", "one", "claim"]
theorem scMny : FnScope nMny ["pen"] (defScope sMny) := ⟨rfl, rfl, rfl, by decide +kernel, rfl, by decide +kernel, by decide +kernel⟩
section
variable {P : Program} {w : World} {K : PySem.W.Frag} {mg : Str → Option Value} {base : Heap} {fD fB : Addr} {fdD fdB : FuncData}
/-- many(pen): claims and says -/
def spMny : Sp := fun vs H Q _ => ∃ (f c : Addr) (B : Nat), vs = [.ref f] ∧ Feed H f c B ∧ B ≤ 2 ^ 25 ∧
  ∀ p T S css says H', Feed H' f c (B + 2000) → Ke (· = f) H H' → H' p = some (.tup [.ref T, .ref S]) → Bk H' (.ref T) css → H' S = some (.lst (says.map V.int)) → (∀ cs ∈ css, Sy cs) → Sy says → css.length ≤ 40 → Q (.ref p) H'
theorem ok_mny {f : Addr} {fd : FuncData} {k : Nat} (F : Fun K "_law_e_many" "_law_e_many" sMny f fd) (T : Zs mg) (FD : Fun K "_law_e_take" "_law_e_take" sDrw fD fdD) (bD : Binds K fdD ["pen", "many"] []) (gD : mg "_law_e_take" = some (.ref fD)) (GD : FnOk P w K mg base CX0 2 fD fdD ["pen", "many"] spDrw)
    (FB : Fun K "_law_e_book" "_law_e_book" sBok fB fdB) (bB : Binds K fdB ["pen", "most"] []) (gB : mg "_law_e_book" = some (.ref fB)) (GB : FnOk P w K mg base CX0 4 fB fdB ["pen", "most"] spBok) :
    FnOk P w K mg base CX0 (k + 5) f fd ["pen"] spMny := by
  refine F.ok scMny (fun vs H Q E h => ?_) (fun cdv A outer s H vs Q E hr h => ?_)
  · obtain ⟨f, c, B, rfl, _⟩ := h
    rfl
  · obtain ⟨f, c, B, rfl, hF, hB, q⟩ := h
    have hr2 : Room 2 _ := hr.mono (by omega)
    have hr4 : Room 4 _ := hr.mono (by omega)
    refine ⟨_, (Evl.pss_cut (ps_if (pt_cmpR op_eq (pe_call GD hr2 (by rfl) gD FD.kp bD .nil pass0 (pa_cons (pv 0) (pa_cons pe_int pa_nil))) pe_int (nomark _)) (Evl.pss_cut (ps_set (i := 1) scMny.nd rfl (.inr rfl) (pe_listRgN rfl (by rfl) T.z_list (prg_2 (by rfl) T.z_range pe_int pe_int)))
      (Evl.pss_cut (ps_set (i := 1) scMny.nd rfl (.inr rfl) (pe_lc (own := [("k", 8)]) (g := (gName 8)) (tt := tYes) rfl scMny.nd (pi_range1 (by rfl) T.z_range (pa_cons pe_int pa_nil)) (blkOk_by (N := nMny) (sc := defScope sMny) (by decide +kernel)) (fun _ _ _ _ _ => (pg_name (i := 8) scMny.nd rfl (.inl rfl))) (fun _ _ _ _ _ => pts_nil) (fun _ _ _ _ _ => (pe_bmB (K := K) rfl PySem.F.plainAttrs_list PySem.F.slot_list_pop PySem.F.type_list_pop mt_popAt (pv 1) (pa_cons (pe_call GD hr2 (by rfl) gD FD.kp bD .nil pass0 (pa_cons (pv 0) (pa_cons (pe_callB (call_len_seqB (K := K) rfl) (by rfl) T.z_len (by decide +kernel) (pa_cons (pv 1) pa_nil)) pa_nil))) pa_nil)))))
      (Evl.pss_cut (ps_set (i := 1) scMny.nd rfl (.inr rfl) (pe_lc (own := [("one", 9)]) (g := (gName 9)) (tt := tYes) rfl scMny.nd (pi_list (pv 1)) (blkOk_by (N := nMny) (sc := defScope sMny) (by decide +kernel)) (fun _ _ _ _ _ => (pg_name (i := 9) scMny.nd rfl (.inl rfl))) (fun _ _ _ _ _ => pts_nil) (fun _ _ _ _ _ => (pe_ix (ix_listB (K := K) rfl) (pe_lstN (pa_cons (pv 9) (pa_cons (pe_op op_sub pe_int (pv 9)) pa_nil))) (pe_call GD hr2 (by rfl) gD FD.kp bD .nil pass0 (pa_cons (pv 0) (pa_cons pe_int pa_nil))) (fun _ _ => rfl)))))
      (Evl.pss_cut (ps_set (i := 2) scMny.nd rfl (.inr rfl) (pe_lc (own := [("k", 8)]) (g := (gName 8)) (tt := tYes) rfl scMny.nd (pi_range1 (by rfl) T.z_range (pa_cons pe_int pa_nil)) (blkOk_by (N := nMny) (sc := defScope sMny) (by decide +kernel)) (fun _ _ _ _ _ => (pg_name (i := 8) scMny.nd rfl (.inl rfl))) (fun _ _ _ _ _ => pts_nil) (fun _ _ _ _ _ => (pe_callTy (call_tuple_ofNB (K := K) rfl) (by rfl) T.z_tuple (by decide +kernel) (pa_cons (pe_callB (cr_sortedNB (K := K) rfl) (by rfl) T.z_sorted (by decide +kernel) (pa_cons (pe_lstN (pa_cons (pe_op op_sub pe_int (pe_ix (ix_listB (K := K) rfl) (pv 1) (pv 8) (fun _ _ => rfl))) (pa_cons (pe_ix (ix_listB (K := K) rfl) (pv 1) (pe_op op_add (pv 8) pe_int) (fun _ _ => rfl)) pa_nil))) pa_nil)) pa_nil)))))
      (Evl.pss_cut (ps_expr (pe_bm PySem.F.plainAttrs_list PySem.F.slot_list_append PySem.F.type_list_append mt_append (pv 2) (pa_cons (pe_ix ix_list (pe_lstN (pa_cons (pe_callTy call_tuple_ofN (by rfl) T.z_tuple (by decide +kernel) (pa_cons (pe_callB cr_sortedN (by rfl) T.z_sorted (by decide +kernel) (pa_cons (pe_lstN (pa_cons (pe_op op_sub pe_int (pe_ix ix_list (pv 1) pe_int (fun _ _ => rfl))) (pa_cons (pe_op op_sub pe_int (pe_ix ix_list (pv 1) pe_int (fun _ _ => rfl))) pa_nil))) pa_nil)) pa_nil)) (pa_cons (pe_tupN (pa_cons (pe_op op_sub pe_int (pe_ix ix_list (pv 1) pe_int (fun _ _ => rfl))) pa_nil)) pa_nil))) (pe_call GD hr2 (by rfl) gD FD.kp bD .nil pass0 (pa_cons (pv 0) (pa_cons pe_int pa_nil))) (fun _ _ => rfl)) pa_nil)))
      (Evl.pss_cut (ps_set (i := 2) scMny.nd rfl (.inr rfl) (pe_slice sl_listN (pv 2) po_none (po_some (pe_op op_sub pe_int (pe_call GD hr2 (by rfl) gD FD.kp bD .nil pass0 (pa_cons (pv 0) (pa_cons pe_int pa_nil)))))))
      (Evl.pss_cut (ps_set (i := 2) scMny.nd rfl (.inr rfl) (pe_lc (own := [("k", 8)]) (g := (gName 8)) (tt := tYes) rfl scMny.nd (pi_range1 (by rfl) T.z_range (pa_cons (pe_callB call_len_seq (by rfl) T.z_len (by decide +kernel) (pa_cons (pv 2) pa_nil)) pa_nil)) (blkOk_by (N := nMny) (sc := defScope sMny) (by decide +kernel)) (fun _ _ _ _ _ => (pg_name (i := 8) scMny.nd rfl (.inl rfl))) (fun _ _ _ _ _ => pts_nil) (fun _ _ _ _ _ => (pe_bmB (K := K) rfl PySem.F.plainAttrs_list PySem.F.slot_list_pop PySem.F.type_list_pop mt_popAt (pv 2) (pa_cons (pe_call GD hr2 (by rfl) gD FD.kp bD .nil pass0 (pa_cons (pv 0) (pa_cons (pe_callB (call_len_seqB (K := K) rfl) (by rfl) T.z_len (by decide +kernel) (pa_cons (pv 2) pa_nil)) pa_nil))) pa_nil)))))
      (pss_one (ps_ret (pe_tupN (pa_cons (pe_callTy call_tuple_ofN (by rfl) T.z_tuple (by decide +kernel) (pa_cons (pv 2) pa_nil)) (pa_cons (pe_slice sl_listN (pv 1) po_none (po_some pe_int)) pa_nil)))))))))))) pss_nil)
      (Evl.pss_cut (ps_set (i := 3) scMny.nd rfl (.inl rfl) (pe_ix ix_list (pe_lstN (pa_cons pe_int (pa_cons pe_int (pa_cons pe_int pa_nil)))) (pe_call GD hr2 (by rfl) gD FD.kp bD .nil pass0 (pa_cons (pv 0) (pa_cons pe_int pa_nil))) (fun _ _ => rfl)))
      (Evl.pss_cut (ps_set (i := 2) scMny.nd rfl (.inr rfl) (pe_op op_catTN (pe_call GB hr4 (by rfl) gB FB.kp bB .nil pass0 (pa_cons (pv 0) (pa_cons (pv 3) pa_nil))) (pe_call GB hr4 (by rfl) gB FB.kp bB .nil pass0 (pa_cons (pv 0) (pa_cons (pv 3) pa_nil)))))
      (Evl.pss_cut (ps_set (i := 2) scMny.nd rfl (.inr rfl) (pe_slice sl_tupN (pe_op op_catTN (pv 2) (pe_call GB hr4 (by rfl) gB FB.kp bB .nil pass0 (pa_cons (pv 0) (pa_cons (pv 3) pa_nil)))) po_none (po_some pe_int)))
      (Evl.pss_cut (ps_if (pt_cmpR op_gt (pe_call GD hr2 (by rfl) gD FD.kp bD .nil pass0 (pa_cons (pv 0) (pa_cons pe_int pa_nil))) pe_int (nomark _)) (pss_one (ps_set (i := 2) scMny.nd rfl (.inr rfl) (pe_callTy call_tuple_ofN (by rfl) T.z_tuple (by decide +kernel) (pa_cons (pe_lc (own := [("claim", 10)]) (g := (gName 10))  rfl scMny.nd (pi_tup (pv 2)) (blkOk_by (N := nMny) (sc := defScope sMny) (by decide +kernel)) (fun _ _ _ _ _ => (pg_name (i := 10) scMny.nd rfl (.inl rfl))) (fun _ _ _ _ _ => (pts_one (pt_cmpR op_gt (pe_callB (call_len_seqB (K := K) rfl) (by rfl) T.z_len (by decide +kernel) (pa_cons (pv 10) pa_nil)) pe_int (nomark _)))) (fun _ _ _ _ _ => (pv 10))) pa_nil)))) pss_nil)
      (Evl.pss_cut (ps_set (i := 4) scMny.nd rfl (.inl rfl) (pe_listRgN rfl (by rfl) T.z_list (prg_2 (by rfl) T.z_range pe_int pe_int)))
      (Evl.pss_cut (ps_set (i := 5) scMny.nd rfl (.inl rfl) (pe_lstN pa_nil))
      (Evl.pss_cut (ps_for PassesOwn.never rfl (pi_range1 (by rfl) T.z_range (pa_cons (pe_call GD hr2 (by rfl) gD FD.kp bD .nil pass0 (pa_cons (pv 0) (pa_cons pe_int pa_nil))) pa_nil)) (pg_name (i := 6) scMny.nd rfl (.inl rfl)) (Evl.pss_cut (ps_set (i := 7) scMny.nd rfl (.inl rfl) (pe_bm PySem.F.plainAttrs_list PySem.F.slot_list_pop PySem.F.type_list_pop mt_popAt (pv 4) (pa_cons (pe_call GD hr2 (by rfl) gD FD.kp bD .nil pass0 (pa_cons (pv 0) (pa_cons (pe_callB call_len_seq (by rfl) T.z_len (by decide +kernel) (pa_cons (pv 4) pa_nil)) pa_nil))) pa_nil)))
      (pss_one (ps_expr (pe_bm PySem.F.plainAttrs_list PySem.F.slot_list_append PySem.F.type_list_append mt_append (pv 5) (pa_cons (pe_ix ix_list (pe_lstN (pa_cons (pv 7) (pa_cons (pe_op op_sub pe_int (pv 7)) pa_nil))) (pe_call GD hr2 (by rfl) gD FD.kp bD .nil pass0 (pa_cons (pv 0) (pa_cons pe_int pa_nil))) (fun _ _ => rfl)) pa_nil))))))
      (pss_one (ps_ret (pe_tupN (pa_cons (pv 2) (pa_cons (pv 5) pa_nil))))))))))))), ?_⟩
    refine Evl.q_cut (M := fun σ' H' => σ' = [some (.ref f), none, none, none, none, none, none, none, none, none, none] ∧ Feed H' f c (B + 1) ∧ Ke (· = f) H H') ?_ ?_
    · refine ⟨_, rfl, f, c, 4, B, rfl, by decide, by decide, hF, by omega, fun d H1 d0 d1 F1 k1 => ⟨rfl, _, rfl, ite2 (fun e => ?_) (fun e => ?_)⟩⟩
      rotate_left
      · exact ⟨rfl, F1, k1⟩
      -- order = list(range(1, 9))
      refine Evl.q_cut (M := fun σ' H' => ∃ L, σ' = [some (.ref f), some (.ref L), none, none, none, none, none, none, none, none, none] ∧ H1 L = none ∧ Same H1 H' ∧ H' L = some (.lst (([1, 2, 3, 4, 5, 6, 7, 8] : List Int).map V.int))) ?_ ?_
      · exact ⟨1, 9, rfl, rfl, .of_le (by omega) (by omega) (by omega) (by omega), fun L H2 nL s2 hL _ => ⟨L, rfl, nL, s2, hL⟩⟩
      rintro σ' H2 ⟨L, rfl, nL, s2, hL⟩
      have F2 := F1.same s2
      have frL : Frs H L := .ke k1 F1 (.of nL)
      have k2 : Ke (· = f) H H2 := k1.trans (.same s2)
      have nLf : L ≠ f := F1.nf nL
      have nLc : L ≠ c := F1.nc nL
      -- order drawn
      refine Evl.q_cut (M := fun σ' H' => ∃ (D : Addr) (out : List Int), σ' = [some (.ref f), some (.ref D), none, none, none, none, none, none, none, none, none] ∧ Feed H' f c (B + 9) ∧ Ke (· = f) H H' ∧ H' D = some (.lst (out.map V.int)) ∧ out.Perm ([1, 2, 3, 4, 5, 6, 7, 8] : List Int)) ?_ ?_
      · refine ⟨8, rfl, by decide, by decide, fun D nD => ?_⟩
        have frD : Frs H D := .ke k2 F2 (.of nD)
        have nDL : D ≠ L := Ne.symm (ne_of_none hL nD)
        have nDf : D ≠ f := F2.nf nD
        have nDc : D ≠ c := F2.nc nD
        refine lc_range (n := 8) (Pv := fun i H' => ∃ lf out : List Int, Feed H' f c (B + 1 + i) ∧ Ke (· = f) H H' ∧ H' L = some (.lst (lf.map V.int)) ∧ H' D = some (.lst (out.map V.int)) ∧ lf.length = 8 - i ∧ out.length = i ∧ (out ++ lf).Perm ([1, 2, 3, 4, 5, 6, 7, 8] : List Int)) ?_ ?_ ?_
        · exact ⟨_, [], F2.upd nDf nDc, k2.upd' frD nD, by rw [upd_ne (Ne.symm nDL)]; exact hL, upd_same, rfl, rfl, .refl _⟩
        · rintro i H3 hi ⟨lf, out, F3, k3, hL3, hD3, ll, lo, pm⟩
          refine ⟨rfl, _, rfl, .inl ⟨rfl, _, .of hL3⟩, _, rfl, _, rfl, L, _, rfl, .inl (.of hL3), f, c, _, B + 1 + i, rfl, ?_, ?_, F3, by omega, fun e H5 e0 e1 F5 b5 => ?_⟩
          · rw [List.length_map]
            omega
          · rw [List.length_map]
            omega
          rw [List.length_map] at e1
          have dl : e.toNat < lf.length := by omega
          have hL5 : H5 L = some (.lst (lf.map V.int)) := b5.lst hL3 nLf
          have hD5 : H5 D = some (.lst (out.map V.int)) := b5.lst hD3 nDf
          have k5 : Ke (· = f) H H5 := k3.trans b5
          refine ⟨L, _, e, e.toNat, .int lf[e.toNat], rfl, rfl, hL5, by omega, by omega, by rw [List.length_map]; exact ix_seq e0 e1, by rw [List.getElem?_map, List.getElem?_eq_getElem dl]; rfl, ?_⟩
          have hD6 : (upd H5 L (.lst ((lf.map V.int).eraseIdx e.toNat))) D = some (.lst (out.map V.int)) := by rw [upd_ne nDL]; exact hD5
          refine ⟨_, hD6, by rw [List.length_map]; exact small1000 (by omega), lf.eraseIdx e.toNat, out ++ [lf[e.toNat]], ((F5.upd nLf nLc).upd nDf nDc).mono (by omega), (k5.write frL hL5).write frD hD6, ?_, ?_, ?_, ?_, ?_⟩
          · rw [upd_ne (Ne.symm nDL), upd_same, erase_map]
          · rw [upd_same, List.map_append]
            rfl
          · rw [erase_len dl]
            omega
          · rw [List.length_append, lo]
            rfl
          · refine List.Perm.trans ?_ pm
            rw [List.append_assoc]
            exact (List.Perm.refl out).append (perm_pop (List.getElem?_eq_getElem dl))
        · rintro H3 ⟨lf, out, F3, k3, hL3, hD3, ll, lo, pm⟩
          have : lf = [] := List.eq_nil_of_length_eq_zero (by omega)
          rw [this, List.append_nil] at pm
          exact ⟨D, out, rfl, F3.mono (by omega), k3, hD3, pm⟩
      clear hL s2 F2 frL k2 nLf nLc nL L H2
      rintro σ' H2 ⟨L, out, rfl, F2, k2, hL, pm⟩
      have lo : out.length = 8 := pm.length_eq
      -- order signed
      refine Evl.q_cut (M := fun σ' H' => ∃ (D : Addr) (ord : List Int), σ' = [some (.ref f), some (.ref D), none, none, none, none, none, none, none, none, none] ∧ Feed H' f c (B + 17) ∧ Ke (· = f) H H' ∧ H' D = some (.lst (ord.map V.int)) ∧ Od ord) ?_ ?_
      · have nLf : L ≠ f := fun z => by
          obtain ⟨ns, n, r, h1, _⟩ := F2
          rw [z, h1] at hL
          have := HO.lst.inj (Option.some.inj hL)
          cases out with
          | nil => simp at lo
          | cons a b => simp at this
        refine ⟨_, rfl, L, rfl, ⟨_, .of hL⟩, fun D nD => ?_⟩
        have frD : Frs H D := .ke k2 F2 (.of nD)
        have nDL : D ≠ L := Ne.symm (ne_of_none hL nD)
        have nDf : D ≠ f := F2.nf nD
        have nDc : D ≠ c := F2.nc nD
        refine lc_list (xs := out.map V.int) (Pv := fun i H' => ∃ sg : List Int, Feed H' f c (B + 9 + i) ∧ Ke (· = f) H H' ∧ H' L = some (.lst (out.map V.int)) ∧ H' D = some (.lst (sg.map V.int)) ∧ sg.map (fun s => (s.natAbs : Int)) = out.take i) ?_ (fun i H' _ p => ?_) ?_ ?_
        · exact ⟨[], F2.upd nDf nDc, k2.upd' frD nD, by rw [upd_ne (Ne.symm nDL)]; exact hL, upd_same, rfl⟩
        · obtain ⟨_, _, _, h, _⟩ := p
          exact .of h
        · rintro i x H3 hx ⟨sg, F3, k3, hL3, hD3, es⟩
          obtain ⟨z, hz, rfl⟩ := at_int hx
          have li := (List.getElem?_eq_some_iff.mp hz).1
          have lg : sg.length = i := by
            have := congrArg List.length es
            rw [List.length_map, List.length_take] at this
            omega
          have z1 : 1 ≤ z := by
            have := pm.mem_iff.mp (List.mem_of_getElem? hz)
            simp only [List.mem_cons, List.not_mem_nil, or_false] at this
            omega
          have ts : out.take (i + 1) = out.take i ++ [z] := by rw [List.take_add_one, hz]; rfl
          refine ⟨rfl, _, rfl, _, rfl, _, _, rfl, rfl, by show 2 ≤ sizeLine; decide, fun p H4 np s4 hp _ => ?_⟩
          refine ⟨_, rfl, f, c, 2, B + 9 + i, rfl, by decide, by decide, F3.same s4, by omega, fun e H5 e0 e1 F5 b5 => ?_⟩
          have npf : p ≠ f := F3.nf np
          have hp5 := b5.lst hp npf
          have hD5 := b5.lst (s4 _ _ hD3) nDf
          have hL5 := b5.lst (s4 _ _ hL3) nLf
          have k5 : Ke (· = f) H H5 := (k3.trans (.same s4)).trans b5
          have two : e = 0 ∨ e = 1 := by omega
          rcases two with rfl | rfl
          · refine ⟨p, _, 0, .int z, rfl, rfl, .of hp5, rfl, _, hD5, by rw [List.length_map]; exact small1000 (by omega), sg ++ [z], (F5.upd nDf nDc).mono (by omega), k5.write frD hD5, by rw [upd_ne (Ne.symm nDL)]; exact hL5, by rw [upd_same, List.map_append]; rfl, ?_⟩
            rw [List.map_append, es, ts, List.map_singleton, show ((z.natAbs : Nat) : Int) = z by omega]
          · refine ⟨p, _, 1, .int (0 - z), rfl, rfl, .of hp5, rfl, _, hD5, by rw [List.length_map]; exact small1000 (by omega), sg ++ [0 - z], (F5.upd nDf nDc).mono (by omega), k5.write frD hD5, by rw [upd_ne (Ne.symm nDL)]; exact hL5, by rw [upd_same, List.map_append]; rfl, ?_⟩
            rw [List.map_append, es, ts, List.map_singleton, show (((0 - z).natAbs : Nat) : Int) = z by omega]
        · rintro H3 ⟨sg, F3, k3, hL3, hD3, es⟩
          rw [List.length_map, List.take_length] at es
          rw [List.length_map, lo] at F3
          refine ⟨D, sg, rfl, F3.mono (by omega), k3, hD3, ?_, ?_, fun s hs => ?_⟩
          · have := congrArg List.length es
            rw [List.length_map] at this
            omega
          · rw [es]
            exact pm.nodup_iff.mpr (by decide)
          · have : (s.natAbs : Int) ∈ out := by
              rw [← es]
              exact List.mem_map.mpr ⟨s, hs, rfl⟩
            have := pm.mem_iff.mp this
            simp only [List.mem_cons, List.not_mem_nil, or_false] at this
            omega
      clear hL F2 k2 pm lo out L H2
      rintro σ' H2 ⟨L, ord, rfl, F2, k2, hL, od⟩
      have at_o : ∀ i : Nat, i < 8 → ∃ z, ord[i]? = some z ∧ 1 ≤ (z.natAbs : Int) ∧ (z.natAbs : Int) ≤ 8 ∧ (ord.map V.int)[i]? = some (.int z) := fun i hi => by
        have h := List.getElem?_eq_getElem (show i < ord.length by rw [od.len]; exact hi)
        have b := od.bd _ (List.mem_of_getElem? h)
        exact ⟨_, h, b.1, b.2, by rw [List.getElem?_map, h]; rfl⟩
      -- claims
      refine Evl.q_cut (M := fun σ' H' => ∃ (C : Addr) (vs : List V), σ' = [some (.ref f), some (.ref L), some (.ref C), none, none, none, none, none, none, none, none] ∧ Same H2 H' ∧ H2 C = none ∧ H' C = some (.lst vs) ∧ GoodL H' vs ∧ vs.length = 7) ?_ ?_
      · refine ⟨7, rfl, by decide, by decide, fun D nD => ?_⟩
        refine lc_range (n := 7) (Pv := fun i H' => ∃ vs, Same H2 H' ∧ H' D = some (.lst vs) ∧ GoodL H' vs ∧ vs.length = i) ?_ ?_ ?_
        · exact ⟨[], same_new nD, upd_same, fun v hv => (nomatch hv), rfl⟩
        · rintro i H3 hi ⟨vs, s3, hD, gl, lv⟩
          obtain ⟨x, hx, x1, x8, vx⟩ := at_o i (by omega)
          obtain ⟨y, hy, y1, y8, vy⟩ := at_o (i + 1) (by omega)
          have ne := od.two hx hy (by omega)
          have hL3 := s3 _ _ hL
          refine ⟨rfl, _, rfl, _, rfl, L, _, _, .int x, rfl, rfl, .of hL3, at_of (j := i) (by show (0 : Int) + (i : Nat) = (i : Nat); omega) vx, _, _, rfl, rfl, _, rfl, _, rfl, _, _, rfl, rfl, L, _, _, .int y, rfl, rfl, .of hL3, at_of (j := i + 1) (by show (0 : Int) + (i : Nat) + 1 = ((i + 1 : Nat) : Int); omega) vy, by show 2 ≤ sizeLine; decide, fun p H4 np s4 hp _ => ?_⟩
          refine ⟨p, [0 - x, y], rfl, .of hp, fun ns pn so p2 H5 np2 s5 hp2 _ => ⟨p2, _, rfl, .of hp2, fun p3 H6 np3 s6 hp3 _ => ?_⟩⟩
          have s36 := (s4.trans s5).trans s6
          have hD6 := s36 _ _ hD
          refine ⟨_, hD6, small1000 (by omega), vs ++ [.ref p3], fun b o z => ?_, upd_same, fun v hv => ?_, by rw [List.length_append, lv]; rfl⟩
          · rw [upd_ne (ne_of_none z nD)]
            exact s36 _ _ (s3 _ _ z)
          · rcases List.mem_append.mp hv with z | z
            · exact (gl.tups fun b xs h => upd_tup hD6 _ _ (s36 _ _ h)) v z
            · rw [List.mem_singleton.mp z]
              exact ⟨ns, ⟨p3, rfl, upd_tup hD6 _ _ hp3⟩, sy_perm pn (sy_two (by omega) (by omega) (by omega))⟩
        · rintro H3 ⟨vs, s3, hD, gl, lv⟩
          exact ⟨D, vs, rfl, s3, nD, hD, gl, lv⟩
      rintro σ' H3 ⟨C, vs, rfl, s3, nC, hC, gl, lv⟩
      have F3 := F2.same s3
      have k3 : Ke (· = f) H H3 := k2.trans (.same s3)
      have nCf : C ≠ f := F2.nf nC
      have nCc : C ≠ c := F2.nc nC
      have frC : Frs H C := .ke k2 F2 (.of nC)
      have nCL : C ≠ L := Ne.symm (ne_of_none hL nC)
      have nLf : L ≠ f := fun z => by
        obtain ⟨ns, n, r, h1, _⟩ := F2
        have l8 := od.len
        rw [z, h1] at hL
        have := HO.lst.inj (Option.some.inj hL)
        cases ord with
        | nil => simp at l8
        | cons a b => simp at this
      have hL3 := s3 _ _ hL
      obtain ⟨x7, hx7, x71, x78, vx7⟩ := at_o 7 (by omega)
      obtain ⟨x0, hx0, x01, x08, vx0⟩ := at_o 0 (by omega)
      have ne70 := od.two hx7 hx0 (by omega)
      -- claims.append(..)
      refine Evl.q_cut (M := fun σ' H' => ∃ (vs : List V), σ' = [some (.ref f), some (.ref L), some (.ref C), none, none, none, none, none, none, none, none] ∧ Feed H' f c (B + 18) ∧ Ke (· = f) H H' ∧ H' L = some (.lst (ord.map V.int)) ∧ H' C = some (.lst vs) ∧ GoodL H' vs ∧ vs.length = 8) ?_ ?_
      · refine ⟨_, rfl, .inl ⟨rfl, _, .of hC⟩, _, rfl, L, _, 7, .int x7, rfl, rfl, .of hL3, at_of (j := 7) rfl vx7, _, _, rfl, rfl, _, rfl, L, _, 0, .int x0, rfl, rfl, .of hL3, at_of (j := 0) rfl vx0, _, _, rfl, rfl, by show 2 ≤ sizeLine; decide, fun p H4 np s4 hp _ => ?_⟩
        refine ⟨p, [0 - x7, 0 - x0], rfl, .of hp, fun ns pn so p2 H5 np2 s5 hp2 _ => ⟨p2, _, rfl, .of hp2, fun p3 H6 np3 s6 hp3 _ => ?_⟩⟩
        have s36 := (s4.trans s5).trans s6
        refine ⟨_, rfl, L, _, 7, .int x7, rfl, rfl, .of (s36 _ _ hL3), at_of (j := 7) rfl vx7, _, _, rfl, rfl, by show 1 ≤ sizeLine; decide, fun p4 H7 np4 s7 hp4 _ => ?_⟩
        refine ⟨by show 2 ≤ sizeLine; decide, fun p5 H8 np5 s8 hp5 _ => ?_⟩
        have s38 := (s36.trans s7).trans s8
        have F8 := F3.same s38
        refine ⟨_, rfl, f, c, 2, _, rfl, by decide, by decide, F8, by omega, fun e H9 e0 e1 F9 b9 => ?_⟩
        have np5f : p5 ≠ f := (F3.same (s36.trans s7)).nf np5
        have hC9 := b9.lst (s38 _ _ hC) nCf
        have k9 : Ke (· = f) H H9 := (k3.trans (.same s38)).trans b9
        have gl9 : GoodL H9 vs := gl.tups fun b xs h => b9.tups _ _ (s38 _ _ h)
        have t1 : TupI H9 (.ref p3) ns := ⟨p3, rfl, b9.tups _ _ (s8 _ _ (s7 _ _ hp3))⟩
        have t2 : TupI H9 (.ref p4) [0 - x7] := ⟨p4, rfl, b9.tups _ _ (s8 _ _ hp4)⟩
        have y1 : Sy ns := sy_perm pn (sy_two (by omega) (by omega) (by omega))
        have y2 : Sy [0 - x7] := sy_one (by omega)
        have gw : ∀ {v cs}, TupI H9 v cs → Sy cs → GoodL (upd H9 C (.lst (vs ++ [v]))) (vs ++ [v]) := fun {v cs} ⟨a, ea, ha⟩ hs u hu => by
          rcases List.mem_append.mp hu with z | z
          · exact (gl9.tups fun b xs h => upd_tup hC9 _ _ h) u z
          · rw [List.mem_singleton.mp z]
            exact ⟨cs, ⟨a, ea, upd_tup hC9 _ _ ha⟩, hs⟩
        have two : e = 0 ∨ e = 1 := by omega
        rcases two with rfl | rfl
        · exact ⟨p5, _, 0, .ref p3, rfl, rfl, .of (b9.lst hp5 np5f), rfl, C, _, _, rfl, rfl, hC9, small1000 (by omega), _, rfl, (F9.upd nCf nCc).mono (by omega), k9.write frC hC9, by rw [upd_ne (Ne.symm nCL)]; exact b9.lst (s38 _ _ hL3) nLf, upd_same, gw t1 y1, by rw [List.length_append, lv]; rfl⟩
        · exact ⟨p5, _, 1, .ref p4, rfl, rfl, .of (b9.lst hp5 np5f), rfl, C, _, _, rfl, rfl, hC9, small1000 (by omega), _, rfl, (F9.upd nCf nCc).mono (by omega), k9.write frC hC9, by rw [upd_ne (Ne.symm nCL)]; exact b9.lst (s38 _ _ hL3) nLf, upd_same, gw t2 y2, by rw [List.length_append, lv]; rfl⟩
      clear gl hC lv vs hL3 k3 F3 s3 H3
      rintro σ' H3 ⟨vs, rfl, F3, k3, hL3, hC, gl, lv⟩
      -- claims cut short
      refine Evl.q_cut (M := fun σ' H' => ∃ (C : Addr) (vs : List V), σ' = [some (.ref f), some (.ref L), some (.ref C), none, none, none, none, none, none, none, none] ∧ Feed H' f c (B + 19) ∧ Ke (· = f) H H' ∧ Frs H C ∧ C ≠ f ∧ C ≠ c ∧ C ≠ L ∧ H' L = some (.lst (ord.map V.int)) ∧ H' C = some (.lst vs) ∧ GoodL H' vs ∧ vs.length ≤ 8) ?_ ?_
      · refine ⟨_, rfl, _, rfl, f, c, 2, _, rfl, by decide, by decide, F3, by omega, fun e H4 e0 e1 F4 b4 => ?_⟩
        have k4 := k3.trans b4
        have hL4 := b4.lst hL3 nLf
        refine ⟨_, _, rfl, rfl, 8 - e, rfl, C, _, rfl, .of (b4.lst hC nCf), fun p H5 np s5 hp _ => ?_⟩
        rw [show 8 - e = (((8 - e).toNat : Nat) : Int) by omega, cut_to] at hp
        refine ⟨p, _, rfl, F4.same s5, k4.trans (.same s5), .ke k4 F4 (.of np), F4.nf np, F4.nc np, Ne.symm (ne_of_none hL4 np), s5 _ _ hL4, hp, fun v hv => ?_, by rw [List.length_take]; omega⟩
        exact (gl.tups fun b xs h => s5 _ _ (b4.tups _ _ h)) v (List.mem_of_mem_take hv)
      clear gl hC lv vs hL3 k3 F3 H3 frC nCf nCc nCL nC C
      rintro σ' H3 ⟨C, vs, rfl, F3, k3, frC, nCf, nCc, nCL, hL3, hC, gl, lv⟩
      -- claims drawn
      refine Evl.q_cut (M := fun σ' H' => ∃ (D : Addr) (out : List V), σ' = [some (.ref f), some (.ref L), some (.ref D), none, none, none, none, none, none, none, none] ∧ Feed H' f c (B + 30) ∧ Ke (· = f) H H' ∧ H' L = some (.lst (ord.map V.int)) ∧ H' D = some (.lst out) ∧ GoodL H' out ∧ out.length ≤ 8) ?_ ?_
      · refine ⟨_, rfl, C, _, rfl, .inl (.of hC), (vs.length : Nat), rfl, by omega, by omega, fun D nD => ?_⟩
        have frD : Frs H D := .ke k3 F3 (.of nD)
        have nDC : D ≠ C := Ne.symm (ne_of_none hC nD)
        have nDL : D ≠ L := Ne.symm (ne_of_none hL3 nD)
        have nDf : D ≠ f := F3.nf nD
        have nDc : D ≠ c := F3.nc nD
        have g0 : GoodL (upd H3 D (.lst [])) vs := gl.tups fun b xs h => by rw [upd_ne (ne_of_none h nD)]; exact h
        refine lc_range (n := ((vs.length : Nat) : Int).toNat) (Pv := fun i H' => ∃ lf out : List V, Feed H' f c (B + 19 + i) ∧ Ke (· = f) H H' ∧ H' L = some (.lst (ord.map V.int)) ∧ H' C = some (.lst lf) ∧ H' D = some (.lst out) ∧ lf.length = vs.length - i ∧ out.length = i ∧ GoodL H' lf ∧ GoodL H' out) ?_ ?_ ?_
        · exact ⟨vs, [], F3.upd nDf nDc, k3.upd' frD nD, by rw [upd_ne (Ne.symm nDL)]; exact hL3, by rw [upd_ne (Ne.symm nDC)]; exact hC, upd_same, rfl, rfl, g0, fun v hv => (nomatch hv)⟩
        · rintro i H4 hi ⟨lf, out, F4, k4, hL4, hC4, hD4, ll, lo, gf, go⟩
          have hi : i < ((vs.length : Nat) : Int).toNat := hi
          refine ⟨rfl, _, rfl, .inl ⟨rfl, _, .of hC4⟩, _, rfl, _, rfl, C, _, rfl, .inl (.of hC4), f, c, _, B + 19 + i, rfl, by omega, by omega, F4, by omega, fun e H5 e0 e1 F5 b5 => ?_⟩
          have dl : e.toNat < lf.length := by omega
          have hC5 := b5.lst hC4 nCf
          have hD5 := b5.lst hD4 nDf
          have hL5 := b5.lst hL4 nLf
          have k5 : Ke (· = f) H H5 := k4.trans b5
          refine ⟨C, _, e, e.toNat, lf[e.toNat], rfl, rfl, hC5, by omega, by omega, ix_seq e0 e1, List.getElem?_eq_getElem dl, ?_⟩
          have hD6 : (upd H5 C (.lst (lf.eraseIdx e.toNat))) D = some (.lst out) := by rw [upd_ne nDC]; exact hD5
          have up : ∀ b xs, H4 b = some (.tup xs) → (upd (upd H5 C (.lst (lf.eraseIdx e.toNat))) D (.lst (out ++ [lf[e.toNat]]))) b = some (.tup xs) := fun b xs h => upd_tup hD6 _ _ (upd_tup hC5 _ _ (b5.tups _ _ h))
          refine ⟨_, hD6, small1000 (by omega), lf.eraseIdx e.toNat, out ++ [lf[e.toNat]], ((F5.upd nCf nCc).upd nDf nDc).mono (by omega), (k5.write frC hC5).write frD hD6, by rw [upd_ne (Ne.symm nDL), upd_ne (Ne.symm nCL)]; exact hL5, by rw [upd_ne (Ne.symm nDC), upd_same], upd_same, by rw [List.length_eraseIdx_of_lt dl]; omega, by rw [List.length_append, lo]; rfl, fun v hv => (gf.tups up) v (List.mem_of_mem_eraseIdx hv), fun v hv => ?_⟩
          rcases List.mem_append.mp hv with z | z
          · exact (go.tups up) v z
          · rw [List.mem_singleton.mp z]
            exact (gf.tups up) _ (List.getElem_mem dl)
        · rintro H4 ⟨lf, out, F4, k4, hL4, hC4, hD4, ll, lo, gf, go⟩
          exact ⟨D, out, rfl, F4.mono (by omega), k4, hL4, hD4, go, by omega⟩
      clear gl hC lv vs hL3 k3 F3 H3 frC nCf nCc nCL C
      rintro σ' H3 ⟨C, vs, rfl, F3, k3, hL3, hC, gl, l8⟩
      refine ⟨_, rfl, C, _, rfl, .of hC, fun T4 H4 nT s4 hT _ => ⟨_, rfl, 1, rfl, L, _, rfl, .of (s4 _ _ hL3), fun S H5 nS s5 hS _ => ⟨by show 2 ≤ sizeLine; decide, fun p H6 np s6 hp _ => ?_⟩⟩⟩
      have s36 := (s4.trans s5).trans s6
      obtain ⟨css, e1, e2, e3⟩ := good_css (gl.tups fun b xs h => s36 _ _ h)
      rw [show (1 : Int) = ((1 : Nat) : Int) from rfl, cut_to] at hS
      refine q p T4 S css (ord.take 1) H6 ((F3.same s36).mono (by omega)) (k3.trans (.same s36)) hp ⟨T4, vs, rfl, s6 _ _ (s5 _ _ hT), e1, e2⟩ (by rw [List.map_take]; exact s6 _ _ hS) e3 ?_ (by omega)
      have ht : ord.take 1 = [x0] := by
        rw [show (1 : Nat) = 0 + 1 from rfl, List.take_add_one, hx0]
        rfl
      rw [ht]
      exact sy_one (by omega)
    rintro σ' H1 ⟨rfl, F1, k1⟩
    -- most
    refine Evl.q_cut (M := fun σ' H' => ∃ mo : Int, σ' = [some (.ref f), none, none, some (.int mo), none, none, none, none, none, none, none] ∧ 1 ≤ mo ∧ mo ≤ 8 ∧ Feed H' f c (B + 2) ∧ Ke (· = f) H H') ?_ ?_
    · refine ⟨by show 3 ≤ sizeLine; decide, fun p4 H4 np4 s4 hp4 _ => ⟨_, rfl, f, c, 3, _, rfl, by decide, by decide, F1.same s4, by omega, fun e H5 e0 e1 F5 b5 => ?_⟩⟩
      have pk : ∃ mm : Int, 1 ≤ mm ∧ mm ≤ 8 ∧ atI [V.int 3, V.int 5, V.int 8] e = some (.int mm) := by
        have three : e = 0 ∨ e = 1 ∨ e = 2 := by omega
        rcases three with rfl | rfl | rfl <;> exact ⟨_, by decide, by decide, rfl⟩
      obtain ⟨mm, mm0, mm1, ha⟩ := pk
      exact ⟨p4, _, e, .int mm, rfl, rfl, .of (b5.lst hp4 (F1.nf np4)), ha, mm, rfl, mm0, mm1, F5, k1.trans ((Ke.same s4).trans b5)⟩
    rintro σ' H2 ⟨mo, rfl, mo1, mo8, F2, k2⟩
    -- claims = book + book
    refine Evl.q_cut (M := fun σ' H' => ∃ (C : Addr) (vs : List V), σ' = [some (.ref f), none, some (.ref C), some (.int mo), none, none, none, none, none, none, none] ∧ Feed H' f c (B + 1002) ∧ Ke (· = f) H H' ∧ H' C = some (.tup vs) ∧ GoodL H' vs ∧ vs.length ≤ 32) ?_ ?_
    · refine ⟨_, rfl, _, rfl, f, c, mo, B + 2, rfl, mo1, mo8, F2, by omega, fun css1 p1 H3 F3 k3 _ b3 o3 _ l3 => ?_⟩
      refine ⟨_, rfl, _, rfl, f, c, mo, _, rfl, mo1, mo8, F3, by omega, fun css2 p2 H4 F4 k4 _ b4 o4 _ l4 => ?_⟩
      obtain ⟨a1, v1, e1, h1, n1, t1⟩ := b3.ke k4
      obtain ⟨a2, v2, e2, h2, n2, t2⟩ := b4
      cases e1
      cases e2
      refine ⟨p1, p2, v1, v2, rfl, rfl, h1, h2, small1000' (by omega), fun p H5 s5 hp => ?_⟩
      refine ⟨p, _, rfl, (F4.same s5).mono (by omega), (k2.trans (k3.trans k4)).trans (.same s5), hp, fun v hv => ?_, by rw [List.length_append]; omega⟩
      rcases List.mem_append.mp hv with z | z
      · exact ((good_of n1 t1 fun cs hc => .of (o3 cs hc).1).tups fun b xs h => s5 _ _ h) v z
      · exact ((good_of n2 t2 fun cs hc => .of (o4 cs hc).1).tups fun b xs h => s5 _ _ h) v z
    rintro σ' H3 ⟨C, vs, rfl, F3, k3, hC, gl, lv⟩
    -- claims = (claims + book)[:40]
    refine Evl.q_cut (M := fun σ' H' => ∃ (C : Addr) (vs : List V), σ' = [some (.ref f), none, some (.ref C), some (.int mo), none, none, none, none, none, none, none] ∧ Feed H' f c (B + 1502) ∧ Ke (· = f) H H' ∧ H' C = some (.tup vs) ∧ GoodL H' vs ∧ vs.length ≤ 40) ?_ ?_
    · refine ⟨_, rfl, _, rfl, _, rfl, f, c, mo, _, rfl, mo1, mo8, F3, by omega, fun css2 p2 H4 F4 k4 _ b4 o4 _ l4 => ?_⟩
      obtain ⟨a2, v2, e2, h2, n2, t2⟩ := b4
      cases e2
      refine ⟨C, p2, vs, v2, rfl, rfl, k4.tups _ _ hC, h2, small1000' (by omega), fun p H5 s5 hp => ?_⟩
      refine ⟨40, rfl, p, _, rfl, hp, fun p6 H6 s6 hp6 => ?_⟩
      rw [show (40 : Int) = ((40 : Nat) : Int) from rfl, cut_to] at hp6
      have s56 := s5.trans s6
      refine ⟨p6, _, rfl, (F4.same s56).mono (by omega), (k3.trans k4).trans (.same s56), hp6, fun v hv => ?_, by rw [List.length_take]; omega⟩
      rcases List.mem_append.mp (List.mem_of_mem_take hv) with z | z
      · exact (gl.tups fun b xs h => s56 _ _ (k4.tups _ _ h)) v z
      · exact ((good_of n2 t2 fun cs hc => .of (o4 cs hc).1).tups fun b xs h => s56 _ _ h) v z
    clear gl hC lv vs k3 F3 H3 C
    rintro σ' H3 ⟨C, vs, rfl, F3, k3, hC, gl, lv⟩
    -- if take(pen, 3) > 0
    refine Evl.q_cut (M := fun σ' H' => ∃ (C : Addr) (vs : List V), σ' = [some (.ref f), none, some (.ref C), some (.int mo), none, none, none, none, none, none, none] ∧ Feed H' f c (B + 1503) ∧ Ke (· = f) H H' ∧ H' C = some (.tup vs) ∧ GoodL H' vs ∧ vs.length ≤ 40) ?_ ?_
    · refine ⟨_, rfl, f, c, 3, _, rfl, by decide, by decide, F3, by omega, fun d H4 d0 d1 F4 k4 => ⟨_, _, rfl, rfl, _, rfl, ite2 (fun e => ?_) (fun e => ?_)⟩⟩
      · have hC4 := k4.tups _ _ hC
        have gl4 : GoodL H4 vs := gl.tups k4.tups
        refine ⟨_, rfl, C, rfl, ⟨_, .of hC4⟩, fun D nD => ?_⟩
        refine lc_tup (xs := vs) (Pv := fun i H' => ∃ out : List V, Same H4 H' ∧ H' D = some (.lst out) ∧ (∀ v ∈ out, v ∈ vs) ∧ out.length ≤ i) ?_ (fun i H' _ p => ?_) ?_ ?_
        · exact ⟨[], same_new nD, upd_same, fun v hv => (nomatch hv), Nat.le_refl _⟩
        · obtain ⟨_, s5, _⟩ := p
          exact .of (s5 _ _ hC4)
        · rintro i x H5 hx ⟨out, s5, hD, mem, lo⟩
          have li := (List.getElem?_eq_some_iff.mp hx).1
          obtain ⟨cs, ⟨ca, rfl, hca⟩, sc⟩ := gl4 x (List.mem_of_getElem? hx)
          refine ⟨rfl, _, rfl, ca, _, rfl, .inr (.of (s5 _ _ hca)), _, _, rfl, rfl, _, rfl, ite2 (fun y1 => ?_) (fun y1 => ?_)⟩
          · refine ⟨_, rfl, _, hD, small1000 (by omega), out ++ [.ref ca], fun b o z => ?_, upd_same, fun v hv => ?_, by rw [List.length_append]; show out.length + 1 ≤ _; omega⟩
            · rw [upd_ne (ne_of_none z nD)]
              exact s5 _ _ z
            · rcases List.mem_append.mp hv with z | z
              · exact mem v z
              · rw [List.mem_singleton.mp z]
                exact List.mem_of_getElem? hx
          · exact ⟨out, s5, hD, mem, by omega⟩
        · rintro H5 ⟨out, s5, hD, mem, lo⟩
          refine ⟨D, _, rfl, .of hD, fun p H6 np s6 hp _ => ?_⟩
          have s46 := s5.trans s6
          exact ⟨p, _, rfl, (F4.same s46).mono (by omega), (k3.trans k4).trans (.same s46), hp, fun v hv => (gl4.tups fun b xs h => s46 _ _ h) v (mem v hv), by omega⟩
      · exact ⟨C, vs, rfl, F4.mono (by omega), k3.trans k4, k4.tups _ _ hC, gl.tups k4.tups, lv⟩
    clear gl hC lv vs k3 F3 H3 C
    rintro σ' H3 ⟨C, vs, rfl, F3, k3, hC, gl, lv⟩
    -- things
    refine Evl.q_cut (M := fun σ' H' => ∃ L, σ' = [some (.ref f), none, some (.ref C), some (.int mo), some (.ref L), none, none, none, none, none, none] ∧ H3 L = none ∧ Same H3 H' ∧ H' L = some (.lst (([1, 2, 3, 4, 5, 6, 7, 8] : List Int).map V.int))) ?_ ?_
    · exact ⟨1, 9, rfl, rfl, .of_le (by omega) (by omega) (by omega) (by omega), fun L H2 nL s2 hL _ => ⟨L, rfl, nL, s2, hL⟩⟩
    rintro σ' H4 ⟨L, rfl, nL, s4, hL⟩
    refine Evl.q_cut (M := fun σ' H' => ∃ S, σ' = [some (.ref f), none, some (.ref C), some (.int mo), some (.ref L), some (.ref S), none, none, none, none, none] ∧ H4 S = none ∧ Same H4 H' ∧ H' S = some (.lst [])) ?_ ?_
    · exact ⟨Nat.zero_le _, fun S H5 nS s5 hS _ => ⟨S, rfl, nS, s5, hS⟩⟩
    rintro σ' H5 ⟨S, rfl, nS, s5, hS⟩
    have s35 := s4.trans s5
    have F5 := F3.same s35
    have k5 : Ke (· = f) H H5 := k3.trans (.same s35)
    have frL : Frs H L := .ke k3 F3 (.of nL)
    have frS : Frs H S := .ke k3 F3 (.of (s4.free nS))
    have nLf : L ≠ f := F3.nf nL
    have nLc : L ≠ c := F3.nc nL
    have nSf : S ≠ f := (F3.same s4).nf nS
    have nSc : S ≠ c := (F3.same s4).nc nS
    have nSL : S ≠ L := Ne.symm (ne_of_none hL nS)
    have hL5 := s5 _ _ hL
    have hC5 := s35 _ _ hC
    have gl5 : GoodL H5 vs := gl.tups fun b xs h => s35 _ _ h
    -- the loop
    refine Evl.q_cut (M := fun σ' H' => ∃ (y6 y7 : Option V) (says lf : List Int), σ' = [some (.ref f), none, some (.ref C), some (.int mo), some (.ref L), some (.ref S), y6, y7, none, none, none] ∧ Feed H' f c (B + 1530) ∧ Ke (· = f) H H' ∧ H' C = some (.tup vs) ∧ GoodL H' vs ∧ H' S = some (.lst (says.map V.int)) ∧ ((says.map fun s => (s.natAbs : Int)) ++ lf).Perm ([1, 2, 3, 4, 5, 6, 7, 8] : List Int)) ?_ ?_
    · refine ⟨_, rfl, f, c, 9, _, rfl, by decide, by decide, F5, by omega, fun n H6 n0 n9 F6 k6 => ?_⟩
      refine ⟨n, rfl, by omega, by omega, for_range (Pv := fun i σ H' => ∃ (y6 y7 : Option V) (lf says : List Int), σ = [some (.ref f), none, some (.ref C), some (.int mo), some (.ref L), some (.ref S), y6, y7, none, none, none] ∧ Feed H' f c (B + 1504 + 2 * i) ∧ Ke (· = f) H H' ∧ (∀ b xs, H5 b = some (.tup xs) → H' b = some (.tup xs)) ∧ H' L = some (.lst (lf.map V.int)) ∧ H' S = some (.lst (says.map V.int)) ∧
        lf.length = 8 - i ∧ says.length = i ∧ ((says.map fun s => (s.natAbs : Int)) ++ lf).Perm ([1, 2, 3, 4, 5, 6, 7, 8] : List Int)) ?_ ?_ ?_⟩
      · exact ⟨none, none, _, [], rfl, F6, k5.trans k6, k6.tups, k6.lst hL5 nLf, k6.lst hS nSf, rfl, rfl, .refl _⟩
      · rintro i σ H7 hi ⟨y6, y7, lf, says, rfl, F7, k7, tu, hL7, hS7, ll, ls, pm⟩
        have hi : i < n.toNat := hi
        -- thing
        refine Evl.q_cut (M := fun σ' H' => ∃ (d : Nat) (y : Int), σ' = [some (.ref f), none, some (.ref C), some (.int mo), some (.ref L), some (.ref S), some (.int (0 + (i : Int))), some (.int y), none, none, none] ∧ Feed H' f c (B + 1504 + 2 * i + 1) ∧ Ke (· = f) H H' ∧ (∀ b xs, H5 b = some (.tup xs) → H' b = some (.tup xs)) ∧ H' L = some (.lst ((lf.eraseIdx d).map V.int)) ∧ H' S = some (.lst (says.map V.int)) ∧ lf[d]? = some y) ?_ ?_
        · refine ⟨_, rfl, .inl ⟨rfl, _, .of hL7⟩, _, rfl, _, rfl, L, _, rfl, .inl (.of hL7), f, c, _, B + 1504 + 2 * i, rfl, ?_, ?_, F7, by omega, fun d H8 d0 d1 F8 b8 => ?_⟩
          · rw [List.length_map]
            omega
          · rw [List.length_map]
            omega
          rw [List.length_map] at d1
          have dl : d.toNat < lf.length := by omega
          have hL8 := b8.lst hL7 nLf
          refine ⟨L, _, d, d.toNat, .int lf[d.toNat], rfl, rfl, hL8, by omega, by omega, by rw [List.length_map]; exact ix_seq d0 d1, by rw [List.getElem?_map, List.getElem?_eq_getElem dl]; rfl, ?_⟩
          exact ⟨d.toNat, _, rfl, F8.upd nLf nLc, (k7.trans b8).write frL hL8, fun b xs h => upd_tup hL8 _ _ (b8.tups _ _ (tu _ _ h)), by rw [upd_same, erase_map], by rw [upd_ne nSL]; exact b8.lst hS7 nSf, List.getElem?_eq_getElem dl⟩
        clear hL7 hS7 F7 k7 tu
        rintro σ' H7 ⟨d, y, rfl, F7, k7, tu, hL7, hS7, hy⟩
        have dl := (List.getElem?_eq_some_iff.mp hy).1
        have pp := perm_pop hy
        have y1 : 1 ≤ y := by
          have := pm.mem_iff.mp (List.mem_append_right _ (List.mem_of_getElem? hy))
          simp only [List.mem_cons, List.not_mem_nil, or_false] at this
          omega
        refine ⟨_, rfl, .inl ⟨rfl, _, .of hS7⟩, _, rfl, _, rfl, _, _, rfl, rfl, by show 2 ≤ sizeLine; decide, fun p H8 np s8 hp _ => ?_⟩
        refine ⟨_, rfl, f, c, 2, _, rfl, by decide, by decide, F7.same s8, by omega, fun e H9 e0 e1 F9 b9 => ?_⟩
        have hp9 := b9.lst hp (F7.nf np)
        have hS9 := b9.lst (s8 _ _ hS7) nSf
        have hL9 := b9.lst (s8 _ _ hL7) nLf
        have k9 : Ke (· = f) H H9 := (k7.trans (.same s8)).trans b9
        have two : e = 0 ∨ e = 1 := by omega
        have go : ∀ z : Int, (z.natAbs : Int) = y → ((says ++ [z]).map (fun s => (s.natAbs : Int)) ++ lf.eraseIdx d).Perm ([1, 2, 3, 4, 5, 6, 7, 8] : List Int) := fun z hz => by
          refine List.Perm.trans ?_ pm
          rw [List.map_append, List.append_assoc, List.map_singleton, hz]
          exact (List.Perm.refl _).append pp
        rcases two with rfl | rfl
        · refine ⟨p, _, 0, .int y, rfl, rfl, .of hp9, rfl, S, _, _, rfl, rfl, hS9, by rw [List.length_map]; exact small1000 (by omega), ?_⟩
          exact ⟨_, _, lf.eraseIdx d, says ++ [y], rfl, (F9.upd nSf nSc).mono (by omega), k9.write frS hS9, fun b xs h => upd_tup hS9 _ _ (b9.tups _ _ (s8 _ _ (tu _ _ h))), by rw [upd_ne (Ne.symm nSL)]; exact hL9, by rw [upd_same, List.map_append]; rfl, by rw [erase_len dl]; omega, by rw [List.length_append, ls]; rfl, go y (by omega)⟩
        · refine ⟨p, _, 1, .int (0 - y), rfl, rfl, .of hp9, rfl, S, _, _, rfl, rfl, hS9, by rw [List.length_map]; exact small1000 (by omega), ?_⟩
          exact ⟨_, _, lf.eraseIdx d, says ++ [0 - y], rfl, (F9.upd nSf nSc).mono (by omega), k9.write frS hS9, fun b xs h => upd_tup hS9 _ _ (b9.tups _ _ (s8 _ _ (tu _ _ h))), by rw [upd_ne (Ne.symm nSL)]; exact hL9, by rw [upd_same, List.map_append]; rfl, by rw [erase_len dl]; omega, by rw [List.length_append, ls]; rfl, go (0 - y) (by omega)⟩
      · rintro σ H7 ⟨y6, y7, lf, says, rfl, F7, k7, tu, hL7, hS7, ll, ls, pm⟩
        exact ⟨y6, y7, says, lf, rfl, F7.mono (by omega), k7, tu _ _ hC5, gl5.tups tu, hS7, pm⟩
    rintro σ' H6 ⟨y6, y7, says, lf, rfl, F6, k6, hC6, gl6, hS6, pm⟩
    refine ⟨_, rfl, _, rfl, by show 2 ≤ sizeLine; decide, fun p H7 np s7 hp _ => ?_⟩
    obtain ⟨css, e1, e2, e3⟩ := good_css (gl6.tups fun b xs h => s7 _ _ h)
    refine q p C S css says H7 ((F6.same s7).mono (by omega)) (k6.trans (.same s7)) hp ⟨C, vs, rfl, s7 _ _ hC6, e1, e2⟩ (s7 _ _ hS6) e3 ⟨?_, fun s hs => ?_⟩ (by omega)
    · exact (abs_nd (List.nodup_append.mp (pm.nodup_iff.mpr (by decide))).1).1
    · have := pm.mem_iff.mp (List.mem_append_left _ (List.mem_map.mpr ⟨s, hs, rfl⟩))
      simp only [List.mem_cons, List.not_mem_nil, or_false] at this
      omega
end
end Fd
namespace Gd
open PySem PySem.Spec PyProof.Rows L2
/-! ### a law that shows lists (repr): run where nothing is being shown -/
/-- a promise for calls made while nothing is being shown -/
structure FnG (P : Program) (w : World) (K : PySem.W.Frag) (mg : Str → Option Value) (base : Heap) (k : Nat) (f : Addr) (fd : FuncData) (ps : List Str) (sp : Sp) : Prop where
  len : ∀ us H Q E, sp us H Q E → us.length = ps.length
  run : ∀ (A : Around) (outer : List Env) (s : Shared) (H : Hp) (args : Args) (us : List Value) (vs : List V) (Q : VK) (E : XK), A.guards = some [] → Room k A → Env0 P w K mg base A outer s H → BindsTo s fd args (ps.zip us) → Vals vs us → sp vs H Q E → codeAny (model P w) A (.call (.ref f) args) (CR CX0 outer P w H s Q E) s
section
variable {P : Program} {w : World} {K : PySem.W.Frag} {mg : Str → Option Value} {base : Heap}
theorem okG {x qual : Str} {st : Stmt} {f : Addr} {fd : FuncData} {N ps : List Str} {k : Nat} {sp : Sp} (F : Fun K x qual st f fd) (S : FnScope N ps (defScope st)) (ln : ∀ us H Q E, sp us H Q E → us.length = ps.length)
    (body : ∀ (cdv : Value) (A : Around) (outer : List Env) (s : Shared) (H : Hp) (vs : List V) (Q : VK) (E : XK), A.guards = some [] → Room k (A.deeper (envOfC qual (defScope st) s.heap.objs.size f cdv)) → sp vs H Q E →
      ∃ t, PSs (cxOf CX0 P w K mg base N qual (defScope st) f cdv A outer s H E).nox (defBody st) t ∧ t { nx := fun _ H' => Q .non H', rt := Q } (start N vs) H) : FnG P w K mg base (k + 1) f fd ps sp := by
  obtain ⟨oc, od, kV, doc, pm, an, cdv, ct, osl, rfl, lk, hcd⟩ := F.ex
  refine ⟨ln, fun A outer s H args us vs Q E gd room env bind rel ask => ?_⟩
  have inS : K.In s.heap := env.mod.kin.keeps fun b o e => (env.bs b o e).1
  have noL : s.heap.NoLimit := env.mod.nolimit.keeps fun b o e => (env.bs b o e).1
  refine codeAny_call_function room.depth (inS _ _ lk) rfl S.co S.gen rfl (PySem.W.codeRec_of inS hcd) (bind _ _ _ _ (wpAny_newFunctionEnv_cells S.kind (fun y hy => ?_) fun env' he s1 z => ?_))
  · rcases S.par y.1 (List.of_mem_zip (a := y.1) (b := y.2) hy).1 with q | q
    · exact Or.inl q
    · exact Or.inr ⟨q, PySem.W.cellsFrom_some _ _ _ (Or.inl q)⟩
  · subst he
    obtain ⟨t, h1, h2⟩ := body cdv A outer s H vs Q E gd (room.deeper _) ask
    have J := inv_start (CX := CX0) (E := E) S room.hd env (ln _ _ _ _ ask) rel z
    refine ⟨noL.keeps z.toInCall.keep, codeAny_func (wpAny_mono (h1.nox.run [] s1 _ H _ J h2) (fun fl s' r => ?_) fun _ _ r => r)⟩
    match fl, r with
    | .ret u, r =>
      obtain ⟨v, σ', H', I, rv, q⟩ := r
      exact ⟨v, H', I.os, I.bare, I.base, I.hok, rv, q⟩
    | .next, r =>
      obtain ⟨σ', H', I, q⟩ := r
      exact ⟨.non, H', I.os, I.bare, I.base, I.hok, rfl, q⟩
    | .brk, r =>
      obtain ⟨_, _, _, q⟩ := r
      exact q.elim
    | .cont, r =>
      obtain ⟨_, _, _, q⟩ := r
      exact q.elim
/-- what the abstract heap knows at the law's call: the tables T, the script at a unless K holds it -/
def at0 (K : PySem.W.Frag) (T : List Addr) (a : Addr) (o : HO) : Hp := fun b => if b ∈ T then some (.tbl #[]) else if b = a ∧ (K.lookup a).isNone = true then some o else none
theorem at0_cases {T : List Addr} {a b : Addr} {o u : HO} (h : at0 K T a o b = some u) : (b ∈ T ∧ u = .tbl #[]) ∨ (b ∉ T ∧ b = a ∧ K.lookup a = none ∧ u = o) := by
  unfold at0 at h
  by_cases h1 : b ∈ T
  · rw [if_pos h1] at h
    exact .inl ⟨h1, (Option.some.inj h).symm⟩
  · rw [if_neg h1] at h
    by_cases h2 : b = a ∧ (K.lookup a).isNone = true
    · rw [if_pos h2] at h
      exact .inr ⟨h1, h2.1, Option.isNone_iff_eq_none.mp h2.2, (Option.some.inj h).symm⟩
    · rw [if_neg h2] at h
      cases h
theorem law_at {mb : Str → Option Value} {k : Nat} {fa a : Addr} {cs : List (Addr × Addr)} {fd : FuncData} {x : Str} {sp : Sp} {s1 : Shared} {us : List Value} {ns : List Int} (inK : K.In s1.heap) (ng : s1.heap.Ns mainGlobals mg) (nb : s1.heap.Ns builtinsNs mb)
    (bb : ∀ y : Str, y ≠ "__name__" → mb y = bootBuiltins y) (lim : s1.heap.NoLimit) (gens : s1.gens = #[]) (te : ∀ p ∈ cs, s1.heap.get? p.2 = some (PySem.W.tabObj #[])) (tk : ∀ p ∈ cs, K.lookup p.2 = none) (tc : ∀ p ∈ cs, PySem.W.CodeHd s1.heap p.1 p.2)
    (bm : ∃ (bm : Addr) (ob : Obj), mg "__builtins__" = some (.ref bm) ∧ bm ≠ builtinsNs ∧ s1.heap.get? bm = some ob ∧ ob.cls = .type "module" ∧ ob.dict = some builtinsNs ∧ ob.data = .plain) (la : s1.heap.get? a = some { cls := .type "list", data := .seq us.toArray }) (iu : IntsAre us ns) (lu : ns.length ≤ sizeLine) (room : Room k callerA)
    (F : ∀ base : Heap, K.In base → base.Ns mainGlobals mg → (∀ p ∈ cs, LamX.TabB base mg p.1 p.2) → FnG P w K mg base k fa fd [x] sp) (bind : ∀ (s : Shared) (u : Value), BindsTo s fd ⟨[u], []⟩ [(x, u)])
    (ask : ∀ H : Hp, (∀ p ∈ cs, H p.2 = some (.tbl #[])) → SqL K H a (ns.map V.int) → sp [.ref a] H (fun v _ => v = .bl true) fun _ _ _ => False) :
    codeAny (model P w) callerA (.call (.ref fa) ⟨[.ref a], []⟩) (fun r s' => r = .ok (.ret (.bool true)) ∧ OldK s1.heap s'.heap ∧ s'.os = s1.os ∧ AllBare s'.gens) s1 := by
  have lv := iu.length
  let T := cs.map (·.2)
  let O : HO := .frz { cls := .type "list", data := .seq us.toArray } (.lst (ns.map V.int))
  have tT : ∀ b ∈ T, s1.heap.get? b = some (PySem.W.tabObj #[]) := fun b hb => by
    obtain ⟨p, hp, rfl⟩ := List.mem_map.mp hb
    exact te p hp
  have inT : ∀ p ∈ cs, p.2 ∈ T := fun p hp => List.mem_map.mpr ⟨p, hp, rfl⟩
  have naT : a ∉ T := fun z => by
    have q := tT a z
    rw [la] at q
    cases congrArg Obj.data (Option.some.inj q)
  -- an object that is neither a list nor an empty table is not tracked
  have un0 : ∀ {b : Addr} {o : Obj}, s1.heap.get? b = some o → (∀ v n, o.data ≠ .seq v n) → o.data ≠ .fields #[] → at0 K T a O b = none := fun {b o} e d1 d2 => by
    cases q : at0 K T a O b with
    | none => rfl
    | some u =>
      rcases at0_cases q with ⟨h1, _⟩ | ⟨_, h1, _⟩
      · rw [tT b h1] at e
        cases e
        exact absurd rfl d2
      · rw [h1, la] at e
        cases e
        exact absurd rfl (d1 _ _)
  have ns0 : ∀ {b : Addr} {m : Str → Option Value}, s1.heap.Ns b m → (hidT s1.heap (at0 K T a O)).Ns b m := fun ⟨o, es, ep, e, d, r⟩ =>
    ⟨o, es, ep, hidT_get e (un0 e (fun _ _ z => by rw [d] at z; cases z) fun z => by rw [d] at z; cases z), d, r⟩
  have in0 : K.In (hidT s1.heap (at0 K T a O)) := fun b o e => by
    refine hidT_get (inK b o e) ?_
    cases q : at0 K T a O b with
    | none => rfl
    | some u =>
      rcases at0_cases q with ⟨h1, _⟩ | ⟨_, h1, h2, _⟩
      · obtain ⟨p, hp, rfl⟩ := List.mem_map.mp h1
        rw [tk p hp] at e
        cases e
      · rw [h1, h2] at e
        cases e
  have mod0 : L2.Mod K mg (hidT s1.heap (at0 K T a O)) := ⟨in0, ns0 ng, ⟨mb, ns0 nb, bb⟩, let ⟨mc, h1, h2⟩ := lim; ⟨mc, ns0 h1, h2⟩⟩
  have tab0 : ∀ p ∈ cs, LamX.TabB (hidT s1.heap (at0 K T a O)) mg p.1 p.2 := fun p hp => by
    obtain ⟨bmA, ob, b1, b2, b3, b4, b5, b6⟩ := bm
    obtain ⟨oc, oes, oep, oe, od, _⟩ := ng
    obtain ⟨c0, v0, f0, t0, g0, u0, i0, x0, y0, e1, r1, r2, r3, rest⟩ := tc p hp
    refine ⟨⟨c0, v0, f0, t0, g0, u0, i0, x0, y0, hidT_get e1 (un0 e1 (fun _ _ z => by rw [r2] at z; cases z) fun z => ?_), r1, r2, r3, rest⟩, ⟨bmA, ob, b1, b2, fun z => ?_, fun z => ?_, hidT_get b3 (un0 b3 (fun _ _ z => by rw [b6] at z; cases z) fun z => by rw [b6] at z; cases z), b4, b5, b6⟩, fun z => ?_⟩
    · rw [r2] at z
      cases z
      simp at r3
    · rw [z, oe] at b3
      cases b3
      rw [od] at b6
      cases b6
    · rw [z, te p hp] at b3
      cases b3
      cases b6
    · rw [z, te p hp] at oe
      cases oe
      cases od
  have hok0 : HOk P w (at0 K T a O) s1.heap := fun b u q => by
    rcases at0_cases q with ⟨h1, rfl⟩ | ⟨_, rfl, _, rfl⟩
    · exact tT b h1
    · exact ⟨la, by rw [List.length_map]; exact lu, us, _, vals_ints iu, la⟩
  have sq0 : SqL K (at0 K T a O) a (ns.map V.int) := by
    cases q : K.lookup a with
    | some o =>
      have e := inK a o q
      rw [la] at e
      cases e
      exact .inr ⟨_, us.toArray, _, q, rfl, rfl, rfl, by rw [List.size_toArray, lv]; exact lu, by simpa using vals_ints iu⟩
    | none => exact .inl (.inr ⟨_, (if_neg naT).trans (if_pos ⟨rfl, by rw [q]; rfl⟩)⟩)
  have env0 : Env0 P w K mg (hidT s1.heap (at0 K T a O)) callerA [] s1 (at0 K T a O) := ⟨rfl, mod0, fun b o e => of_hidT e, Nat.le_of_eq (hidT_size _ _), trivial, fun b z => absurd (show b ∈ ([] : List Addr) from z) (by simp), hok0, .of_eq gens⟩
  refine codeAny_mono ((F _ in0 (ns0 ng) tab0).run callerA [] s1 (at0 K T a O) ⟨[.ref a], []⟩ [.ref a] [.ref a] _ _ rfl room env0 (bind s1 (.ref a)) (.cons rfl .nil) (ask _ (fun p hp => if_pos (inT p hp)) sq0)) fun r s' h => ?_
  match r, h with
  | .error e, h => exact False.elim h
  | .ok .next, h => exact False.elim h
  | .ok .brk, h => exact False.elim h
  | .ok .cont, h => exact False.elim h
  | .ok (.ret u), h =>
    obtain ⟨v, H', os, bare, un, hok', rv, q⟩ := h
    obtain rfl : v = .bl true := q
    obtain rfl : u = Value.bool true := rv
    have kept : ∀ b o, b ∉ T → s1.heap.get? b = some o → s'.heap.get? b = some o := fun b o nt e => by
      cases z : at0 K T a O b with
      | none => exact un.keep b o e z (fun y => absurd (show b ∈ ([] : List Addr) from y) (by simp)) (by simp)
      | some u =>
        rcases at0_cases z with ⟨h1, _⟩ | ⟨_, rfl, _, rfl⟩
        · exact absurd h1 nt
        · obtain ⟨e2, _⟩ := hok' b _ (un.frzs b _ _ z)
          rw [la] at e
          cases e
          exact e2
    have tabs : ∀ b ∈ T, ∃ more : Array Value, s'.heap.get? b = some (PySem.W.tabObj more) := fun b hb => by
      obtain ⟨more, z⟩ := un.tbls b #[] (if_pos hb)
      exact ⟨_, hok' b _ z⟩
    refine ⟨rfl, ⟨fun b o e => ?_, fun b o e => ?_⟩, os, bare⟩
    · by_cases hb : b ∈ T
      · obtain ⟨more, z⟩ := tabs b hb
        obtain ⟨p, hp, rfl⟩ := List.mem_map.mp hb
        have e3 := te p hp
        rw [e] at e3
        cases e3
        exact .inr (.inl ⟨((tc p hp).tab (te p hp)).isCodeTable, rfl, #[], more, rfl, by rw [Array.empty_append]; exact z⟩)
      · exact .inl (kept b o hb e)
    · by_cases hb : b ∈ T
      · obtain ⟨more, z⟩ := tabs b hb
        exact ⟨_, z⟩
      · exact ⟨o, kept b o hb e⟩
end
end Gd
namespace Gx2
open PySem PySem.Spec PyProof.Rows L2
/-! ### promises for calls made while nothing is being shown, with refusals: for defs that show lists or tuples and are called by others -/
structure FnX (P : Program) (w : World) (K : PySem.W.Frag) (mg : Str → Option Value) (base : Heap) (CX : CXT) (k : Nat) (f : Addr) (fd : FuncData) (ps : List Str) (sp : Sp) : Prop where
  len : ∀ us H Q E, sp us H Q E → us.length = ps.length
  run : ∀ (A : Around) (outer : List Env) (s : Shared) (H : Hp) (args : Args) (us : List Value) (vs : List V) (Q : VK) (E : XK), A.guards = some [] → Room k A → Env0 P w K mg base A outer s H → BindsTo s fd args (ps.zip us) → Vals vs us → sp vs H Q E → codeAny (model P w) A (.call (.ref f) args) (CR CX outer P w H s Q E) s
section
variable {P : Program} {w : World} {K : PySem.W.Frag} {mg : Str → Option Value} {base : Heap} {CX : CXT}
theorem of_ok {k : Nat} {f : Addr} {fd : FuncData} {ps : List Str} {sp : Sp} (F : FnOk P w K mg base CX k f fd ps sp) : FnX P w K mg base CX k f fd ps sp := ⟨F.len, fun A outer s H args us vs Q E _ => F.run A outer s H args us vs Q E⟩
theorem okX {x qual : Str} {st : Stmt} {f : Addr} {fd : FuncData} {N ps : List Str} {k : Nat} {sp : Sp} (F : Fun K x qual st f fd) (S : FnScope N ps (defScope st)) (ln : ∀ us H Q E, sp us H Q E → us.length = ps.length)
    (body : ∀ (cdv : Value) (A : Around) (outer : List Env) (s : Shared) (H : Hp) (vs : List V) (Q : VK) (E : XK), A.guards = some [] → Room k (A.deeper (envOfC qual (defScope st) s.heap.objs.size f cdv)) → sp vs H Q E →
      ∃ t, PSs (cxOf CX P w K mg base N qual (defScope st) f cdv A outer s H E) (defBody st) t ∧ t { nx := fun _ H' => Q .non H', rt := Q } (start N vs) H) : FnX P w K mg base CX (k + 1) f fd ps sp := by
  obtain ⟨oc, od, kV, doc, pm, an, cdv, ct, osl, rfl, lk, hcd⟩ := F.ex
  refine ⟨ln, fun A outer s H args us vs Q E gd room env bind rel ask => ?_⟩
  have inS : K.In s.heap := env.mod.kin.keeps fun b o e => (env.bs b o e).1
  have noL : s.heap.NoLimit := env.mod.nolimit.keeps fun b o e => (env.bs b o e).1
  refine codeAny_call_function room.depth (inS _ _ lk) rfl S.co S.gen rfl (PySem.W.codeRec_of inS hcd) (bind _ _ _ _ (wpAny_newFunctionEnv_cells S.kind (fun y hy => ?_) fun env' he s1 z => ?_))
  · rcases S.par y.1 (List.of_mem_zip (a := y.1) (b := y.2) hy).1 with q | q
    · exact Or.inl q
    · exact Or.inr ⟨q, PySem.W.cellsFrom_some _ _ _ (Or.inl q)⟩
  · subst he
    obtain ⟨t, h1, h2⟩ := body cdv A outer s H vs Q E gd (room.deeper _) ask
    have J := inv_start (CX := CX) (E := E) S room.hd env (ln _ _ _ _ ask) rel z
    refine ⟨noL.keeps z.toInCall.keep, codeAny_func (wpAny_mono (h1.run [] s1 _ H _ J h2) (fun fl s' r => ?_) fun _ _ r => r)⟩
    match fl, r with
    | .ret u, r =>
      obtain ⟨v, σ', H', I, rv, q⟩ := r
      exact ⟨v, H', I.os, I.bare, I.base, I.hok, rv, q⟩
    | .next, r =>
      obtain ⟨σ', H', I, q⟩ := r
      exact ⟨.non, H', I.os, I.bare, I.base, I.hok, rfl, q⟩
    | .brk, r =>
      obtain ⟨_, _, _, q⟩ := r
      exact q.elim
    | .cont, r =>
      obtain ⟨_, _, _, q⟩ := r
      exact q.elim
end
section
variable {X : Cx} {CX : CXT} {k : Nat} {f : Addr} {fd : FuncData} {ps : List Str} {sp : Sp} {dvs : List V} {ds : List Value} {E : XK}
theorem runX {pins : List (Addr × Obj)} {σ : L2.St} {H : Hp} {s : Shared} {Q : VK} {us : List Value} {vs : List V} (F : FnX X.prog X.w X.K X.mg X.base CX k f fd ps sp) (gd : X.A.guards = some []) (room : Room k X.A) (bind : Binds X.K fd ps ds) (dv : Vals dvs ds) (pass : Passes CX X E)
    (I : Inv X pins σ H s) (rel : Vals vs us) (ask : sp (vs ++ dvs) H Q E) : wpAny (model X.prog X.w) X.A (call (.ref f) us) (EP X pins σ Q) X.xe s := by
  have r2 : Vals (vs ++ dvs) (us ++ ds) := rel.append dv
  have ll : (us ++ ds).length = ps.length := r2.length.symm.trans (F.len _ _ _ _ ask)
  refine wpAny_call (codeAny_mono (F.run X.A X.stack s H ⟨us, []⟩ _ _ Q E gd room I.env0 (bind s us I.kIn ll) r2 ask) fun r s' z => ?_)
  match r, z with
  | .error e, z => exact pass pins σ H s e s' I z
  | .ok (.ret u), z => exact I.after z
  | .ok .next, z => exact z.elim
  | .ok .brk, z => exact z.elim
  | .ok .cont, z => exact z.elim
/-- f(..) where nothing is being shown -/
theorem pe_callX {x : Str} {p pos : Pos} {e : Expr} {es : List Expr} {t : TA} (F : FnX X.prog X.w X.K X.mg X.base CX k f fd ps sp) (gd : X.A.guards = some []) (room : Room k X.A) (gl : Gl X x) (at_ : X.mg x = some (.ref f)) (kp : PySem.W.keepIn X.K (.ref f) = true) (bind : Binds X.K fd ps ds) (dv : Vals dvs ds) (pass : Passes CX X E)
    (ha : PA X (e :: es) t) (hdb : (x == ("__debug__" : Str)) = false := by decide) (he : starEach (e :: es) X.env = (false, eval e X.env) :: starEach es X.env := by rfl) (hpl : (backTo pos (starEach es X.env)).any (·.1) = false := by rfl) :
    PE X (.Call (.Name x p) (e :: es) [] pos) (tCall sp dvs E t) :=
  ⟨fun pins s σ H Q I h => wpAny_Call_Name_kw (ld_glob I gl at_ (PySem.W.callWith_K (h₀ := X.base) I.ok.mod.kin kp (thn (ha.run pos pins s σ H _ I h) fun us s1 ⟨vs, H1, I1, r, q⟩ => ⟨I1.kIn, runX F gd room bind dv pass I1 r q⟩) he hpl) hdb)⟩
end
end Gx2
namespace Od
open PySem PySem.Spec PyProof.Rows L2 GxR Nw Dr Kp
/-! ### anything: values by their data; no list among them is one of f -/
mutual
inductive OdV (f : Addr → Prop) (H : Hp) : V → PyData → Prop
  | non : OdV f H .non .none
  | bl (b : Bool) : OdV f H (.bl b) (.bool b)
  | int (i : Int) : OdV f H (.int i) (.int i)
  | str (x : Str) : OdV f H (.str x) (.str x)
  | lst {a : Addr} {xs : List V} {ds : List PyData} : H a = some (.lst xs) → ¬ f a → OdAll f H xs ds → OdV f H (.ref a) (.list ds)
  | tup {a : Addr} {xs : List V} {ds : List PyData} : H a = some (.tup xs) → OdAll f H xs ds → OdV f H (.ref a) (.tuple ds)
inductive OdAll (f : Addr → Prop) (H : Hp) : List V → List PyData → Prop
  | nil : OdAll f H [] []
  | cons {v : V} {vs : List V} {d : PyData} {ds : List PyData} : OdV f H v d → OdAll f H vs ds → OdAll f H (v :: vs) (d :: ds)
end
variable {f : Addr → Prop} {H H' : Hp}
mutual
theorem OdV.dp {K : PySem.W.Frag} : ∀ {d : PyData} {v : V}, OdV f H v d → Dp K H v d
  | .none, _, h => by cases h; exact .non
  | .bool _, _, h => by cases h; exact .bl _
  | .int _, _, h => by cases h; exact .int _
  | .str _, _, h => by cases h; exact .str _
  | .list ds, _, h => by cases h with | lst h1 _ h2 => exact .lst (.of h1) (OdAll.dp h2)
  | .tuple ds, _, h => by cases h with | tup h1 h2 => exact .tup (.of h1) (OdAll.dp h2)
  | .dict _, _, h => by cases h
theorem OdAll.dp {K : PySem.W.Frag} : ∀ {ds : List PyData} {vs : List V}, OdAll f H vs ds → DpAll K H vs ds
  | [], _, h => by cases h; exact .nil
  | d :: ds, _, h => by cases h with | cons h1 h2 => exact .cons (OdV.dp h1) (OdAll.dp h2)
end
mutual
theorem OdV.ke (k : Ke f H H') : ∀ {d : PyData} {v : V}, OdV f H v d → OdV f H' v d
  | .none, _, h => by cases h; exact .non
  | .bool _, _, h => by cases h; exact .bl _
  | .int _, _, h => by cases h; exact .int _
  | .str _, _, h => by cases h; exact .str _
  | .list ds, _, h => by cases h with | lst h1 n h2 => exact .lst (k.lst h1 n) n (OdAll.ke k h2)
  | .tuple ds, _, h => by cases h with | tup h1 h2 => exact .tup (k.tups _ _ h1) (OdAll.ke k h2)
  | .dict _, _, h => by cases h
theorem OdAll.ke (k : Ke f H H') : ∀ {ds : List PyData} {vs : List V}, OdAll f H vs ds → OdAll f H' vs ds
  | [], _, h => by cases h; exact .nil
  | d :: ds, _, h => by cases h with | cons h1 h2 => exact .cons (OdV.ke k h1) (OdAll.ke k h2)
end
theorem OdAll.len : ∀ {vs : List V} {ds : List PyData}, OdAll f H vs ds → vs.length = ds.length
  | [], _, h => by cases h; rfl
  | v :: vs, _, h => by cases h with | cons h1 h2 => rw [List.length_cons, List.length_cons, OdAll.len h2]
theorem OdAll.at : ∀ {vs : List V} {ds : List PyData} {i : Nat} {v : V}, OdAll f H vs ds → vs[i]? = some v → ∃ d, ds[i]? = some d ∧ OdV f H v d
  | [], _, _, _, _, e => by simp at e
  | v :: vs, _, 0, _, h, e => by
    cases h with
    | cons h1 h2 =>
      cases e
      exact ⟨_, rfl, h1⟩
  | v :: vs, _, i + 1, _, h, e => by
    cases h with
    | cons h1 h2 => exact OdAll.at (vs := vs) (i := i) h2 (by simpa using e)
theorem OdAll.cat : ∀ {vs us : List V} {ds es : List PyData}, OdAll f H vs ds → OdAll f H us es → OdAll f H (vs ++ us) (ds ++ es)
  | [], _, _, _, h, g => by cases h; exact g
  | v :: vs, _, _, _, h, g => by cases h with | cons h1 h2 => exact .cons h1 (OdAll.cat h2 g)
theorem OdAll.one {v : V} {d : PyData} (h : OdV f H v d) : OdAll f H [v] [d] := .cons h .nil
theorem OdAll.take : ∀ {vs : List V} {ds : List PyData} (n : Nat), OdAll f H vs ds → OdAll f H (vs.take n) (ds.take n)
  | _, _, 0, _ => by rw [List.take_zero, List.take_zero]; exact .nil
  | [], _, n + 1, h => by cases h; exact .nil
  | v :: vs, _, n + 1, h => by cases h with | cons h1 h2 => exact .cons h1 (OdAll.take n h2)
theorem OdAll.drop : ∀ {vs : List V} {ds : List PyData} (n : Nat), OdAll f H vs ds → OdAll f H (vs.drop n) (ds.drop n)
  | _, _, 0, h => by rw [List.drop_zero, List.drop_zero]; exact h
  | [], _, n + 1, h => by cases h; exact .nil
  | v :: vs, _, n + 1, h => by cases h with | cons h1 h2 => exact OdAll.drop n h2
theorem OdAll.rev : ∀ {vs : List V} {ds : List PyData}, OdAll f H vs ds → OdAll f H vs.reverse ds.reverse
  | [], _, h => by cases h; exact .nil
  | v :: vs, _, h => by
    cases h with
    | cons h1 h2 =>
      rw [List.reverse_cons, List.reverse_cons]
      exact (OdAll.rev h2).cat (.one h1)
theorem od_ints : ∀ ns : List Int, OdAll f H (ns.map V.int) (ns.map PyData.int)
  | [] => .nil
  | n :: r => .cons (.int n) (od_ints r)
/-! ### what anything is -/
def tyD : PyData → String
  | .none => "NoneType" | .bool _ => "bool" | .int _ => "int" | .str _ => "str" | .list _ => "list" | .tuple _ => "tuple" | .dict _ => "dict"
theorem OdV.ty {K : PySem.W.Frag} {d : PyData} {v : V} (h : OdV f H v d) : TyX K H v (.type (tyD d)) := by
  cases h with
  | non => exact .base .non
  | bl b => exact .base (.bl b)
  | int i => exact .base (.int i)
  | str x => exact .base (.str x)
  | lst h1 _ _ => exact .base (.lst h1)
  | tup h1 _ => exact .base (.tup h1)
def whD : PyData → Bool
  | .int _ => true
  | _ => false
def tuD : PyData → Bool
  | .tuple _ => true
  | _ => false
def numD : PyData → Int → Bool
  | .int n, m => decide (0 ≤ n) && decide (n < m)
  | _, _ => false
/-! ### small data, to be shown -/
structure Sm (B : Nat) (d : PyData) : Prop where
  sh : d.showable = true
  nd : d.hasDict = false
  dp : d.depth ≤ 6
  sz : d.shown.length ≤ B
structure SmAll (B : Nat) (ds : List PyData) : Prop where
  sh : PyData.showableAll ds = true
  nd : PyData.hasDictAll ds = false
  dp : PyData.depthAll ds ≤ 5
  sz : ∀ x ∈ PyData.shownAll ds, x.length ≤ B
theorem SmAll.nil {B : Nat} : SmAll B [] := ⟨rfl, rfl, by decide, fun _ h => nomatch h⟩
theorem SmAll.cons {B : Nat} {d : PyData} {ds : List PyData} (h : Sm B d) (h5 : d.depth ≤ 5) (t : SmAll B ds) : SmAll B (d :: ds) := by
  refine ⟨?_, ?_, ?_, fun x hx => ?_⟩
  · show (PyData.showable d && PyData.showableAll ds) = true
    rw [h.sh, t.sh]
    rfl
  · show (PyData.hasDict d || PyData.hasDictAll ds) = false
    rw [h.nd, t.nd]
    rfl
  · exact Nat.max_le.mpr ⟨h5, t.dp⟩
  · rcases List.mem_cons.mp hx with e | e
    · rw [e]
      exact h.sz
    · exact t.sz x e
theorem shownAll_len : ∀ ds : List PyData, (PyData.shownAll ds).length = ds.length
  | [] => rfl
  | _ :: r => congrArg (· + 1) (shownAll_len r)
theorem sum_le {B : Nat} : ∀ {l : List Nat}, (∀ x ∈ l, x ≤ B) → l.sum ≤ B * l.length
  | [], _ => Nat.zero_le _
  | x :: r, h => by
    have h1 := h x List.mem_cons_self
    have h2 := sum_le (l := r) fun y hy => h y (List.mem_cons_of_mem _ hy)
    rw [List.sum_cons, List.length_cons, Nat.mul_add]
    omega
theorem SmAll.sum {B : Nat} {ds : List PyData} (h : SmAll B ds) : ((PyData.shownAll ds).map (·.length)).sum ≤ B * ds.length := by
  have := sum_le (B := B) (l := (PyData.shownAll ds).map (·.length)) fun x hx => by
    obtain ⟨y, hy, rfl⟩ := List.mem_map.mp hx
    exact h.sz y hy
  rw [List.length_map, shownAll_len] at this
  exact this
theorem SmAll.list {B n B' : Nat} {ds : List PyData} (h : SmAll B ds) (l : ds.length ≤ n) (hb : B * n + 2 * n + 3 ≤ B') : Sm B' (.list ds) := by
  have e := listText_len_le (PyData.shownAll ds)
  have s := h.sum
  rw [shownAll_len] at e
  have m : B * ds.length ≤ B * n := Nat.mul_le_mul_left _ l
  exact ⟨h.sh, h.nd, by show PyData.depthAll ds + 1 ≤ 6; have := h.dp; omega, by show (listText (PyData.shownAll ds)).length ≤ B'; omega⟩
theorem SmAll.tuple {B n B' : Nat} {ds : List PyData} (h : SmAll B ds) (l : ds.length ≤ n) (hb : B * n + 2 * n + 3 ≤ B') : Sm B' (.tuple ds) := by
  have e := tupleText_len_le (PyData.shownAll ds)
  have s := h.sum
  rw [shownAll_len] at e
  have m : B * ds.length ≤ B * n := Nat.mul_le_mul_left _ l
  exact ⟨h.sh, h.nd, by show PyData.depthAll ds + 1 ≤ 6; have := h.dp; omega, by show (tupleText (PyData.shownAll ds)).length ≤ B'; omega⟩
theorem SmAll.cat {B : Nat} : ∀ {ds es : List PyData}, SmAll B ds → SmAll B es → SmAll B (ds ++ es)
  | [], _, _, g => g
  | d :: r, es, h, g => by
    have hs := h.sh
    have hn := h.nd
    have hd := h.dp
    have hz := h.sz
    have hs' : (PyData.showable d && PyData.showableAll r) = true := hs
    have hn' : (PyData.hasDict d || PyData.hasDictAll r) = false := hn
    rw [Bool.and_eq_true] at hs'
    rw [Bool.or_eq_false_iff] at hn'
    have hd' : Nat.max (PyData.depth d) (PyData.depthAll r) ≤ 5 := hd
    have z := Nat.max_le.mp hd'
    have hr : SmAll B r := ⟨hs'.2, hn'.2, z.2, fun x hx => hz x (List.mem_cons_of_mem _ hx)⟩
    exact SmAll.cons ⟨hs'.1, hn'.1, by omega, hz _ List.mem_cons_self⟩ z.1 (SmAll.cat hr g)
theorem SmAll.of {B : Nat} : ∀ {ds : List PyData}, (∀ d ∈ ds, Sm B d ∧ d.depth ≤ 5) → SmAll B ds
  | [], _ => .nil
  | d :: r, h => SmAll.cons (h d List.mem_cons_self).1 (h d List.mem_cons_self).2 (SmAll.of fun x hx => h x (List.mem_cons_of_mem _ hx))
theorem SmAll.mem {B : Nat} : ∀ {ds : List PyData}, SmAll B ds → ∀ d ∈ ds, Sm B d ∧ d.depth ≤ 5
  | [], _, d, hd => nomatch hd
  | e :: r, h, d, hd => by
    have hs' : (PyData.showable e && PyData.showableAll r) = true := h.sh
    have hn' : (PyData.hasDict e || PyData.hasDictAll r) = false := h.nd
    rw [Bool.and_eq_true] at hs'
    rw [Bool.or_eq_false_iff] at hn'
    have hd' : Nat.max (PyData.depth e) (PyData.depthAll r) ≤ 5 := h.dp
    have z := Nat.max_le.mp hd'
    rcases List.mem_cons.mp hd with u | u
    · rw [u]
      exact ⟨⟨hs'.1, hn'.1, by omega, h.sz _ List.mem_cons_self⟩, z.1⟩
    · exact SmAll.mem (ds := r) ⟨hs'.2, hn'.2, z.2, fun x hx => h.sz x (List.mem_cons_of_mem _ hx)⟩ d u
theorem Sm.mono {B B' : Nat} {d : PyData} (h : Sm B d) (l : B ≤ B') : Sm B' d := ⟨h.sh, h.nd, h.dp, Nat.le_trans h.sz l⟩
theorem small_ints : ∀ n : Fin 130, PyData.showable (.int ((n.val : Int) - 60)) = true ∧ (PyData.shown (.int ((n.val : Int) - 60))).length ≤ 3 := by decide +kernel
theorem sm_int {n : Int} (h0 : -60 ≤ n) (h1 : n < 70) : Sm 3 (.int n) := by
  have := small_ints ⟨(n + 60).toNat, by omega⟩
  rw [show (((n + 60).toNat : Nat) : Int) - 60 = n by omega] at this
  exact ⟨this.1, rfl, by show 0 ≤ 6; decide, this.2⟩
theorem OdV.un {g : Addr → Prop} (h : ∀ a, g a → f a) : ∀ {d : PyData} {v : V}, OdV f H v d → OdV g H v d := fun {d v} => OdV.rec (motive_1 := fun v d _ => OdV g H v d) (motive_2 := fun vs ds _ => OdAll g H vs ds) .non .bl .int .str (fun h1 n _ ih => .lst h1 (fun z => n (h _ z)) ih) (fun h1 _ ih => .tup h1 ih) .nil (fun _ _ i1 i2 => .cons i1 i2)
theorem OdAll.un {g : Addr → Prop} (h : ∀ a, g a → f a) : ∀ {ds : List PyData} {vs : List V}, OdAll f H vs ds → OdAll g H vs ds
  | [], _, x => by cases x; exact .nil
  | _ :: _, _, x => by cases x with | cons h1 h2 => exact .cons (OdV.un h h1) (OdAll.un h h2)
end Od
namespace Fx
open PySem PySem.Spec PyProof.Rows L2 GxR Nw Dr Kp Se Cl En Fo Fd Od
abbrev sWhp : Stmt := topS 1
theorem scWhp : FnScope ["thing"] ["thing"] (defScope sWhp) := ⟨rfl, rfl, rfl, by decide +kernel, rfl, by decide +kernel, by decide +kernel⟩
abbrev sNum : Stmt := topS 3
theorem scNum : FnScope ["thing", "many"] ["thing", "many"] (defScope sNum) := ⟨rfl, rfl, rfl, by decide +kernel, rfl, by decide +kernel, by decide +kernel⟩
abbrev sIst : Stmt := topS 10
theorem scIst : FnScope ["claims", "held", "thing"] ["claims", "held", "thing"] (defScope sIst) := ⟨rfl, rfl, rfl, by decide +kernel, rfl, by decide +kernel, by decide +kernel⟩
abbrev sHbe : Stmt := topS 11
theorem scHbe : FnScope ["claims", "says", "steps", "held", "step"] ["claims", "says", "steps"] (defScope sHbe) := ⟨rfl, rfl, rfl, by decide +kernel, rfl, by decide +kernel, by decide +kernel⟩
/-! ### steps by their data -/
def datS (s : Nat × Int) : PyData := .tuple [.int (s.1 : Nat), .int s.2]
theorem datS_inj {s t : Nat × Int} (h : datS s = datS t) : s = t := by
  obtain ⟨a, b⟩ := s
  obtain ⟨c, d⟩ := t
  have h1 := PyData.tuple.inj h
  obtain ⟨e1, e2⟩ := List.cons.inj h1
  obtain ⟨e3, _⟩ := List.cons.inj e2
  have := PyData.int.inj e1
  have := PyData.int.inj e3
  have e : a = c := by omega
  subst e
  subst this
  rfl
theorem map_inj {α β : Type} {g : α → β} (hg : ∀ x y, g x = g y → x = y) : ∀ {l m : List α}, l.map g = m.map g → l = m
  | [], [], _ => rfl
  | [], _ :: _, h => by cases h
  | _ :: _, [], h => by cases h
  | a :: l, b :: m, h => by
    obtain ⟨h1, h2⟩ := List.cons.inj h
    rw [hg _ _ h1, map_inj hg h2]
def Step (css : List (List Int)) (hd : List Int) (d : PyData) : Prop := ∃ (n : Nat) (x : Int) (cs : List Int), d = datS (n, x) ∧ css[n]? = some cs ∧ Forces cs hd x
def StOk (css : List (List Int)) (says : List Int) (ds : List PyData) (hd : List Int) : Prop := ∃ steps : List (Nat × Int), ds = steps.map datS ∧ StepsOk css says steps ∧ hd = says ++ steps.map (·.2)
theorem StOk.nil {css : List (List Int)} {says : List Int} : StOk css says [] says := ⟨[], rfl, .nil, by simp⟩
theorem StOk.snoc {css : List (List Int)} {says hd cs : List Int} {ds : List PyData} {n : Nat} {x : Int} (h : StOk css says ds hd) (hc : css[n]? = some cs) (f : Forces cs hd x) : StOk css says (ds ++ [datS (n, x)]) (hd ++ [x]) := by
  obtain ⟨steps, rfl, st, rfl⟩ := h
  exact ⟨steps ++ [(n, x)], by rw [List.map_append]; rfl, st.snoc hc f, by rw [List.map_append, ← List.append_assoc]; rfl⟩
theorem StOk.no {css : List (List Int)} {says hd hd' : List Int} {ds : List PyData} {i : Nat} {d : PyData} (h : StOk css says (ds.take i) hd) (hi : ds[i]? = some d) (n : ¬ Step css hd d) (g : StOk css says ds hd') : False := by
  obtain ⟨s1, e1, _, rfl⟩ := h
  obtain ⟨s2, rfl, st, _⟩ := g
  rw [← List.map_take] at e1
  have e := map_inj (fun _ _ => datS_inj) e1
  subst e
  rw [List.getElem?_map] at hi
  cases hs : s2[i]? with
  | none =>
    rw [hs] at hi
    cases hi
  | some s =>
    rw [hs] at hi
    cases hi
    obtain ⟨cs, hc, f⟩ := st i s hs
    exact n ⟨s.1, s.2, cs, rfl, hc, f⟩
theorem StOk.one {css : List (List Int)} {says hd hd' : List Int} {ds : List PyData} (h : StOk css says ds hd) (g : StOk css says ds hd') : hd = hd' := by
  obtain ⟨s1, e1, _, rfl⟩ := h
  obtain ⟨s2, e2, _, rfl⟩ := g
  rw [map_inj (fun _ _ => datS_inj) (e1.symm.trans e2)]
theorem ints_eqv : ∀ {l m : List Int}, PyData.eqv (.list (l.map PyData.int)) (.list (m.map PyData.int)) = true → l = m := fun {l m} h => by
  have : PyData.eqvAll (l.map PyData.int) (m.map PyData.int) = true := h
  clear h
  induction l generalizing m with
  | nil =>
    cases m with
    | nil => rfl
    | cons a r => exact absurd this (by simp [PyData.eqvAll])
  | cons a r ih =>
    cases m with
    | nil => exact absurd this (by simp [PyData.eqvAll])
    | cons b t =>
      simp only [List.map_cons, PyData.eqvAll, Bool.and_eq_true] at this
      have e : a = b := by simpa [PyData.eqv] using this.1
      rw [e, ih this.2]
theorem take_snoc {α : Type} {l : List α} {i : Nat} {x : α} (h : l[i]? = some x) : l.take (i + 1) = l.take i ++ [x] := by
  rw [List.take_add_one, h]
  rfl
section
variable {P : Program} {w : World} {K : PySem.W.Frag} {mg : Str → Option Value} {base : Heap} {fW fN fY fL : Addr} {fdW fdN fdY fdL : FuncData}
/-- is_whole(thing), whole(thing): of anything -/
def spWhG : Sp := fun vs H Q _ => ∃ (f0 : Addr → Prop) (v : V) (d : PyData), vs = [v] ∧ OdV f0 H v d ∧ Q (.bl (whD d)) H
theorem ok_whl {f : Addr} {fd : FuncData} {k : Nat} (F : Fun K "_law_e_whole" "_law_e_whole" sWho f fd) (T : Zl mg) : FnOk P w K mg base CX0 (k + 1) f fd ["thing"] spWhG := by
  refine F.ok scWho (fun vs H Q E h => ?_) (fun cdv A outer s H vs Q E hr h => ?_)
  · obtain ⟨f0, v, d, rfl, _⟩ := h
    rfl
  · obtain ⟨f0, v, d, rfl, hv, q⟩ := h
    refine ⟨_, (pss_one (ps_ret (pe_and (pe_callB call_isi (by rfl) T.z_isinstance (by decide +kernel) (pa_cons (pv 0) (pa_cons (pe_bltn (v := .ty "int") (u := .type "int") (by rfl) T.z_int (by decide +kernel) rfl) pa_nil))) (pe_one (pe_not (pe_callB call_isi (by rfl) T.z_isinstance (by decide +kernel) (pa_cons (pv 0) (pa_cons (pe_bltn (v := .ty "bool") (u := .type "bool") (by rfl) T.z_bool (by decide +kernel) rfl) pa_nil)))))))), ?_⟩
    have t := hv.ty (K := K)
    cases d with
    | int n => exact ⟨_, rfl, v, .ty "int", .type "int", .type "int", true, rfl, .ty _, t, kit_ty (by decide +kernel), _, rfl, _, rfl, v, .ty "bool", .type "int", .type "bool", false, rfl, .ty _, t, kit_ty (by decide +kernel), _, rfl, q⟩
    | bool b => exact ⟨_, rfl, v, .ty "int", .type "bool", .type "int", true, rfl, .ty _, t, kit_ty (by decide +kernel), _, rfl, _, rfl, v, .ty "bool", .type "bool", .type "bool", true, rfl, .ty _, t, kit_ty (by decide +kernel), _, rfl, q⟩
    | none => exact ⟨_, rfl, v, .ty "int", .type "NoneType", .type "int", false, rfl, .ty _, t, kit_ty (by decide +kernel), _, rfl, q⟩
    | str x => exact ⟨_, rfl, v, .ty "int", .type "str", .type "int", false, rfl, .ty _, t, kit_ty (by decide +kernel), _, rfl, q⟩
    | list x => exact ⟨_, rfl, v, .ty "int", .type "list", .type "int", false, rfl, .ty _, t, kit_ty (by decide +kernel), _, rfl, q⟩
    | tuple x => exact ⟨_, rfl, v, .ty "int", .type "tuple", .type "int", false, rfl, .ty _, t, kit_ty (by decide +kernel), _, rfl, q⟩
    | dict x => cases hv
theorem ok_whp {f : Addr} {fd : FuncData} {k : Nat} (F : Fun K "is_whole" "is_whole" sWhp f fd) (T : Zl mg) : FnOk P w K mg base CX0 (k + 1) f fd ["thing"] spWhG := by
  refine F.ok scWhp (fun vs H Q E h => ?_) (fun cdv A outer s H vs Q E hr h => ?_)
  · obtain ⟨f0, v, d, rfl, _⟩ := h
    rfl
  · obtain ⟨f0, v, d, rfl, hv, q⟩ := h
    refine ⟨_, (pss_one (ps_ret (pe_and (pe_callB call_isi (by rfl) T.z_isinstance (by decide +kernel) (pa_cons (pv 0) (pa_cons (pe_bltn (v := .ty "int") (u := .type "int") (by rfl) T.z_int (by decide +kernel) rfl) pa_nil))) (pe_one (pe_not (pe_callB call_isi (by rfl) T.z_isinstance (by decide +kernel) (pa_cons (pv 0) (pa_cons (pe_bltn (v := .ty "bool") (u := .type "bool") (by rfl) T.z_bool (by decide +kernel) rfl) pa_nil)))))))), ?_⟩
    have t := hv.ty (K := K)
    cases d with
    | int n => exact ⟨_, rfl, v, .ty "int", .type "int", .type "int", true, rfl, .ty _, t, kit_ty (by decide +kernel), _, rfl, _, rfl, v, .ty "bool", .type "int", .type "bool", false, rfl, .ty _, t, kit_ty (by decide +kernel), _, rfl, q⟩
    | bool b => exact ⟨_, rfl, v, .ty "int", .type "bool", .type "int", true, rfl, .ty _, t, kit_ty (by decide +kernel), _, rfl, _, rfl, v, .ty "bool", .type "bool", .type "bool", true, rfl, .ty _, t, kit_ty (by decide +kernel), _, rfl, q⟩
    | none => exact ⟨_, rfl, v, .ty "int", .type "NoneType", .type "int", false, rfl, .ty _, t, kit_ty (by decide +kernel), _, rfl, q⟩
    | str x => exact ⟨_, rfl, v, .ty "int", .type "str", .type "int", false, rfl, .ty _, t, kit_ty (by decide +kernel), _, rfl, q⟩
    | list x => exact ⟨_, rfl, v, .ty "int", .type "list", .type "int", false, rfl, .ty _, t, kit_ty (by decide +kernel), _, rfl, q⟩
    | tuple x => exact ⟨_, rfl, v, .ty "int", .type "tuple", .type "int", false, rfl, .ty _, t, kit_ty (by decide +kernel), _, rfl, q⟩
    | dict x => cases hv
/-- is_number_of(thing, many): of anything -/
def spNmG : Sp := fun vs H Q _ => ∃ (f0 : Addr → Prop) (v : V) (d : PyData) (m : Int), vs = [v, .int m] ∧ OdV f0 H v d ∧ Q (.bl (numD d m)) H
theorem ok_num {f : Addr} {fd : FuncData} {k : Nat} (F : Fun K "is_number_of" "is_number_of" sNum f fd) (FW : Fun K "is_whole" "is_whole" sWhp fW fdW) (bW : Binds K fdW ["thing"] []) (gW : mg "is_whole" = some (.ref fW)) (GW : FnOk P w K mg base CX0 1 fW fdW ["thing"] spWhG) :
    FnOk P w K mg base CX0 (k + 2) f fd ["thing", "many"] spNmG := by
  refine F.ok scNum (fun vs H Q E h => ?_) (fun cdv A outer s H vs Q E hr h => ?_)
  · obtain ⟨f0, v, d, m, rfl, _⟩ := h
    rfl
  · obtain ⟨f0, v, d, m, rfl, hv, q⟩ := h
    have hr1 : Room 1 _ := hr.mono (by omega)
    refine ⟨_, (pss_one (ps_ret (pe_and (pe_call GW hr1 (by rfl) gW FW.kp bW .nil pass0 (pa_cons (pv 0) pa_nil)) (pe_one (pe_chain op_le op_lt pe_int (pv 0) (pv 1)))))), ?_⟩
    cases d with
    | int n =>
      cases hv
      refine ⟨_, rfl, f0, .int n, .int n, rfl, .int n, _, rfl, ?_⟩
      refine ⟨_, rfl, 0, _, rfl, rfl, decide (0 ≤ n), rfl, ?_⟩
      have q : Q (.bl (decide (0 ≤ n) && decide (n < m))) H := q
      cases e1 : decide (0 ≤ n) with
      | false =>
        rw [e1] at q
        exact q
      | true =>
        rw [e1] at q
        exact ⟨_, rfl, _, _, rfl, rfl, q⟩
    | bool b => exact ⟨_, rfl, f0, v, _, rfl, hv, _, rfl, q⟩
    | none => exact ⟨_, rfl, f0, v, _, rfl, hv, _, rfl, q⟩
    | str x => exact ⟨_, rfl, f0, v, _, rfl, hv, _, rfl, q⟩
    | list x => exact ⟨_, rfl, f0, v, _, rfl, hv, _, rfl, q⟩
    | tuple x => exact ⟨_, rfl, f0, v, _, rfl, hv, _, rfl, q⟩
    | dict x => cases hv
theorem two_of {f0 : Addr → Prop} {H : Hp} {xs : List V} {ds : List PyData} (h : OdAll f0 H xs ds) (l : xs.length = 2) : ∃ v0 v1 d0 d1, xs = [v0, v1] ∧ ds = [d0, d1] ∧ OdV f0 H v0 d0 ∧ OdV f0 H v1 d1 := by
  match xs, l, h with
  | [v0, v1], _, .cons h0 (.cons h1 .nil) => exact ⟨v0, v1, _, _, rfl, rfl, h0, h1⟩
theorem num_int {d : PyData} {m : Int} (h : numD d m = true) : ∃ n : Nat, d = .int (n : Nat) ∧ ((n : Nat) : Int) < m := by
  cases d with
  | int i =>
    have h : (decide (0 ≤ i) && decide (i < m)) = true := h
    rw [Bool.and_eq_true] at h
    have h1 := of_decide_eq_true h.1
    have h2 := of_decide_eq_true h.2
    exact ⟨i.toNat, by rw [Int.toNat_of_nonneg h1], by omega⟩
  | _ => cases h
theorem wh_int {d : PyData} (h : whD d = true) : ∃ x : Int, d = .int x := by
  cases d with
  | int x => exact ⟨x, rfl⟩
  | _ => cases h
/-- is_step(claims, held, thing): of anything -/
def spIst : Sp := fun vs H Q _ => ∃ (v u : V) (a : Addr) (f0 : Addr → Prop) (css : List (List Int)) (hd : List Int) (d : PyData), vs = [v, .ref a, u] ∧ Bk H v css ∧ H a = some (.lst (hd.map V.int)) ∧ OdV f0 H u d ∧ (∀ cs ∈ css, Sy cs) ∧ ∀ H' b, Ke Nof H H' → (b = true ↔ Step css hd d) → Q (.bl b) H'
theorem ok_ist {f : Addr} {fd : FuncData} {k : Nat} (F : Fun K "is_step" "is_step" sIst f fd) (T : Zl mg) (FW : Fun K "is_whole" "is_whole" sWhp fW fdW) (bW : Binds K fdW ["thing"] []) (gW : mg "is_whole" = some (.ref fW)) (GW : FnOk P w K mg base CX0 1 fW fdW ["thing"] spWhG)
    (FN : Fun K "is_number_of" "is_number_of" sNum fN fdN) (bN : Binds K fdN ["thing", "many"] []) (gN : mg "is_number_of" = some (.ref fN)) (GN : FnOk P w K mg base CX0 2 fN fdN ["thing", "many"] spNmG)
    (FY : Fun K "forced_say" "forced_say" sFsy fY fdY) (bY : Binds K fdY ["claim", "held"] []) (gY : mg "forced_say" = some (.ref fY)) (GY : FnOk P w K mg base CX0 1 fY fdY ["claim", "held"] spFsy) :
    FnOk P w K mg base CX0 (k + 3) f fd ["claims", "held", "thing"] spIst := by
  refine F.ok scIst (fun vs H Q E h => ?_) (fun cdv A outer s H vs Q E hr h => ?_)
  · obtain ⟨v, u, a, f0, css, hd, d, rfl, _⟩ := h
    rfl
  · obtain ⟨v, u, a, f0, css, hd, d, rfl, ⟨b, bvs, rfl, hb, lv, hv⟩, ha, hu, sy, q⟩ := h
    have hr1 : Room 1 _ := hr.mono (by omega)
    have hr2 : Room 2 _ := hr.mono (by omega)
    refine ⟨_, (Evl.pss_cut (ps_if (PW.pt (pw_or (pt_not (pt_val (pe_callB call_isi (by rfl) T.z_isinstance (by decide +kernel) (pa_cons (pv 2) (pa_cons (pe_bltn (v := .ty "tuple") (u := .type "tuple") (by rfl) T.z_tuple (by decide +kernel) rfl) pa_nil))))) (pw_or1 (pt_cmpR op_ne (pe_callB call_len_seq (by rfl) T.z_len (by decide +kernel) (pa_cons (pv 2) pa_nil)) pe_int (nomark _))))) (pss_one (ps_ret pe_bl)) pss_nil)
      (Evl.pss_cut (ps_if (PW.pt (pw_or (pt_not (pt_val (pe_call GN hr2 (by rfl) gN FN.kp bN .nil pass0 (pa_cons (pe_ix ix_tup (pv 2) pe_int (fun _ _ => rfl)) (pa_cons (pe_callB call_len_seq (by rfl) T.z_len (by decide +kernel) (pa_cons (pv 0) pa_nil)) pa_nil))))) (pw_or1 (pt_not (pt_val (pe_call GW hr1 (by rfl) gW FW.kp bW .nil pass0 (pa_cons (pe_ix ix_tup (pv 2) pe_int (fun _ _ => rfl)) pa_nil))))))) (pss_one (ps_ret pe_bl)) pss_nil)
      (pss_one (ps_ret (pe_cmpR op_eq (pe_call GY hr1 (by rfl) gY FY.kp bY .nil pass0 (pa_cons (pe_ix ix_tup (pv 0) (pe_ix ix_tup (pv 2) pe_int (fun _ _ => rfl)) (fun _ _ => rfl)) (pa_cons (pv 1) pa_nil))) (pe_ix ix_tup (pv 2) pe_int (fun _ _ => rfl)) (nomark _)))))), ?_⟩
    -- a tuple of two
    refine Evl.q_cut (M := fun σ' H' => σ' = [some (.ref b), some (.ref a), some u] ∧ H' = H ∧ ∃ (ua : Addr) (v0 v1 : V) (d0 d1 : PyData), u = .ref ua ∧ H ua = some (.tup [v0, v1]) ∧ d = .tuple [d0, d1] ∧ OdV f0 H v0 d0 ∧ OdV f0 H v1 d1) ?_ ?_
    · have t := hu.ty (K := K)
      have no : (∀ ds, d ≠ .tuple ds) → Q (.bl false) H := fun z => q H false (.refl _ _) ⟨fun y => (nomatch y), fun ⟨n, x, cs, e, _⟩ => absurd e (z _)⟩
      cases hu with
      | non => exact ⟨_, rfl, _, .ty "tuple", .type "NoneType", .type "tuple", false, rfl, .ty _, t, kit_ty (by decide +kernel), _, rfl, no fun _ z => nomatch z⟩
      | bl y => exact ⟨_, rfl, _, .ty "tuple", .type "bool", .type "tuple", false, rfl, .ty _, t, kit_ty (by decide +kernel), _, rfl, no fun _ z => nomatch z⟩
      | int y => exact ⟨_, rfl, _, .ty "tuple", .type "int", .type "tuple", false, rfl, .ty _, t, kit_ty (by decide +kernel), _, rfl, no fun _ z => nomatch z⟩
      | str y => exact ⟨_, rfl, _, .ty "tuple", .type "str", .type "tuple", false, rfl, .ty _, t, kit_ty (by decide +kernel), _, rfl, no fun _ z => nomatch z⟩
      | lst _ _ _ => exact ⟨_, rfl, _, .ty "tuple", .type "list", .type "tuple", false, rfl, .ty _, t, kit_ty (by decide +kernel), _, rfl, no fun _ z => nomatch z⟩
      | @tup ua xs ds hua hall =>
        refine ⟨_, rfl, _, .ty "tuple", .type "tuple", .type "tuple", true, rfl, .ty _, t, kit_ty (by decide +kernel), _, rfl, ?_⟩
        refine ⟨_, rfl, ua, _, rfl, .inr (.of hua), rfl, _, rfl, ite2 (fun e => ?_) (fun e => ?_)⟩
        · refine q H false (.refl _ _) ⟨fun y => (nomatch y), fun ⟨n, x, cs, z, _⟩ => ?_⟩
          have l := hall.len
          rw [show ds = [.int (n : Nat), .int x] from PyData.tuple.inj z] at l
          rw [l] at e
          exact absurd e (by simp)
        · have l2 : xs.length = 2 := Classical.byContradiction fun z => e (by
            have : V.int ((xs.length : Nat) : Int) ≠ V.int 2 := fun y => z (by have := V.int.inj y; omega)
            rw [decide_eq_false this]
            rfl)
          obtain ⟨v0, v1, d0, d1, rfl, rfl, h0, h1⟩ := two_of hall l2
          exact ⟨rfl, rfl, ua, v0, v1, d0, d1, rfl, hua, rfl, h0, h1⟩
    rintro σ' H' ⟨rfl, rfl, ua, v0, v1, d0, d1, rfl, hua, rfl, h0, h1⟩
    -- of whole numbers
    refine Evl.q_cut (M := fun σ' H2 => σ' = [some (.ref b), some (.ref a), some (.ref ua)] ∧ H2 = H' ∧ ∃ (n : Nat) (x : Int), d0 = .int (n : Nat) ∧ d1 = .int x ∧ n < css.length) ?_ ?_
    · have no : (¬ ∃ (n : Nat) (x : Int), d0 = .int (n : Nat) ∧ d1 = .int x ∧ n < css.length) → Q (.bl false) H' := fun z => q H' false (.refl _ _) ⟨fun y => (nomatch y), fun ⟨n, x, cs, e, hc, _⟩ => by
        have e1 := List.cons.inj (PyData.tuple.inj e)
        exact (z ⟨n, x, e1.1, (List.cons.inj e1.2).1, (List.getElem?_eq_some_iff.mp hc).1⟩).elim⟩
      refine ⟨_, rfl, ua, _, 0, v0, rfl, rfl, .of hua, rfl, _, rfl, b, _, rfl, .inr (.of hb), f0, v0, d0, _, rfl, h0, _, rfl, ?_⟩
      cases e0 : numD d0 ((bvs.length : Nat) : Int) with
      | false =>
        refine no fun ⟨n, x, z0, z1, ln⟩ => ?_
        rw [z0] at e0
        have : (decide (0 ≤ ((n : Nat) : Int)) && decide (((n : Nat) : Int) < ((bvs.length : Nat) : Int))) = true := by
          rw [decide_eq_true (by omega), decide_eq_true (by omega)]
          rfl
        exact absurd (this.symm.trans e0) (by decide)
      | true =>
        obtain ⟨n, rfl, ln⟩ := num_int e0
        refine ⟨_, rfl, ua, _, 1, v1, rfl, rfl, .of hua, rfl, f0, v1, d1, rfl, h1, _, rfl, ?_⟩
        cases e1 : whD d1 with
        | false =>
          refine no fun ⟨m, x, z0, z1, _⟩ => ?_
          rw [z1] at e1
          cases e1
        | true =>
          obtain ⟨x, rfl⟩ := wh_int e1
          exact ⟨rfl, rfl, n, x, rfl, rfl, by omega⟩
    rintro σ' H2 ⟨rfl, rfl, n, x, rfl, rfl, ln⟩
    cases h0
    cases h1
    have hcv := List.getElem?_eq_getElem (show n < bvs.length by omega)
    have hc := List.getElem?_eq_getElem ln
    have tx := hv n _ _ hcv hc
    have lc := (sy _ (List.getElem_mem ln)).len
    generalize css[n] = cs at hc tx lc
    generalize bvs[n]'(by omega) = cv at hcv tx
    refine ⟨_, rfl, _, rfl, ua, _, 0, .int (n : Nat), rfl, rfl, .of hua, rfl, b, _, _, cv, rfl, rfl, .of hb, at_of (j := n) rfl hcv, _, rfl, cv, a, cs, hd, rfl, tx, ha, by omega, fun H3 y s3 fo => ?_, fun H3 s3 nf => ?_⟩
    · refine ⟨_, rfl, ua, _, 1, .int x, rfl, rfl, .of (s3 _ _ hua), rfl, rfl, q H3 _ (.same s3) ⟨fun z => ?_, fun ⟨n', x', cs', e, hc', fo'⟩ => ?_⟩⟩
      · have := V.int.inj (of_decide_eq_true z)
        subst this
        exact ⟨n, y, cs, rfl, hc, fo⟩
      · have e1 := List.cons.inj (PyData.tuple.inj e)
        have en := PyData.int.inj e1.1
        have ex := PyData.int.inj (List.cons.inj e1.2).1
        have en : n = n' := by omega
        subst en
        have ex : x = x' := ex
        subst ex
        rw [hc] at hc'
        cases hc'
        have := fo.1.symm.trans fo'.1
        have : y = x := (List.cons.inj this).1
        exact decide_eq_true (by rw [this])
    · refine ⟨_, rfl, ua, _, 1, .int x, rfl, rfl, .of (s3 _ _ hua), rfl, rfl, q H3 _ (.same s3) ⟨fun z => (nomatch of_decide_eq_true z), fun ⟨n', x', cs', e, hc', fo'⟩ => ?_⟩⟩
      have e1 := List.cons.inj (PyData.tuple.inj e)
      have en := PyData.int.inj e1.1
      have en : n = n' := by omega
      subst en
      rw [hc] at hc'
      cases hc'
      exact absurd fo' (nf _)
/-- held_behind(claims, says, steps), gone(claims, says, steps): of any list -/
def spGnG : Sp := fun vs H Q _ => ∃ (v : V) (a t : Addr) (f0 : Addr → Prop) (css : List (List Int)) (says : List Int) (us : List V) (ds : List PyData), vs = [v, .ref a, .ref t] ∧ Bk H v css ∧ H a = some (.lst (says.map V.int)) ∧ H t = some (.lst us) ∧ OdAll f0 H us ds ∧ (∀ cs ∈ css, Sy cs) ∧ Sy says ∧
  (∀ H' p hd, Ke Nof H H' → StOk css says ds hd → Sy hd → H' p = some (.lst (hd.map V.int)) → Q (.ref p) H') ∧ ∀ H', Ke Nof H H' → (∀ hd, ¬ StOk css says ds hd) → Q .non H'
theorem ok_hbe {f fS : Addr} {fd fdS : FuncData} {k : Nat} (F : Fun K "held_behind" "held_behind" sHbe f fd) (T : Zl mg) (FS : Fun K "is_step" "is_step" sIst fS fdS) (bS : Binds K fdS ["claims", "held", "thing"] []) (gS : mg "is_step" = some (.ref fS)) (GS : FnOk P w K mg base CX0 3 fS fdS ["claims", "held", "thing"] spIst) :
    FnOk P w K mg base CX0 (k + 4) f fd ["claims", "says", "steps"] spGnG := by
  refine F.ok scHbe (fun vs H Q E h => ?_) (fun cdv A outer s H vs Q E hr h => ?_)
  · obtain ⟨v, a, t, f0, css, says, us, ds, rfl, _⟩ := h
    rfl
  · obtain ⟨v, a, t, f0, css, says, us, ds, rfl, hb, ha, ht, od, sy, sa, q1, q2⟩ := h
    have hr3 : Room 3 _ := hr.mono (by omega)
    refine ⟨_, (Evl.pss_cut (ps_set (i := 3) scHbe.nd rfl (.inl rfl) (pe_callTy call_list_ofN (by rfl) T.z_list (by decide +kernel) (pa_cons (pv 1) pa_nil)))
      (Evl.pss_cut (ps_for PassesOwn.never rfl (pi_list (pv 2)) (pg_name (i := 4) scHbe.nd rfl (.inl rfl)) (Evl.pss_cut (ps_if (pt_not (pt_val (pe_call GS hr3 (by rfl) gS FS.kp bS .nil pass0 (pa_cons (pv 0) (pa_cons (pv 3) (pa_cons (pv 4) pa_nil)))))) (pss_one (ps_ret pe_non)) pss_nil)
      (pss_one (ps_expr (pe_bm PySem.F.plainAttrs_list PySem.F.slot_list_append PySem.F.type_list_append mt_append (pv 3) (pa_cons (pe_ix ix_tup (pv 4) pe_int (fun _ _ => rfl)) pa_nil))))))
      (pss_one (ps_ret (pv 3))))), ?_⟩
    refine Evl.q_cut (M := fun σ' H' => ∃ D, σ' = [some v, some (.ref a), some (.ref t), some (.ref D), none] ∧ H D = none ∧ Same H H' ∧ H' D = some (.lst (says.map V.int))) ?_ ?_
    · exact ⟨_, rfl, a, _, rfl, .inl (.of ha), fun D H1 nD s1 hD _ => ⟨D, rfl, nD, s1, hD⟩⟩
    rintro σ' H1 ⟨D, rfl, nD, s1, hD⟩
    have frD : Frs H D := .of nD
    refine Evl.q_cut (M := fun σ' H' => ∃ (y4 : Option V) (hd : List Int), σ' = [some v, some (.ref a), some (.ref t), some (.ref D), y4] ∧ Ke Nof H H' ∧ H' D = some (.lst (hd.map V.int)) ∧ StOk css says ds hd ∧ Sy hd) ?_ ?_
    · refine ⟨_, rfl, t, rfl, ⟨_, .of (s1 _ _ ht)⟩, for_list (K := K) (a := t) (xs := us) (Pv := fun i σ H' => ∃ (y4 : Option V) (hd : List Int), σ = [some v, some (.ref a), some (.ref t), some (.ref D), y4] ∧ Ke Nof H H' ∧ H' D = some (.lst (hd.map V.int)) ∧ StOk css says (ds.take i) hd ∧ Sy hd) ?_ (fun i σ H' _ p => ?_) ?_ ?_⟩
      · exact ⟨none, says, rfl, .same s1, hD, .nil, sa⟩
      · obtain ⟨_, _, _, k2, _⟩ := p
        exact .of (k2.lst ht fun z => z)
      · clear hD s1 H1
        rintro i x σ H1 hx ⟨y4, hd, rfl, k1, hD, so, sh⟩
        obtain ⟨d, hd1, ox⟩ := od.at hx
        have lh := sh.len
        refine Evl.q_cut (M := fun σ' H' => σ' = [some v, some (.ref a), some (.ref t), some (.ref D), some x] ∧ Ke Nof H H' ∧ H' D = some (.lst (hd.map V.int)) ∧ Step css hd d) ?_ ?_
        · refine ⟨_, rfl, _, rfl, _, rfl, v, x, D, f0, css, hd, d, rfl, hb.ke k1, hD, ox.ke k1.all, sy, fun H2 b k2 hb2 => ⟨b, rfl, ?_⟩⟩
          cases b with
          | false => exact q2 H2 (k1.trans k2) fun hd' z => so.no hd1 (fun y => (nomatch hb2.mpr y)) z
          | true => exact ⟨rfl, k1.trans k2, k2.lst hD fun z => z, hb2.mp rfl⟩
        clear k1 hD
        rintro σ' H2 ⟨rfl, k2, hD, n, z, cs, rfl, hc, fo⟩
        have ox2 := ox.ke (f := f0) k2.all
        cases ox2 with
        | @tup ua xs _ hua hall =>
          obtain ⟨v0, v1, d0, d1, rfl, e, h0, h1⟩ := two_of hall (by rw [hall.len]; rfl)
          have e1 := List.cons.inj e
          have e2 := (List.cons.inj e1.2).1
          have e0 := e1.1
          subst e2
          cases h1
          refine ⟨_, rfl, .inl ⟨rfl, _, .of hD⟩, _, rfl, ua, _, 1, .int z, rfl, rfl, .of hua, rfl, D, _, _, rfl, rfl, hD, small1000 (by rw [List.length_map]; omega), ?_⟩
          refine ⟨_, hd ++ [z], rfl, k2.write frD hD, by rw [upd_same]; simp, ?_, sy_snoc sh (sy cs (List.mem_of_getElem? hc)) fo⟩
          rw [take_snoc hd1]
          exact so.snoc hc fo
      · rintro σ H2 ⟨y4, hd, rfl, k2, hD2, so, sh⟩
        rw [od.len, List.take_length] at so
        exact ⟨y4, hd, rfl, k2, hD2, so, sh⟩
    rintro σ' H2 ⟨y4, hd, rfl, k2, hD2, so, sh⟩
    exact ⟨_, rfl, q1 H2 D hd k2 so sh hD2⟩
theorem ok_gon {f : Addr} {fd : FuncData} {k : Nat} (F : Fun K "_law_e_gone" "_law_e_gone" sGon f fd) (T : Zl mg) (FL : Fun K "_law_e_left" "_law_e_left" sElf fL fdL) (bL : Binds K fdL ["claim", "held"] []) (gL : mg "_law_e_left" = some (.ref fL)) (GL : FnOk P w K mg base CX0 1 fL fdL ["claim", "held"] spElf)
    (FW : Fun K "_law_e_whole" "_law_e_whole" sWho fW fdW) (bW : Binds K fdW ["thing"] []) (gW : mg "_law_e_whole" = some (.ref fW)) (GW : FnOk P w K mg base CX0 1 fW fdW ["thing"] spWhG) :
    FnOk P w K mg base CX0 (k + 2) f fd ["claims", "says", "steps"] spGnG := by
  refine F.ok scGon (fun vs H Q E h => ?_) (fun cdv A outer s H vs Q E hr h => ?_)
  · obtain ⟨v, a, t, f0, css, says, us, ds, rfl, _⟩ := h
    rfl
  · obtain ⟨v, a, t, f0, css, says, us, ds, rfl, ⟨b, bvs, rfl, hb, lv, hv⟩, ha, ht, od, sy, sa, q1, q2⟩ := h
    have hr1 : Room 1 _ := hr.mono (by omega)
    refine ⟨_, (Evl.pss_cut (ps_set (i := 3) scGon.nd rfl (.inl rfl) (pe_callTy call_list_ofN (by rfl) T.z_list (by decide +kernel) (pa_cons (pv 1) pa_nil)))
      (Evl.pss_cut (ps_for PassesOwn.never rfl (pi_list (pv 2)) (pg_name (i := 4) scGon.nd rfl (.inl rfl)) (Evl.pss_cut (ps_if (PW.pt (pw_or (pt_not (pt_val (pe_callB call_isi (by rfl) T.z_isinstance (by decide +kernel) (pa_cons (pv 4) (pa_cons (pe_bltn (v := .ty "tuple") (u := .type "tuple") (by rfl) T.z_tuple (by decide +kernel) rfl) pa_nil))))) (pw_or (pt_cmpR op_ne (pe_callB call_len_seq (by rfl) T.z_len (by decide +kernel) (pa_cons (pv 4) pa_nil)) pe_int (nomark _)) (pw_or (pt_not (pt_val (pe_call GW hr1 (by rfl) gW FW.kp bW .nil pass0 (pa_cons (pe_ix ix_tup (pv 4) pe_int (fun _ _ => rfl)) pa_nil)))) (pw_or1 (pt_not (pt_val (pe_call GW hr1 (by rfl) gW FW.kp bW .nil pass0 (pa_cons (pe_ix ix_tup (pv 4) pe_int (fun _ _ => rfl)) pa_nil))))))))) (pss_one (ps_ret pe_non)) pss_nil)
      (Evl.pss_cut (ps_if (PW.pt (pw_or (pt_not (pt_chain op_le op_lt pe_int (pe_ix ix_tup (pv 4) pe_int (fun _ _ => rfl)) (pe_callB call_len_seq (by rfl) T.z_len (by decide +kernel) (pa_cons (pv 0) pa_nil)))) (pw_or (pt_cmpR op_in_seq (pe_ix ix_tup (pv 4) pe_int (fun _ _ => rfl)) (pv 3) (by rfl)) (pw_or1 (pt_cmpR op_notIn_seq (pe_ix ix_tup (pv 4) pe_int (fun _ _ => rfl)) (pe_ix ix_tup (pv 0) (pe_ix ix_tup (pv 4) pe_int (fun _ _ => rfl)) (fun _ _ => rfl)) (by rfl)))))) (pss_one (ps_ret pe_non)) pss_nil)
      (Evl.pss_cut (ps_if (pt_cmpR (op_neD hr.units) (pe_call GL hr1 (by rfl) gL FL.kp bL .nil pass0 (pa_cons (pe_ix ix_tup (pv 0) (pe_ix ix_tup (pv 4) pe_int (fun _ _ => rfl)) (fun _ _ => rfl)) (pa_cons (pv 3) pa_nil))) (pe_lstN (pa_cons (pe_ix ix_tup (pv 4) pe_int (fun _ _ => rfl)) pa_nil)) (nomark _)) (pss_one (ps_ret pe_non)) pss_nil)
      (pss_one (ps_expr (pe_bm PySem.F.plainAttrs_list PySem.F.slot_list_append PySem.F.type_list_append mt_append (pv 3) (pa_cons (pe_ix ix_tup (pv 4) pe_int (fun _ _ => rfl)) pa_nil))))))))
      (pss_one (ps_ret (pv 3))))), ?_⟩
    refine Evl.q_cut (M := fun σ' H' => ∃ D, σ' = [some (.ref b), some (.ref a), some (.ref t), some (.ref D), none] ∧ H D = none ∧ Same H H' ∧ H' D = some (.lst (says.map V.int))) ?_ ?_
    · exact ⟨_, rfl, a, _, rfl, .inl (.of ha), fun D H1 nD s1 hD _ => ⟨D, rfl, nD, s1, hD⟩⟩
    rintro σ' H1 ⟨D, rfl, nD, s1, hD⟩
    have frD : Frs H D := .of nD
    refine Evl.q_cut (M := fun σ' H' => ∃ (y4 : Option V) (hd : List Int), σ' = [some (.ref b), some (.ref a), some (.ref t), some (.ref D), y4] ∧ Ke Nof H H' ∧ H' D = some (.lst (hd.map V.int)) ∧ StOk css says ds hd ∧ Sy hd) ?_ ?_
    · refine ⟨_, rfl, t, rfl, ⟨_, .of (s1 _ _ ht)⟩, for_list (K := K) (a := t) (xs := us) (Pv := fun i σ H' => ∃ (y4 : Option V) (hd : List Int), σ = [some (.ref b), some (.ref a), some (.ref t), some (.ref D), y4] ∧ Ke Nof H H' ∧ H' D = some (.lst (hd.map V.int)) ∧ StOk css says (ds.take i) hd ∧ Sy hd) ?_ (fun i σ H' _ p => ?_) ?_ ?_⟩
      · exact ⟨none, says, rfl, .same s1, hD, .nil, sa⟩
      · obtain ⟨_, _, _, k2, _⟩ := p
        exact .of (k2.lst ht fun z => z)
      · clear hD s1 H1
        rintro i x σ H1 hx ⟨y4, hd, rfl, k1, hD, so, sh⟩
        obtain ⟨d, hd1, ox⟩ := od.at hx
        have lh := sh.len
        have hb1 := k1.tups _ _ hb
        have no : (¬ Step css hd d) → ∀ {H2 : Hp}, Ke Nof H1 H2 → Q .non H2 := fun n {H2} k2 => q2 H2 (k1.trans k2) fun hd' z => so.no hd1 n z
        -- a tuple of two whole numbers
        refine Evl.q_cut (M := fun σ' H' => σ' = [some (.ref b), some (.ref a), some (.ref t), some (.ref D), some x] ∧ H' = H1 ∧ ∃ (ua : Addr) (n z : Int), x = .ref ua ∧ H1 ua = some (.tup [.int n, .int z]) ∧ d = .tuple [.int n, .int z]) ?_ ?_
        · have ox1 := ox.ke (f := f0) k1.all
          have t := ox1.ty (K := K)
          have nt : (∀ ds, d ≠ .tuple ds) → Q .non H1 := fun z => no (fun ⟨n, x, cs, e, _⟩ => absurd e (z _)) (.refl _ _)
          cases ox1 with
          | non => exact ⟨_, rfl, _, .ty "tuple", .type "NoneType", .type "tuple", false, rfl, .ty _, t, kit_ty (by decide +kernel), _, rfl, nt fun _ z => nomatch z⟩
          | bl y => exact ⟨_, rfl, _, .ty "tuple", .type "bool", .type "tuple", false, rfl, .ty _, t, kit_ty (by decide +kernel), _, rfl, nt fun _ z => nomatch z⟩
          | int y => exact ⟨_, rfl, _, .ty "tuple", .type "int", .type "tuple", false, rfl, .ty _, t, kit_ty (by decide +kernel), _, rfl, nt fun _ z => nomatch z⟩
          | str y => exact ⟨_, rfl, _, .ty "tuple", .type "str", .type "tuple", false, rfl, .ty _, t, kit_ty (by decide +kernel), _, rfl, nt fun _ z => nomatch z⟩
          | lst _ _ _ => exact ⟨_, rfl, _, .ty "tuple", .type "list", .type "tuple", false, rfl, .ty _, t, kit_ty (by decide +kernel), _, rfl, nt fun _ z => nomatch z⟩
          | @tup ua xs ds' hua hall =>
            refine ⟨_, rfl, _, .ty "tuple", .type "tuple", .type "tuple", true, rfl, .ty _, t, kit_ty (by decide +kernel), _, rfl, ?_⟩
            refine ⟨_, rfl, ua, _, rfl, .inr (.of hua), rfl, _, rfl, ite2 (fun e => ?_) (fun e => ?_)⟩
            · refine iteT (no (fun ⟨n, x, cs, z, _⟩ => ?_) (.refl _ _))
              have l := hall.len
              rw [show ds' = [.int (n : Nat), .int x] from PyData.tuple.inj z] at l
              rw [l] at e
              exact absurd e (by simp)
            · have l2 : xs.length = 2 := Classical.byContradiction fun z => e (by
                have : V.int ((xs.length : Nat) : Int) ≠ V.int 2 := fun y => z (by have := V.int.inj y; omega)
                rw [decide_eq_false this]
                rfl)
              obtain ⟨v0, v1, d0, d1, rfl, rfl, h0, h1⟩ := two_of hall l2
              refine ⟨_, rfl, ua, _, 0, v0, rfl, rfl, .of hua, rfl, f0, v0, d0, rfl, h0, _, rfl, ?_⟩
              cases e0 : whD d0 with
              | false =>
                refine no (fun ⟨n, x, cs, z, _⟩ => ?_) (.refl _ _)
                have e1 := List.cons.inj (PyData.tuple.inj z)
                rw [e1.1] at e0
                cases e0
              | true =>
                obtain ⟨n, rfl⟩ := wh_int e0
                refine ⟨_, rfl, ua, _, 1, v1, rfl, rfl, .of hua, rfl, f0, v1, d1, rfl, h1, _, rfl, ?_⟩
                cases e1 : whD d1 with
                | false =>
                  refine no (fun ⟨n, x, cs, z, _⟩ => ?_) (.refl _ _)
                  have e2 := List.cons.inj (PyData.tuple.inj z)
                  rw [(List.cons.inj e2.2).1] at e1
                  cases e1
                | true =>
                  obtain ⟨z, rfl⟩ := wh_int e1
                  cases h0
                  cases h1
                  exact ⟨rfl, rfl, ua, n, z, rfl, hua, rfl⟩
        rintro σ' H1' ⟨rfl, rfl, ua, n, z, rfl, hua, rfl⟩
        -- which the claim forces
        have inv : Step css hd (.tuple [.int n, .int z]) → ∃ (m : Nat) (cs : List Int), n = (m : Nat) ∧ css[m]? = some cs ∧ Forces cs hd z := fun ⟨m, x, cs, e, hc, fo⟩ => by
          have e1 := List.cons.inj (PyData.tuple.inj e)
          have ex := PyData.int.inj (List.cons.inj e1.2).1
          have ex : z = x := ex
          subst ex
          exact ⟨m, cs, PyData.int.inj e1.1, hc, fo⟩
        refine Evl.q_cut (M := fun σ' H' => σ' = [some (.ref b), some (.ref a), some (.ref t), some (.ref D), some (.ref ua)] ∧ H' = H1' ∧ ∃ (m : Nat) (cs : List Int) (cv : V), n = (m : Nat) ∧ css[m]? = some cs ∧ bvs[m]? = some cv ∧ TupI H1' cv cs ∧ z ∉ hd) ?_ ?_
        · refine ⟨_, rfl, ua, _, 0, .int n, rfl, rfl, .of hua, rfl, _, _, rfl, rfl, decide (0 ≤ n), rfl, ?_⟩
          cases e0 : decide (0 ≤ n) with
          | false =>
            refine ⟨false, rfl, no (fun y => ?_) (.refl _ _)⟩
            obtain ⟨m, cs, rfl, _⟩ := inv y
            exact absurd (decide_eq_true (by omega : (0 : Int) ≤ (m : Nat))) (by rw [e0]; decide)
          | true =>
            have n0 := of_decide_eq_true e0
            obtain ⟨m, rfl⟩ : ∃ m : Nat, n = (m : Nat) := ⟨n.toNat, by omega⟩
            refine ⟨_, rfl, b, _, rfl, .inr (.of hb1), _, _, rfl, rfl, decide (((m : Nat) : Int) < ((bvs.length : Nat) : Int)), rfl, ?_⟩
            cases e1 : decide (((m : Nat) : Int) < ((bvs.length : Nat) : Int)) with
            | false =>
              refine no (fun y => ?_) (.refl _ _)
              obtain ⟨m', cs, em, hc, _⟩ := inv y
              have := (List.getElem?_eq_some_iff.mp hc).1
              exact absurd (decide_eq_true (by omega : ((m : Nat) : Int) < ((bvs.length : Nat) : Int))) (by rw [e1]; decide)
            | true =>
              have lm := of_decide_eq_true e1
              refine ⟨_, rfl, ua, _, 1, .int z, rfl, rfl, .of hua, rfl, _, rfl, D, _, rfl, .inl (.of hD), rfl, ints_flat hd, inV (.int z) (hd.map V.int), rfl, ?_⟩
              cases e2 : inV (.int z) (hd.map V.int) with
              | true =>
                refine no (fun y => ?_) (.refl _ _)
                obtain ⟨_, _, _, _, fo⟩ := inv y
                exact fo.2 ((in_ints _ _).mp e2)
              | false =>
                have hcv := List.getElem?_eq_getElem (show m < bvs.length by omega)
                have hc := List.getElem?_eq_getElem (show m < css.length by omega)
                have tx := (hv m _ _ hcv hc).ke k1
                generalize bvs[m]'(by omega) = cv at hcv tx
                generalize css[m]'(by omega) = cs at hc tx
                obtain ⟨ca, rfl, hca⟩ := id tx
                refine ⟨_, rfl, ua, _, 1, .int z, rfl, rfl, .of hua, rfl, _, rfl, _, rfl, ua, _, 0, .int (m : Nat), rfl, rfl, .of hua, rfl, b, _, _, .ref ca, rfl, rfl, .of hb1, at_of (j := m) rfl hcv, ca, _, rfl, .inr (.of hca), rfl, ints_flat cs, !inV (.int z) (cs.map V.int), rfl, ?_⟩
                cases e3 : inV (.int z) (cs.map V.int) with
                | false =>
                  refine no (fun y => ?_) (.refl _ _)
                  obtain ⟨m', cs', em, hc', fo⟩ := inv y
                  have em : m = m' := by omega
                  subst em
                  rw [hc] at hc'
                  cases hc'
                  rw [(in_ints _ _).mpr fo.mem] at e3
                  cases e3
                | true =>
                  exact ⟨rfl, rfl, m, cs, _, rfl, hc, hcv, tx, fun y => by
                    rw [(in_ints _ _).mpr y] at e2
                    cases e2⟩
        rintro σ' H1'' ⟨rfl, rfl, m, cs, cv, rfl, hc, hcv, tx, nz⟩
        have lcs := (sy cs (List.mem_of_getElem? hc)).len
        refine Evl.q_cut (M := fun σ' H' => σ' = [some (.ref b), some (.ref a), some (.ref t), some (.ref D), some (.ref ua)] ∧ Same H1'' H' ∧ Forces cs hd z) ?_ ?_
        · refine ⟨_, rfl, _, rfl, ua, _, 0, .int (m : Nat), rfl, rfl, .of hua, rfl, b, _, _, cv, rfl, rfl, .of hb1, at_of (j := m) rfl hcv, _, rfl, cv, D, cs, hd, rfl, tx, hD, by omega, fun L H2 nL s2 hL => ?_⟩
          refine ⟨_, rfl, ua, _, 1, .int z, rfl, rfl, .of (s2 _ _ hua), rfl, by show 1 ≤ sizeLine; decide, fun M H3 nM s3 hM _ => ?_⟩
          refine ⟨_, _, .lst (.of (s3 _ _ hL)) (dp_ints _), .lst (.of hM) (dp_ints [z]), shaped_list (flat_ints _), shaped_list (flat_ints [z]), _, rfl, ite2 (fun e => ?_) (fun e => ?_)⟩
          · refine no (fun y => ?_) (.same (s2.trans s3))
            obtain ⟨m', cs', em, hc', fo⟩ := inv y
            have em : m = m' := by omega
            subst em
            rw [hc] at hc'
            cases hc'
            rw [fo.1, eqv_self (shaped_list (flat_ints [z]))] at e
            cases e
          · have e2 : PyData.eqv (.list ((left cs hd).map PyData.int)) (.list ([z].map PyData.int)) = true := by
              cases y : PyData.eqv (.list ((left cs hd).map PyData.int)) (.list ([z].map PyData.int)) with
              | true => rfl
              | false => exact absurd (by rw [y]; rfl) e
            exact ⟨rfl, s2.trans s3, ints_eqv e2, nz⟩
        rintro σ' H2 ⟨rfl, s2, fo⟩
        have hD2 := s2 _ _ hD
        refine ⟨_, rfl, .inl ⟨rfl, _, .of hD2⟩, _, rfl, ua, _, 1, .int z, rfl, rfl, .of (s2 _ _ hua), rfl, D, _, _, rfl, rfl, hD2, small1000 (by rw [List.length_map]; omega), ?_⟩
        refine ⟨_, hd ++ [z], rfl, (k1.trans (.same s2)).write frD hD2, by rw [upd_same]; simp, ?_, sy_snoc sh (sy cs (List.mem_of_getElem? hc)) fo⟩
        rw [take_snoc hd1]
        exact so.snoc hc fo
      · rintro σ H2 ⟨y4, hd, rfl, k2, hD2, so, sh⟩
        rw [od.len, List.take_length] at so
        exact ⟨y4, hd, rfl, k2, hD2, so, sh⟩
    rintro σ' H2 ⟨y4, hd, rfl, k2, hD2, so, sh⟩
    exact ⟨_, rfl, q1 H2 D hd k2 so sh hD2⟩
end
end Fx
namespace Fx
open PySem PySem.Spec PyProof.Rows L2 GxR Nw Dr Kp Se Cl En Fo Fd Od
abbrev sSfa : Stmt := topS 12
theorem scSfa : FnScope ["claims", "says", "steps", "number", "held"] ["claims", "says", "steps", "number"] (defScope sSfa) := ⟨rfl, rfl, rfl, by decide +kernel, rfl, by decide +kernel, by decide +kernel⟩
abbrev sSst : Stmt := topS 13
theorem scSst : FnScope ["claims", "says", "steps", "held"] ["claims", "says", "steps"] (defScope sSst) := ⟨rfl, rfl, rfl, by decide +kernel, rfl, by decide +kernel, by decide +kernel⟩
def FallD (css : List (List Int)) (says : List Int) (ds : List PyData) (dn : PyData) : Prop := ∃ (hd : List Int) (n : Nat) (cs : List Int), StOk css says ds hd ∧ dn = .int (n : Nat) ∧ css[n]? = some cs ∧ left cs hd = []
def StandD (css : List (List Int)) (says : List Int) (ds : List PyData) : Prop := ∃ hd : List Int, StOk css says ds hd ∧ Stand css hd
section
variable {P : Program} {w : World} {K : PySem.W.Frag} {mg : Str → Option Value} {base : Heap} {fW fN fY fL fH fF fA fT fG : Addr} {fdW fdN fdY fdL fdH fdF fdA fdT fdG : FuncData}
def spSfG (Po : Addr) : Sp := fun vs H Q _ => ∃ (v u : V) (a t : Addr) (f0 : Addr → Prop) (css : List (List Int)) (says : List Int) (us : List V) (ds : List PyData) (dn : PyData), vs = [v, .ref a, .ref t, u] ∧ Bk H v css ∧ H a = some (.lst (says.map V.int)) ∧ H t = some (.lst us) ∧ OdAll f0 H us ds ∧ OdV f0 H u dn ∧ (∀ cs ∈ css, Sy cs) ∧ Sy says ∧ TabG H Po ∧ ∀ H' b, Ke Nof H H' → (b = true ↔ FallD css says ds dn) → Q (.bl b) H'
def spStG (Po : Addr) : Sp := fun vs H Q _ => ∃ (v : V) (a t : Addr) (f0 : Addr → Prop) (css : List (List Int)) (says : List Int) (us : List V) (ds : List PyData), vs = [v, .ref a, .ref t] ∧ Bk H v css ∧ H a = some (.lst (says.map V.int)) ∧ H t = some (.lst us) ∧ OdAll f0 H us ds ∧ (∀ cs ∈ css, Sy cs) ∧ Sy says ∧ TabG H Po ∧ ∀ H' b, Ke Nof H H' → (b = true ↔ StandD css says ds) → Q (.bl b) H'
theorem ok_sfa {f Po : Addr} {fd : FuncData} {k : Nat} (F : Fun K "shows_fall" "shows_fall" sSfa f fd) (T : Zl mg) (FH : Fun K "held_behind" "held_behind" sHbe fH fdH) (bH : Binds K fdH ["claims", "says", "steps"] []) (gH : mg "held_behind" = some (.ref fH)) (GH : FnOk P w K mg base CX0 4 fH fdH ["claims", "says", "steps"] spGnG)
    (FN : Fun K "is_number_of" "is_number_of" sNum fN fdN) (bN : Binds K fdN ["thing", "many"] []) (gN : mg "is_number_of" = some (.ref fN)) (GN : FnOk P w K mg base CX0 2 fN fdN ["thing", "many"] spNmG)
    (kF : PySem.W.keepIn K (.ref fF) = true) (bF : Binds K fdF ["claim", "held"] []) (gF : mg "falls" = some (.ref fF)) (GF : FnOk P w K mg base CX0 3 fF fdF ["claim", "held"] (spFal Po)) :
    FnOk P w K mg base CX0 (k + 5) f fd ["claims", "says", "steps", "number"] (spSfG Po) := by
  refine F.ok scSfa (fun vs H Q E h => ?_) (fun cdv A outer s H vs Q E hr h => ?_)
  · obtain ⟨v, u, a, t, f0, css, says, us, ds, dn, rfl, _⟩ := h
    rfl
  · obtain ⟨v, u, a, t, f0, css, says, us, ds, dn, rfl, hbk, ha, ht, od, ou, sy, sa, tg, q⟩ := h
    have hr4 : Room 4 _ := hr.mono (by omega)
    have hr3 : Room 3 _ := hr.mono (by omega)
    have hr2 : Room 2 _ := hr.mono (by omega)
    refine ⟨_, (Evl.pss_cut (ps_set (i := 4) scSfa.nd rfl (.inl rfl) (pe_call GH hr4 (by rfl) gH FH.kp bH .nil pass0 (pa_cons (pv 0) (pa_cons (pv 1) (pa_cons (pv 2) pa_nil)))))
      (Evl.pss_cut (ps_if (PW.pt (pw_or (pt_cmpR op_isN (pv 4) pe_non (nomark _)) (pw_or1 (pt_not (pt_val (pe_call GN hr2 (by rfl) gN FN.kp bN .nil pass0 (pa_cons (pv 3) (pa_cons (pe_callB call_len_seq (by rfl) T.z_len (by decide +kernel) (pa_cons (pv 0) pa_nil)) pa_nil)))))))) (pss_one (ps_ret pe_bl)) pss_nil)
      (pss_one (ps_ret (pe_call GF hr3 (by rfl) gF kF bF .nil pass0 (pa_cons (pe_ix ix_tup (pv 0) (pv 3) (fun _ _ => rfl)) (pa_cons (pv 4) pa_nil))))))), ?_⟩
    refine Evl.q_cut (M := fun σ' H' => Ke Nof H H' ∧ ((∃ (D : Addr) (hd : List Int), σ' = [some v, some (.ref a), some (.ref t), some u, some (.ref D)] ∧ H' D = some (.lst (hd.map V.int)) ∧ StOk css says ds hd) ∨ (σ' = [some v, some (.ref a), some (.ref t), some u, some .non] ∧ ∀ hd, ¬ StOk css says ds hd))) ?_ ?_
    · exact ⟨_, rfl, _, rfl, _, rfl, v, a, t, f0, css, says, us, ds, rfl, hbk, ha, ht, od, sy, sa, fun H1 D hd k1 so sh hD => ⟨k1, .inl ⟨D, hd, rfl, hD, so⟩⟩, fun H1 k1 no => ⟨k1, .inr ⟨rfl, no⟩⟩⟩
    rintro σ' H1 ⟨k1, ⟨D, hd, rfl, hD, so⟩ | ⟨rfl, no⟩⟩
    · obtain ⟨b, bvs, rfl, hb, lv, hv⟩ := hbk.ke k1
      have one : ∀ {hd'}, StOk css says ds hd' → hd = hd' := fun z => so.one z
      refine Evl.q_cut (M := fun σ' H' => σ' = [some (.ref b), some (.ref a), some (.ref t), some u, some (.ref D)] ∧ H' = H1 ∧ ∃ n : Nat, u = .int (n : Nat) ∧ dn = .int (n : Nat) ∧ n < css.length) ?_ ?_
      · refine ⟨_, rfl, rfl, false, rfl, ?_⟩
        refine ⟨_, rfl, _, rfl, b, _, rfl, .inr (.of hb), f0, u, dn, _, rfl, ou.ke k1.all, _, rfl, ?_⟩
        cases e : numD dn ((bvs.length : Nat) : Int) with
        | false =>
          refine q H1 false k1 ⟨fun y => (nomatch y), fun ⟨hd', n, cs, _, e1, hc, _⟩ => ?_⟩
          rw [e1] at e
          have ln := (List.getElem?_eq_some_iff.mp hc).1
          have : (decide (0 ≤ ((n : Nat) : Int)) && decide (((n : Nat) : Int) < ((bvs.length : Nat) : Int))) = true := by
            rw [decide_eq_true (by omega), decide_eq_true (by omega)]
            rfl
          exact absurd (this.symm.trans e) (by decide)
        | true =>
          obtain ⟨n, rfl, ln⟩ := num_int e
          cases ou
          exact ⟨rfl, rfl, n, rfl, rfl, by omega⟩
      rintro σ' H1' ⟨rfl, rfl, n, rfl, rfl, ln⟩
      have hcv := List.getElem?_eq_getElem (show n < bvs.length by omega)
      have hc := List.getElem?_eq_getElem ln
      have tx := hv n _ _ hcv hc
      generalize css[n] = cs at hc tx
      generalize bvs[n]'(by omega) = cv at hcv tx
      refine ⟨_, rfl, _, rfl, b, _, _, cv, rfl, rfl, .of hb, at_of (j := n) rfl hcv, _, rfl, cv, D, cs, hd, rfl, tx, hD, k1.tabs _ tg, fun H2 d k2 hd2 => q H2 d (k1.trans k2) ⟨fun z => ⟨hd, n, cs, so, rfl, hc, hd2.mp z⟩, fun ⟨hd', m, cs', so', e1, hc', l'⟩ => ?_⟩⟩
      have em := PyData.int.inj e1
      have em : n = m := by omega
      subst em
      rw [hc] at hc'
      cases hc'
      rw [← one so'] at l'
      exact hd2.mpr l'
    · refine Evl.q_cut (M := fun _ _ => False) ?_ (fun _ _ z => z.elim)
      exact ⟨_, rfl, rfl, true, rfl, q H1 false k1 ⟨fun y => (nomatch y), fun ⟨hd', _, _, so', _⟩ => absurd so' (no _)⟩⟩
theorem ok_sst {f Po : Addr} {fd : FuncData} {k : Nat} (F : Fun K "shows_stand" "shows_stand" sSst f fd) (FH : Fun K "held_behind" "held_behind" sHbe fH fdH) (bH : Binds K fdH ["claims", "says", "steps"] []) (gH : mg "held_behind" = some (.ref fH)) (GH : FnOk P w K mg base CX0 4 fH fdH ["claims", "says", "steps"] spGnG)
    (FA : Fun K "first_fall" "first_fall" sFfa fA fdA) (bA : Binds K fdA ["claims", "held"] []) (gA : mg "first_fall" = some (.ref fA)) (GA : FnOk P w K mg base CX0 4 fA fdA ["claims", "held"] (spFfa Po))
    (FT : Fun K "first_step" "first_step" sFst fT fdT) (bT : Binds K fdT ["claims", "held"] []) (gT : mg "first_step" = some (.ref fT)) (GT : FnOk P w K mg base CX0 2 fT fdT ["claims", "held"] spFst) :
    FnOk P w K mg base CX0 (k + 5) f fd ["claims", "says", "steps"] (spStG Po) := by
  refine F.ok scSst (fun vs H Q E h => ?_) (fun cdv A outer s H vs Q E hr h => ?_)
  · obtain ⟨v, a, t, f0, css, says, us, ds, rfl, _⟩ := h
    rfl
  · obtain ⟨v, a, t, f0, css, says, us, ds, rfl, hbk, ha, ht, od, sy, sa, tg, q⟩ := h
    have hr4 : Room 4 _ := hr.mono (by omega)
    have hr2 : Room 2 _ := hr.mono (by omega)
    refine ⟨_, (Evl.pss_cut (ps_set (i := 3) scSst.nd rfl (.inl rfl) (pe_call GH hr4 (by rfl) gH FH.kp bH .nil pass0 (pa_cons (pv 0) (pa_cons (pv 1) (pa_cons (pv 2) pa_nil)))))
      (Evl.pss_cut (ps_if (pt_cmpR op_isN (pv 3) pe_non (nomark _)) (pss_one (ps_ret pe_bl)) pss_nil)
      (pss_one (ps_ret (pe_and (pe_cmpR op_isN (pe_call GA hr4 (by rfl) gA FA.kp bA .nil pass0 (pa_cons (pv 0) (pa_cons (pv 3) pa_nil))) pe_non (nomark _)) (pe_one (pe_cmpR op_isN (pe_call GT hr2 (by rfl) gT FT.kp bT .nil pass0 (pa_cons (pv 0) (pa_cons (pv 3) pa_nil))) pe_non (nomark _)))))))), ?_⟩
    refine Evl.q_cut (M := fun σ' H' => Ke Nof H H' ∧ ((∃ (D : Addr) (hd : List Int), σ' = [some v, some (.ref a), some (.ref t), some (.ref D)] ∧ H' D = some (.lst (hd.map V.int)) ∧ StOk css says ds hd) ∨ (σ' = [some v, some (.ref a), some (.ref t), some .non] ∧ ∀ hd, ¬ StOk css says ds hd))) ?_ ?_
    · exact ⟨_, rfl, _, rfl, _, rfl, v, a, t, f0, css, says, us, ds, rfl, hbk, ha, ht, od, sy, sa, fun H1 D hd k1 so sh hD => ⟨k1, .inl ⟨D, hd, rfl, hD, so⟩⟩, fun H1 k1 no => ⟨k1, .inr ⟨rfl, no⟩⟩⟩
    rintro σ' H1 ⟨k1, ⟨D, hd, rfl, hD, so⟩ | ⟨rfl, no⟩⟩
    · refine Evl.q_cut (M := fun σ' H' => σ' = [some v, some (.ref a), some (.ref t), some (.ref D)] ∧ H' = H1) ⟨_, rfl, rfl, false, rfl, rfl, rfl⟩ ?_
      rintro σ' H1' ⟨rfl, rfl⟩
      refine ⟨_, rfl, _, rfl, v, D, css, hd, rfl, hbk.ke k1, hD, k1.tabs _ tg, fun H2 n cs k2 hc hl => ?_, fun H2 k2 nf => ?_⟩
      · refine ⟨rfl, false, rfl, q H2 false (k1.trans k2) ⟨fun y => (nomatch y), fun ⟨hd', so', sd⟩ => ?_⟩⟩
        rw [← so.one so'] at sd
        exact absurd hl (sd cs (List.mem_of_getElem? hc)).1
      · have k12 := k1.trans k2
        refine ⟨rfl, true, rfl, _, rfl, _, rfl, v, D, css, hd, rfl, hbk.ke k12, k2.lst hD fun z => z, sy, fun H3 p n x cs k3 hp hc fo => ?_, fun H3 k3 ns => ?_⟩
        · refine ⟨rfl, q H3 _ (k12.trans k3) ⟨fun y => (nomatch of_decide_eq_true y), fun ⟨hd', so', sd⟩ => ?_⟩⟩
          rw [← so.one so'] at sd
          exact absurd fo ((sd cs (List.mem_of_getElem? hc)).2 x)
        · exact ⟨rfl, q H3 _ (k12.trans k3) ⟨fun _ => ⟨hd, so, fun cs hc => ⟨nf cs hc, ns cs hc⟩⟩, fun _ => rfl⟩⟩
    · refine Evl.q_cut (M := fun _ _ => False) ?_ (fun _ _ z => z.elim)
      exact ⟨_, rfl, rfl, true, rfl, q H1 false k1 ⟨fun y => (nomatch y), fun ⟨hd', so', _⟩ => absurd so' (no _)⟩⟩
theorem ok_isf {f Po : Addr} {fd : FuncData} {k : Nat} (F : Fun K "_law_e_is_fall" "_law_e_is_fall" sIsf f fd) (T : Zl mg) (FG : Fun K "_law_e_gone" "_law_e_gone" sGon fG fdG) (bG : Binds K fdG ["claims", "says", "steps"] []) (gG : mg "_law_e_gone" = some (.ref fG)) (GG : FnOk P w K mg base CX0 2 fG fdG ["claims", "says", "steps"] spGnG)
    (FW : Fun K "_law_e_whole" "_law_e_whole" sWho fW fdW) (bW : Binds K fdW ["thing"] []) (gW : mg "_law_e_whole" = some (.ref fW)) (GW : FnOk P w K mg base CX0 1 fW fdW ["thing"] spWhG)
    (FL : Fun K "_law_e_left" "_law_e_left" sElf fL fdL) (bL : Binds K fdL ["claim", "held"] []) (gL : mg "_law_e_left" = some (.ref fL)) (GL : FnOk P w K mg base CX0 1 fL fdL ["claim", "held"] spElf) :
    FnOk P w K mg base CX0 (k + 3) f fd ["claims", "says", "steps", "number"] (spSfG Po) := by
  refine F.ok scIsf (fun vs H Q E h => ?_) (fun cdv A outer s H vs Q E hr h => ?_)
  · obtain ⟨v, u, a, t, f0, css, says, us, ds, dn, rfl, _⟩ := h
    rfl
  · obtain ⟨v, u, a, t, f0, css, says, us, ds, dn, rfl, hbk, ha, ht, od, ou, sy, sa, tg, q⟩ := h
    have hr1 : Room 1 _ := hr.mono (by omega)
    have hr2 : Room 2 _ := hr.mono (by omega)
    refine ⟨_, (Evl.pss_cut (ps_set (i := 4) scIsf.nd rfl (.inl rfl) (pe_call GG hr2 (by rfl) gG FG.kp bG .nil pass0 (pa_cons (pv 0) (pa_cons (pv 1) (pa_cons (pv 2) pa_nil)))))
      (Evl.pss_cut (ps_if (PW.pt (pw_or (pt_cmpR op_isN (pv 4) pe_non (nomark _)) (pw_or (pt_not (pt_val (pe_call GW hr1 (by rfl) gW FW.kp bW .nil pass0 (pa_cons (pv 3) pa_nil)))) (pw_or1 (pt_not (pt_chain op_le op_lt pe_int (pv 3) (pe_callB call_len_seq (by rfl) T.z_len (by decide +kernel) (pa_cons (pv 0) pa_nil)))))))) (pss_one (ps_ret pe_bl)) pss_nil)
      (pss_one (ps_ret (pe_cmpR (op_eqD hr.units) (pe_call GL hr1 (by rfl) gL FL.kp bL .nil pass0 (pa_cons (pe_ix ix_tup (pv 0) (pv 3) (fun _ _ => rfl)) (pa_cons (pv 4) pa_nil))) (pe_lstN pa_nil) (nomark _)))))), ?_⟩
    refine Evl.q_cut (M := fun σ' H' => Ke Nof H H' ∧ ((∃ (D : Addr) (hd : List Int), σ' = [some v, some (.ref a), some (.ref t), some u, some (.ref D)] ∧ H' D = some (.lst (hd.map V.int)) ∧ StOk css says ds hd) ∨ (σ' = [some v, some (.ref a), some (.ref t), some u, some .non] ∧ ∀ hd, ¬ StOk css says ds hd))) ?_ ?_
    · exact ⟨_, rfl, _, rfl, _, rfl, v, a, t, f0, css, says, us, ds, rfl, hbk, ha, ht, od, sy, sa, fun H1 D hd k1 so sh hD => ⟨k1, .inl ⟨D, hd, rfl, hD, so⟩⟩, fun H1 k1 no => ⟨k1, .inr ⟨rfl, no⟩⟩⟩
    rintro σ' H1 ⟨k1, ⟨D, hd, rfl, hD, so⟩ | ⟨rfl, no⟩⟩
    · obtain ⟨b, bvs, rfl, hb, lv, hv⟩ := hbk.ke k1
      refine Evl.q_cut (M := fun σ' H' => σ' = [some (.ref b), some (.ref a), some (.ref t), some u, some (.ref D)] ∧ H' = H1 ∧ ∃ n : Nat, u = .int (n : Nat) ∧ dn = .int (n : Nat) ∧ n < css.length) ?_ ?_
      · have nof : (¬ ∃ n : Nat, dn = .int (n : Nat) ∧ n < css.length) → Q (.bl false) H1 := fun z => q H1 false k1 ⟨fun y => (nomatch y), fun ⟨hd', n, cs, _, e1, hc, _⟩ => (z ⟨n, e1, (List.getElem?_eq_some_iff.mp hc).1⟩).elim⟩
        refine ⟨_, rfl, rfl, false, rfl, ?_⟩
        refine ⟨_, rfl, f0, u, dn, rfl, ou.ke k1.all, _, rfl, ?_⟩
        cases e : whD dn with
        | false =>
          refine nof fun ⟨n, e1, _⟩ => ?_
          rw [e1] at e
          cases e
        | true =>
          obtain ⟨x, rfl⟩ := wh_int e
          cases ou
          refine ⟨_, rfl, _, _, rfl, rfl, decide (0 ≤ x), rfl, ?_⟩
          cases e0 : decide (0 ≤ x) with
          | false =>
            refine ⟨false, rfl, nof fun ⟨n, e1, _⟩ => ?_⟩
            have := PyData.int.inj e1
            exact absurd (decide_eq_true (by omega : 0 ≤ x)) (by rw [e0]; decide)
          | true =>
            have x0 := of_decide_eq_true e0
            refine ⟨_, rfl, b, _, rfl, .inr (.of hb), _, _, rfl, rfl, decide (x < ((bvs.length : Nat) : Int)), rfl, ?_⟩
            cases e1 : decide (x < ((bvs.length : Nat) : Int)) with
            | false =>
              refine nof fun ⟨n, e2, ln⟩ => ?_
              have := PyData.int.inj e2
              exact absurd (decide_eq_true (by omega : x < ((bvs.length : Nat) : Int))) (by rw [e1]; decide)
            | true =>
              have lx := of_decide_eq_true e1
              exact ⟨rfl, rfl, x.toNat, by rw [Int.toNat_of_nonneg x0], by rw [Int.toNat_of_nonneg x0], by omega⟩
      rintro σ' H1' ⟨rfl, rfl, n, rfl, rfl, ln⟩
      have hcv := List.getElem?_eq_getElem (show n < bvs.length by omega)
      have hc := List.getElem?_eq_getElem ln
      have tx := hv n _ _ hcv hc
      have lc := (sy _ (List.getElem_mem ln)).len
      generalize css[n] = cs at hc tx lc
      generalize bvs[n]'(by omega) = cv at hcv tx
      refine ⟨_, rfl, _, rfl, b, _, _, cv, rfl, rfl, .of hb, at_of (j := n) rfl hcv, _, rfl, cv, D, cs, hd, rfl, tx, hD, by omega, fun L H2 nL s2 hL => ?_⟩
      refine ⟨Nat.zero_le _, fun M H3 nM s3 hM _ => ?_⟩
      refine ⟨_, _, .lst (.of (s3 _ _ hL)) (dp_ints _), .lst (.of hM) .nil, shaped_list (flat_ints _), shaped_list rfl, q H3 _ (k1.trans (.same (s2.trans s3))) ⟨fun z => ⟨hd, n, cs, so, rfl, hc, eq_nil.mp z⟩, fun ⟨hd', m, cs', so', e1, hc', l'⟩ => ?_⟩⟩
      have em := PyData.int.inj e1
      have em : n = m := by omega
      subst em
      rw [hc] at hc'
      cases hc'
      rw [← so.one so'] at l'
      exact eq_nil.mpr l'
    · refine Evl.q_cut (M := fun _ _ => False) ?_ (fun _ _ z => z.elim)
      exact ⟨_, rfl, rfl, true, rfl, q H1 false k1 ⟨fun y => (nomatch y), fun ⟨hd', _, _, so', _⟩ => absurd so' (no _)⟩⟩
theorem ok_iss {f Po : Addr} {fd : FuncData} {k : Nat} (F : Fun K "_law_e_is_stand" "_law_e_is_stand" sIss f fd) (T : Zl mg) (FG : Fun K "_law_e_gone" "_law_e_gone" sGon fG fdG) (bG : Binds K fdG ["claims", "says", "steps"] []) (gG : mg "_law_e_gone" = some (.ref fG)) (GG : FnOk P w K mg base CX0 2 fG fdG ["claims", "says", "steps"] spGnG)
    (FL : Fun K "_law_e_left" "_law_e_left" sElf fL fdL) (bL : Binds K fdL ["claim", "held"] []) (gL : mg "_law_e_left" = some (.ref fL)) (GL : FnOk P w K mg base CX0 1 fL fdL ["claim", "held"] spElf) :
    FnOk P w K mg base CX0 (k + 3) f fd ["claims", "says", "steps"] (spStG Po) := by
  refine F.ok scIss (fun vs H Q E h => ?_) (fun cdv A outer s H vs Q E hr h => ?_)
  · obtain ⟨v, a, t, f0, css, says, us, ds, rfl, _⟩ := h
    rfl
  · obtain ⟨v, a, t, f0, css, says, us, ds, rfl, hbk, ha, ht, od, sy, sa, tg, q⟩ := h
    have hr1 : Room 1 _ := hr.mono (by omega)
    have hr2 : Room 2 _ := hr.mono (by omega)
    refine ⟨_, (Evl.pss_cut (ps_set (i := 3) scIss.nd rfl (.inl rfl) (pe_call GG hr2 (by rfl) gG FG.kp bG .nil pass0 (pa_cons (pv 0) (pa_cons (pv 1) (pa_cons (pv 2) pa_nil)))))
      (Evl.pss_cut (ps_if (pt_cmpR op_isN (pv 3) pe_non (nomark _)) (pss_one (ps_ret pe_bl)) pss_nil)
      (Evl.pss_cut (ps_for PassesOwn.never rfl (pi_tup (pv 0)) (pg_name (i := 4) scIss.nd rfl (.inl rfl)) (Evl.pss_cut (ps_set (i := 5) scIss.nd rfl (.inl rfl) (pe_call GL hr1 (by rfl) gL FL.kp bL .nil pass0 (pa_cons (pv 4) (pa_cons (pv 3) pa_nil))))
      (pss_one (ps_if (PW.pt (pw_or (pt_cmpR (op_eqD hr.units) (pv 5) (pe_lstN pa_nil) (nomark _)) (pw_or1 (PW.pt (pw_and (pt_cmpR op_eq (pe_callB call_len_seq (by rfl) T.z_len (by decide +kernel) (pa_cons (pv 5) pa_nil)) pe_int (nomark _)) (pw_and1 (pt_cmpR op_notIn_seq (pe_ix ix_list (pv 5) pe_int (fun _ _ => rfl)) (pv 3) (by rfl)))))))) (pss_one (ps_ret pe_bl)) pss_nil))))
      (pss_one (ps_ret pe_bl))))), ?_⟩
    refine Evl.q_cut (M := fun σ' H' => Ke Nof H H' ∧ ((∃ (D : Addr) (hd : List Int), σ' = [some v, some (.ref a), some (.ref t), some (.ref D), none, none] ∧ H' D = some (.lst (hd.map V.int)) ∧ StOk css says ds hd) ∨ (σ' = [some v, some (.ref a), some (.ref t), some .non, none, none] ∧ ∀ hd, ¬ StOk css says ds hd))) ?_ ?_
    · exact ⟨_, rfl, _, rfl, _, rfl, v, a, t, f0, css, says, us, ds, rfl, hbk, ha, ht, od, sy, sa, fun H1 D hd k1 so sh hD => ⟨k1, .inl ⟨D, hd, rfl, hD, so⟩⟩, fun H1 k1 no => ⟨k1, .inr ⟨rfl, no⟩⟩⟩
    rintro σ' H1 ⟨k1, ⟨D, hd, rfl, hD, so⟩ | ⟨rfl, no⟩⟩
    rotate_left
    · refine Evl.q_cut (M := fun _ _ => False) ?_ (fun _ _ z => z.elim)
      exact ⟨_, rfl, rfl, true, rfl, q H1 false k1 ⟨fun y => (nomatch y), fun ⟨hd', so', _⟩ => absurd so' (no _)⟩⟩
    obtain ⟨b, bvs, rfl, hb, lv, hv⟩ := hbk.ke k1
    refine Evl.q_cut (M := fun σ' H' => σ' = [some (.ref b), some (.ref a), some (.ref t), some (.ref D), none, none] ∧ H' = H1) ⟨_, rfl, rfl, false, rfl, rfl, rfl⟩ ?_
    rintro σ' H1' ⟨rfl, rfl⟩
    refine Evl.q_cut (M := fun σ' H' => Same H1' H' ∧ Stand css hd) ?_ ?_
    · refine ⟨_, rfl, b, rfl, ⟨_, .of hb⟩, for_tup (K := K) (a := b) (xs := bvs) (Pv := fun i σ H' => ∃ y4 y5, σ = [some (.ref b), some (.ref a), some (.ref t), some (.ref D), y4, y5] ∧ Same H1' H' ∧ ∀ cs ∈ css.take i, left cs hd ≠ [] ∧ ∀ x, ¬ Forces cs hd x) ?_ (fun i σ H' _ p => ?_) ?_ ?_⟩
      · exact ⟨none, none, rfl, .refl _, fun cs hc => by simp at hc⟩
      · obtain ⟨_, _, _, s2, _⟩ := p
        exact .of (s2 _ _ hb)
      · rintro i x σ H2 hx ⟨y4, y5, rfl, s2, std⟩
        obtain ⟨cs, hc, tx⟩ := bk_at (a := b) lv hv hx
        have hcm := List.mem_of_getElem? hc
        have lcs := (sy cs hcm).len
        have hD2 := s2 _ _ hD
        have no : (left cs hd = [] ∨ ∃ x, Forces cs hd x) → ∀ {H3 : Hp}, Same H2 H3 → Q (.bl false) H3 := fun z {H3} s3 => q H3 false (k1.trans (.same (s2.trans s3))) ⟨fun y => (nomatch y), fun ⟨hd', so', sd⟩ => by
          rw [← so.one so'] at sd
          obtain ⟨d1, d2⟩ := sd cs hcm
          rcases z with z | ⟨x, z⟩
          · exact absurd z d1
          · exact absurd z (d2 x)⟩
        refine Evl.q_cut (M := fun σ' H' => ∃ L, σ' = [some (.ref b), some (.ref a), some (.ref t), some (.ref D), some x, some (.ref L)] ∧ Same H2 H' ∧ H' L = some (.lst ((left cs hd).map V.int))) ?_ ?_
        · exact ⟨_, rfl, _, rfl, x, D, cs, hd, rfl, tx.ke (.same s2 : Ke Nof _ _), hD2, by omega, fun L H3 nL s3 hL => ⟨L, rfl, s3, hL⟩⟩
        rintro σ' H3 ⟨L, rfl, s3, hL⟩
        have tk : ∀ cs', cs' ∈ css.take (i + 1) → cs' ∈ css.take i ∨ cs' = cs := fun cs' h' => by
          rw [List.take_add_one, hc] at h'
          rcases List.mem_append.mp h' with y | y
          · exact .inl y
          · exact .inr (by simpa using y)
        refine ⟨_, rfl, Nat.zero_le _, fun p5 H5 np5 s5 hp5 _ => ?_⟩
        have s35 := s3.trans s5
        refine ⟨_, _, .lst (.of (s5 _ _ hL)) (dp_ints _), .lst (.of hp5) .nil, shaped_list (flat_ints _), shaped_list rfl, _, rfl, ite2 (fun e => ?_) (fun e => ?_)⟩
        · exact iteT (no (.inl (eq_nil.mp e)) s35)
        have nl : left cs hd ≠ [] := fun z => e (eq_nil.mpr z)
        have hL5 := s5 _ _ hL
        refine ⟨_, rfl, L, _, rfl, .inl (.of hL5), rfl, _, rfl, ite2 (fun e => ?_) (fun e => ?_)⟩
        · have l1 : (left cs hd).length = 1 := by
            have := V.int.inj (of_decide_eq_true e)
            rw [List.length_map] at this
            omega
          obtain ⟨y, hy⟩ := List.length_eq_one_iff.mp l1
          rw [hy] at hL5
          refine ⟨_, rfl, L, _, 0, .int y, rfl, rfl, .of hL5, rfl, _, rfl, D, _, rfl, .inl (.of ((s2.trans s35) _ _ hD)), rfl, ints_flat hd, _, rfl, ite2 (fun e2 => ?_) (fun e2 => ?_)⟩
          · have e2 : (!inV (.int y) (hd.map V.int)) = true := e2
            refine no (.inr ⟨y, hy, fun z => ?_⟩) s35
            rw [(in_ints _ _).mpr z] at e2
            cases e2
          · have e2 : ¬ (!inV (.int y) (hd.map V.int)) = true := e2
            refine ⟨_, _, rfl, s2.trans s35, fun cs' h' => ?_⟩
            rcases tk cs' h' with u | rfl
            · exact std cs' u
            · refine ⟨nl, fun x' ⟨h1, h2⟩ => ?_⟩
              rw [hy] at h1
              cases h1
              cases z : inV (.int y) (hd.map V.int) with
              | true => exact h2 ((in_ints _ _).mp z)
              | false =>
                rw [z] at e2
                exact e2 rfl
        · refine ⟨_, _, rfl, s2.trans s35, fun cs' h' => ?_⟩
          rcases tk cs' h' with u | rfl
          · exact std cs' u
          · refine ⟨nl, fun x' ⟨h1, h2⟩ => ?_⟩
            rw [h1] at e
            exact e rfl
      · rintro σ H2 ⟨y4, y5, rfl, s2, std⟩
        rw [lv, List.take_length] at std
        exact ⟨s2, std⟩
    rintro σ' H2 ⟨s2, sd⟩
    exact q H2 true (k1.trans (.same s2)) ⟨fun _ => ⟨hd, so, sd⟩, fun _ => rfl⟩
end
end Fx
namespace Bx
open PySem PySem.Spec PyProof.Rows L2 GxR Nw Dr Kp Se Cl En Fo Fd Od Fx
abbrev sOwn : Stmt := topS 29
theorem scOwn : FnScope ["pen", "claims", "says", "held", "found", "turn", "some", "number", "claim", "left", "step"] ["pen", "claims", "says"] (defScope sOwn) := ⟨rfl, rfl, rfl, by decide +kernel, rfl, by decide +kernel, by decide +kernel⟩
abbrev sBen : Stmt := topS 28
theorem scBen : FnScope ["pen", "claims", "steps", "way", "odd", "at", "number", "say", "pair", "one", "two", "some"] ["pen", "claims", "steps"] (defScope sBen) := ⟨rfl, rfl, rfl, by decide +kernel, rfl, by decide +kernel, by decide +kernel⟩
structure Zb (mg : Str → Option Value) : Prop where
  z_len : mg "len" = none
  z_list : mg "list" = none
  z_range : mg "range" = none
  z_enumerate : mg "enumerate" = none
  z_str : mg "str" = none
/-- small steps -/
def Sml (steps : List (Nat × Int)) : Prop := ∀ s ∈ steps, s.1 ≤ 40 ∧ -8 ≤ s.2 ∧ s.2 ≤ 8
theorem stl_od {f : Addr → Prop} {H : Hp} : ∀ {us : List V} {steps : List (Nat × Int)}, StL H us steps → OdAll f H us (steps.map datS)
  | [], [], _ => .nil
  | [], _ :: _, h => by cases h.1
  | _ :: _, [], h => by cases h.1
  | u :: us, s :: steps, h => by
    obtain ⟨p, rfl, hp⟩ := h.2 0 u s rfl rfl
    exact .cons (.tup hp (.cons (.int _) (.cons (.int _) .nil))) (stl_od ⟨by have := h.1; simp only [List.length_cons] at this; omega, fun i x y h1 h2 => h.2 (i + 1) x y h1 h2⟩)
theorem sm_two {d e : PyData} (hd : Sm 10 d) (h1 : d.depth ≤ 4) (he : Sm 10 e) (h2 : e.depth ≤ 4) : Sm 60 (.tuple [d, e]) ∧ (PyData.tuple [d, e]).depth ≤ 5 := by
  have s : SmAll 10 [d, e] := .cons hd (by omega) (.cons he (by omega) .nil)
  refine ⟨s.tuple (n := 2) (by simp) (by decide), ?_⟩
  show Nat.max (PyData.depth d) (Nat.max (PyData.depth e) 0) + 1 ≤ 5
  exact Nat.succ_le_succ (Nat.max_le.mpr ⟨h1, Nat.max_le.mpr ⟨h2, Nat.zero_le 4⟩⟩)
theorem sm_dat {s : Nat × Int} (h : s.1 ≤ 40 ∧ -8 ≤ s.2 ∧ s.2 ≤ 8) : Sm 60 (datS s) ∧ (datS s).depth ≤ 5 :=
  sm_two ((sm_int (by omega) (by omega)).mono (by decide)) (Nat.zero_le _) ((sm_int (by omega) (by omega)).mono (by decide)) (Nat.zero_le _)
theorem lay_steps : ∀ steps : List (Nat × Int), PyData.canLayAll0 (steps.map datS) = true ∧ PyData.depthAll (steps.map datS) ≤ 3
  | [] => ⟨rfl, by decide⟩
  | c :: t => by
    obtain ⟨h1, h2⟩ := lay_steps t
    refine ⟨?_, ?_⟩
    · show (true && PyData.canLayAll0 (t.map datS)) = true
      rw [h1]
      rfl
    · show Nat.max 1 (PyData.depthAll (t.map datS)) ≤ 3
      exact Nat.max_le.mpr ⟨by omega, h2⟩
theorem shaped_steps (steps : List (Nat × Int)) : SeqAt.shaped (.list (steps.map datS)) = true := by
  obtain ⟨h1, h2⟩ := lay_steps steps
  show (PyData.canLayAll0 (steps.map datS) && decide (PyData.depthAll (steps.map datS) + 1 ≤ 64)) = true
  rw [h1, decide_eq_true (by omega)]
  rfl
theorem steps_nil {steps : List (Nat × Int)} : PyData.eqv (.list (steps.map datS)) (.list []) = true ↔ steps = [] := by
  cases steps with
  | nil => exact ⟨fun _ => rfl, fun _ => rfl⟩
  | cons a r => exact ⟨fun h => absurd h (by simp [PyData.eqv, PyData.eqvAll]), fun h => nomatch h⟩
theorem stl_snoc {H : Hp} {S p : Addr} {us : List V} {steps : List (Nat × Int)} {n : Nat} {x : Int} (hS : H S = some (.lst us)) (h : StL H us steps) (hp : H p = some (.tup [.int n, .int x])) : StL (upd H S (.lst (us ++ [.ref p]))) (us ++ [.ref p]) (steps ++ [(n, x)]) := (h.snoc hp).tups (upd_tup hS)
section
variable {P : Program} {w : World} {K : PySem.W.Frag} {mg : Str → Option Value} {base : Heap} {fD fL : Addr} {fdD fdL : FuncData}
/-- own_steps(pen, claims, says) -/
def spOwn : Sp := fun vs H Q _ => ∃ (f c a : Addr) (v : V) (B : Nat) (css : List (List Int)) (says : List Int), vs = [.ref f, v, .ref a] ∧ Feed H f c B ∧ B ≤ 2 ^ 25 ∧ Bk H v css ∧ H a = some (.lst (says.map V.int)) ∧ (∀ cs ∈ css, Sy cs) ∧ css.length ≤ 40 ∧ says.length ≤ 20 ∧
  ∀ p us steps H', Feed H' f c (B + 20) → Ke (· = f) H H' → Frs H p → H' p = some (.lst us) → StL H' us steps → Sml steps → steps.length ≤ 9 → Q (.ref p) H'
theorem ok_own {f : Addr} {fd : FuncData} {k : Nat} (F : Fun K "_law_e_own_steps" "_law_e_own_steps" sOwn f fd) (T : Zb mg) (FD : Fun K "_law_e_take" "_law_e_take" sDrw fD fdD) (bD : Binds K fdD ["pen", "many"] []) (gD : mg "_law_e_take" = some (.ref fD)) (GD : FnOk P w K mg base CX0 2 fD fdD ["pen", "many"] spDrw)
    (FL : Fun K "_law_e_left" "_law_e_left" sElf fL fdL) (bL : Binds K fdL ["claim", "held"] []) (gL : mg "_law_e_left" = some (.ref fL)) (GL : FnOk P w K mg base CX0 1 fL fdL ["claim", "held"] spElf) :
    FnOk P w K mg base CX0 (k + 3) f fd ["pen", "claims", "says"] spOwn := by
  refine F.ok scOwn (fun vs H Q E h => ?_) (fun cdv A outer s H vs Q E hr h => ?_)
  · obtain ⟨f, c, a, v, B, css, says, rfl, _⟩ := h
    rfl
  · obtain ⟨f, c, a, v, B, css, says, rfl, hF, hB, ⟨b, bvs, rfl, hb, lv, hv⟩, ha, sy, lcs, las, q⟩ := h
    have hr2 : Room 2 _ := hr.mono (by omega)
    have hr1 : Room 1 _ := hr.mono (by omega)
    refine ⟨_, (Evl.pss_cut (ps_set (i := 3) scOwn.nd rfl (.inl rfl) (pe_callTy call_list_ofN (by rfl) T.z_list (by decide +kernel) (pa_cons (pv 2) pa_nil)))
      (Evl.pss_cut (ps_set (i := 4) scOwn.nd rfl (.inl rfl) (pe_lstN pa_nil))
      (Evl.pss_cut (ps_for PassesOwn.never rfl (pi_range1 (by rfl) T.z_range (pa_cons (pe_call GD hr2 (by rfl) gD FD.kp bD .nil pass0 (pa_cons (pv 0) (pa_cons pe_int pa_nil))) pa_nil)) (pg_name (i := 5) scOwn.nd rfl (.inl rfl)) (Evl.pss_cut (ps_set (i := 6) scOwn.nd rfl (.inl rfl) (pe_lstN pa_nil))
      (Evl.pss_cut (ps_for PassesOwn.never rfl (pi_enumT (by rfl) T.z_enumerate (pa_cons (pv 1) pa_nil)) (pg_tup rfl (pgs_cons (pg_name (i := 7) scOwn.nd rfl (.inl rfl)) (pgs_cons (pg_name (i := 8) scOwn.nd rfl (.inl rfl)) pgs_nil))) (Evl.pss_cut (ps_set (i := 9) scOwn.nd rfl (.inl rfl) (pe_call GL hr1 (by rfl) gL FL.kp bL .nil pass0 (pa_cons (pv 8) (pa_cons (pv 3) pa_nil))))
      (pss_one (ps_if (PW.pt (pw_and (pt_cmpR op_eq (pe_callB call_len_seq (by rfl) T.z_len (by decide +kernel) (pa_cons (pv 9) pa_nil)) pe_int (nomark _)) (pw_and1 (pt_cmpR op_notIn_seq (pe_ix ix_list (pv 9) pe_int (fun _ _ => rfl)) (pv 3) (by rfl))))) (pss_one (ps_expr (pe_bm PySem.F.plainAttrs_list PySem.F.slot_list_append PySem.F.type_list_append mt_append (pv 6) (pa_cons (pe_tupN (pa_cons (pv 7) (pa_cons (pe_ix ix_list (pv 9) pe_int (fun _ _ => rfl)) pa_nil))) pa_nil)))) pss_nil))))
      (Evl.pss_cut (ps_if (pt_cmpR (op_eqD hr.units) (pv 6) (pe_lstN pa_nil) (nomark _)) (pss_one (ps_ret (pv 4))) pss_nil)
      (Evl.pss_cut (ps_set (i := 10) scOwn.nd rfl (.inl rfl) (pe_ix ix_list (pv 6) (pe_call GD hr2 (by rfl) gD FD.kp bD .nil pass0 (pa_cons (pv 0) (pa_cons (pe_callB call_len_seq (by rfl) T.z_len (by decide +kernel) (pa_cons (pv 6) pa_nil)) pa_nil))) (fun _ _ => rfl)))
      (Evl.pss_cut (ps_expr (pe_bm PySem.F.plainAttrs_list PySem.F.slot_list_append PySem.F.type_list_append mt_append (pv 3) (pa_cons (pe_ix ix_tup (pv 10) pe_int (fun _ _ => rfl)) pa_nil)))
      (pss_one (ps_expr (pe_bm PySem.F.plainAttrs_list PySem.F.slot_list_append PySem.F.type_list_append mt_append (pv 4) (pa_cons (pv 10) pa_nil))))))))))
      (pss_one (ps_ret (pv 4)))))), ?_⟩
    refine Evl.q_cut (M := fun σ' H' => ∃ D, σ' = [some (.ref f), some (.ref b), some (.ref a), some (.ref D), none, none, none, none, none, none, none] ∧ H D = none ∧ Same H H' ∧ H' D = some (.lst (says.map V.int))) ?_ ?_
    · exact ⟨_, rfl, a, _, rfl, .inl (.of ha), fun D H1 nD s1 hD _ => ⟨D, rfl, nD, s1, hD⟩⟩
    rintro σ' H1 ⟨D, rfl, nD, s1, hD⟩
    refine Evl.q_cut (M := fun σ' H' => ∃ S, σ' = [some (.ref f), some (.ref b), some (.ref a), some (.ref D), some (.ref S), none, none, none, none, none, none] ∧ H S = none ∧ S ≠ D ∧ Same H H' ∧ H' D = some (.lst (says.map V.int)) ∧ H' S = some (.lst [])) ?_ ?_
    · exact ⟨Nat.zero_le _, fun S H2 nS s2 hS _ => ⟨S, rfl, s1.free nS, Ne.symm (ne_of_none hD nS), s1.trans s2, s2 _ _ hD, hS⟩⟩
    clear hD s1 H1
    rintro σ' H1 ⟨S, rfl, nS, nSD, s1, hD, hS⟩
    have F1 := hF.same s1
    have frD : Frs H D := .of nD
    have frS : Frs H S := .of nS
    have nDf : D ≠ f := hF.nf nD
    have nDc : D ≠ c := hF.nc nD
    have nSf : S ≠ f := hF.nf nS
    have nSc : S ≠ c := hF.nc nS
    refine Evl.q_cut (M := fun σ' H' => ∃ (y5 y6 y7 y8 y9 y10 : Option V) (us : List V) (steps : List (Nat × Int)), σ' = [some (.ref f), some (.ref b), some (.ref a), some (.ref D), some (.ref S), y5, y6, y7, y8, y9, y10] ∧ Feed H' f c (B + 20) ∧ Ke (· = f) H H' ∧ H' S = some (.lst us) ∧ StL H' us steps ∧ Sml steps ∧ steps.length ≤ 9) ?_ ?_
    · refine ⟨_, rfl, f, c, 10, B, rfl, by decide, by decide, F1, by omega, fun m H2 m0 m1 F2 k2 => ?_⟩
      refine ⟨m, rfl, by omega, by omega, for_range (Pv := fun i σ H' => ∃ (y5 y6 y7 y8 y9 y10 : Option V) (us : List V) (steps : List (Nat × Int)) (hd : List Int), σ = [some (.ref f), some (.ref b), some (.ref a), some (.ref D), some (.ref S), y5, y6, y7, y8, y9, y10] ∧ Feed H' f c (B + 1 + i) ∧ Ke (· = f) H H' ∧ H' D = some (.lst (hd.map V.int)) ∧ H' S = some (.lst us) ∧ StL H' us steps ∧ Sml steps ∧ steps.length = i ∧ hd.length ≤ 20 + i) ?_ ?_ ?_⟩
      · exact ⟨none, none, none, none, none, none, [], [], says, rfl, F2, (Ke.same s1).trans k2, k2.lst hD nDf, k2.lst hS nSf, ⟨rfl, fun i v s h => by simp at h⟩, fun s hs => (nomatch hs), rfl, by omega⟩
      · clear F1 k2 F2 hD hS s1 H1 H2
        rintro i σ H1 hi ⟨y5, y6, y7, y8, y9, y10, us, steps, hd, rfl, F1, k1, hD, hS, sl, sm, ls, lh⟩
        have hi : i < m.toNat := hi
        refine Evl.q_cut (M := fun σ' H' => ∃ Z, σ' = [some (.ref f), some (.ref b), some (.ref a), some (.ref D), some (.ref S), some (.int (0 + (i : Int))), some (.ref Z), y7, y8, y9, y10] ∧ H1 Z = none ∧ Same H1 H' ∧ H' Z = some (.lst [])) ?_ ?_
        · exact ⟨Nat.zero_le _, fun Z H2 nZ s2 hZ _ => ⟨Z, rfl, nZ, s2, hZ⟩⟩
        rintro σ' H2 ⟨Z, rfl, nZ, s2, hZ⟩
        have nZD : Z ≠ D := Ne.symm (ne_of_none hD nZ)
        have nZS : Z ≠ S := Ne.symm (ne_of_none hS nZ)
        have frZ : Frs H1 Z := .of nZ
        have hb1 := k1.tups _ _ hb
        -- the claims that force
        refine Evl.q_cut (M := fun σ' H' => ∃ (y7 y8 y9 : Option V) (zs : List V) (zt : List (Nat × Int)), σ' = [some (.ref f), some (.ref b), some (.ref a), some (.ref D), some (.ref S), some (.int (0 + (i : Int))), some (.ref Z), y7, y8, y9, y10] ∧ Ke Nof H1 H' ∧ H' Z = some (.lst zs) ∧ StL H' zs zt ∧ Sml zt ∧ zt.length ≤ 40) ?_ ?_
        · refine ⟨_, rfl, b, bvs, rfl, .of (s2 _ _ hb1), for_en (K := K) (a := b) (xs := bvs) (Pv := fun j σ H' => ∃ (y7 y8 y9 : Option V) (zs : List V) (zt : List (Nat × Int)), σ = [some (.ref f), some (.ref b), some (.ref a), some (.ref D), some (.ref S), some (.int (0 + (i : Int))), some (.ref Z), y7, y8, y9, y10] ∧ Ke Nof H1 H' ∧ H' Z = some (.lst zs) ∧ StL H' zs zt ∧ Sml zt ∧ zt.length ≤ j) ?_ (fun j σ H' _ p => ?_) ?_ ?_⟩
          · exact ⟨y7, y8, y9, [], [], rfl, .same s2, hZ, ⟨rfl, fun i v s h => by simp at h⟩, fun s hs => (nomatch hs), Nat.le_refl _⟩
          · obtain ⟨_, _, _, _, _, _, k3, _⟩ := p
            exact .of (k3.tups _ _ hb1)
          · clear y7 y8 y9
            rintro j x σ H3 T' hx ⟨y7, y8, y9, zs, zt, rfl, k3, hZ3, zl, zm, lz⟩ nT
            have lj := (List.getElem?_eq_some_iff.mp hx).1
            obtain ⟨cs, hc, tx⟩ := bk_at (a := b) lv hv hx
            have scs := sy cs (List.mem_of_getElem? hc)
            have lc := scs.len
            have sT : Same H3 (upd H3 T' (.tup [.int (j : Nat), x])) := same_new nT
            have k4 : Ke Nof H1 (upd H3 T' (.tup [.int (j : Nat), x])) := k3.trans (.same sT)
            have hZ4 := sT _ _ hZ3
            have zl4 := zl.tups fun b xs h => sT _ _ h
            refine ⟨T', _, rfl, .of upd_same, rfl, _, _, rfl, _, _, rfl, rfl, ?_⟩
            generalize upd H3 T' (.tup [.int (j : Nat), x]) = H4 at k4 hZ4 zl4
            have kk := k1.trans k4.all
            refine Evl.q_cut (M := fun σ' H' => ∃ L, σ' = [some (.ref f), some (.ref b), some (.ref a), some (.ref D), some (.ref S), some (.int (0 + (i : Int))), some (.ref Z), some (.int (j : Nat)), some x, some (.ref L), y10] ∧ Same H4 H' ∧ H' L = some (.lst ((left cs hd).map V.int))) ?_ ?_
            · exact ⟨_, rfl, _, rfl, x, D, cs, hd, rfl, tx.ke kk, k4.lst hD fun z => z, by omega, fun L H5 nL s5 hL => ⟨L, rfl, s5, hL⟩⟩
            rintro σ' H5 ⟨L, rfl, s5, hL⟩
            have hZ5 := s5 _ _ hZ4
            have zl5 := zl4.tups fun b xs h => s5 _ _ h
            have k5 : Ke Nof H1 H5 := k4.trans (.same s5)
            refine ⟨_, rfl, L, _, rfl, .inl (.of hL), rfl, _, rfl, ite2 (fun e => ?_) (fun e => ?_)⟩
            · have l1 : (left cs hd).length = 1 := by
                have := V.int.inj (of_decide_eq_true e)
                rw [List.length_map] at this
                omega
              obtain ⟨y, hy⟩ := List.length_eq_one_iff.mp l1
              have my : y ∈ cs := (mem_left.mp (by rw [hy]; exact List.mem_singleton.mpr rfl : y ∈ left cs hd)).1
              rw [hy] at hL
              refine ⟨_, rfl, L, _, 0, .int y, rfl, rfl, .of hL, rfl, _, rfl, D, _, rfl, .inl (.of (k5.lst hD fun z => z)), rfl, ints_flat hd, _, rfl, ite2 (fun e2 => ?_) (fun e2 => ?_)⟩
              · refine ⟨_, rfl, .inl ⟨rfl, _, .of hZ5⟩, _, rfl, _, rfl, L, _, 0, .int y, rfl, rfl, .of hL, rfl, by show 2 ≤ sizeLine; decide, fun p H6 np s6 hp _ => ?_⟩
                have hZ6 := s6 _ _ hZ5
                refine ⟨Z, _, _, rfl, rfl, hZ6, small1000 (by rw [zl5.1]; omega), ?_⟩
                refine ⟨_, _, _, zs ++ [.ref p], zt ++ [(j, y)], rfl, (k5.trans (.same s6)).write frZ hZ6, upd_same, stl_snoc hZ6 (zl5.tups fun b xs h => s6 _ _ h) hp, fun s hs => ?_, by rw [List.length_append]; show zt.length + 1 ≤ _; omega⟩
                rcases List.mem_append.mp hs with z | z
                · exact zm s z
                · rw [List.mem_singleton.mp z]
                  have := scs.bd y my
                  exact ⟨by show j ≤ 40; omega, this⟩
              · exact ⟨_, _, _, zs, zt, rfl, k5, hZ5, zl5, zm, by omega⟩
            · exact ⟨_, _, _, zs, zt, rfl, k5, hZ5, zl5, zm, by omega⟩
          · rintro σ H3 ⟨y7, y8, y9, zs, zt, rfl, k3, hZ3, zl, zm, lz⟩
            exact ⟨y7, y8, y9, zs, zt, rfl, k3, hZ3, zl, zm, by omega⟩
        clear y7 y8 y9
        rintro σ' H3 ⟨y7, y8, y9, zs, zt, rfl, k3, hZ3, zl, zm, lz⟩
        have hD3 := k3.lst hD fun z => z
        have hS3 := k3.lst hS fun z => z
        have sl3 := sl.tups k3.tups
        have k13 : Ke (· = f) H H3 := k1.trans k3.all
        have F3 := k3.feed F1
        -- if some == []
        refine Evl.q_cut (M := fun σ' H' => σ' = [some (.ref f), some (.ref b), some (.ref a), some (.ref D), some (.ref S), some (.int (0 + (i : Int))), some (.ref Z), y7, y8, y9, y10] ∧ Same H3 H' ∧ zt ≠ []) ?_ ?_
        · refine ⟨_, rfl, Nat.zero_le _, fun p5 H5 np5 s5 hp5 _ => ?_⟩
          refine ⟨_, _, .lst (.of (s5 _ _ hZ3)) ((stl_od (f := Nof) (zl.tups fun b xs h => s5 _ _ h)).dp), .lst (.of hp5) .nil, shaped_steps zt, shaped_list rfl, _, rfl, ite2 (fun e => ?_) (fun e => ?_)⟩
          · exact ⟨_, rfl, q S us steps H5 ((F3.same s5).mono (by omega)) (k13.trans (.same s5)) frS (s5 _ _ hS3) (sl3.tups fun b xs h => s5 _ _ h) sm (by omega)⟩
          · exact ⟨rfl, s5, fun z => e (steps_nil.mpr z)⟩
        rintro σ' H4 ⟨rfl, s4, nz⟩
        have F4 := F3.same s4
        have l0 := List.length_pos_iff.mpr nz
        have lzs := zl.1
        -- step
        refine Evl.q_cut (M := fun σ' H' => ∃ (p : Addr) (n : Nat) (x : Int), σ' = [some (.ref f), some (.ref b), some (.ref a), some (.ref D), some (.ref S), some (.int (0 + (i : Int))), some (.ref Z), y7, y8, y9, some (.ref p)] ∧ Feed H' f c (B + 1 + i + 1) ∧ Ke (· = f) H3 H' ∧ H' p = some (.tup [.int n, .int x]) ∧ (n ≤ 40 ∧ -8 ≤ x ∧ x ≤ 8)) ?_ ?_
        · have nZf : Z ≠ f := F1.nf nZ
          refine ⟨_, rfl, _, rfl, _, rfl, Z, _, rfl, .inl (.of (s4 _ _ hZ3)), f, c, _, _, rfl, by omega, by omega, F4, by omega, fun e H5 e0 e1 F5 k5 => ?_⟩
          have el : e.toNat < zs.length := by omega
          have h2 := List.getElem?_eq_getElem (show e.toNat < zt.length by omega)
          obtain ⟨p, ep, hp⟩ := zl.2 e.toNat _ _ (List.getElem?_eq_getElem el) h2
          refine ⟨Z, _, _, zs[e.toNat], rfl, rfl, .of (k5.lst (s4 _ _ hZ3) nZf), at_of (j := e.toNat) (by omega) (List.getElem?_eq_getElem el), ?_⟩
          rw [ep]
          exact ⟨p, _, _, rfl, F5, (Ke.same s4).trans k5, k5.tups _ _ (s4 _ _ hp), zm _ (List.getElem_mem (show e.toNat < zt.length by omega))⟩
        rintro σ' H5 ⟨p, n, x, rfl, F5, k5, hp, bn⟩
        have hD5 := k5.lst hD3 nDf
        have hS5 := k5.lst hS3 nSf
        have k15 := k13.trans k5
        -- held.append(step[1])
        refine Evl.q_cut (M := fun σ' H' => σ' = [some (.ref f), some (.ref b), some (.ref a), some (.ref D), some (.ref S), some (.int (0 + (i : Int))), some (.ref Z), y7, y8, y9, some (.ref p)] ∧ Feed H' f c (B + 1 + i + 1) ∧ Ke (· = f) H H' ∧ H' D = some (.lst ((hd ++ [x]).map V.int)) ∧ H' S = some (.lst us) ∧ StL H' us steps ∧ H' p = some (.tup [.int n, .int x])) ?_ ?_
        · refine ⟨_, rfl, .inl ⟨rfl, _, .of hD5⟩, _, rfl, p, _, 1, .int x, rfl, rfl, .of hp, rfl, D, _, _, rfl, rfl, hD5, small1000 (by rw [List.length_map]; omega), rfl, F5.upd nDf nDc, k15.write frD hD5, by rw [upd_same]; simp, by rw [upd_ne nSD]; exact hS5, (sl3.tups k5.tups).tups (upd_tup hD5), upd_tup hD5 _ _ hp⟩
        clear hD5 hS5 k15 hp k5 F5
        rintro σ' H6 ⟨rfl, F6, k6, hD6, hS6, sl6, hp⟩
        refine ⟨_, rfl, .inl ⟨rfl, _, .of hS6⟩, _, rfl, S, _, _, rfl, rfl, hS6, small1000 (by rw [sl6.1]; omega), ?_⟩
        refine ⟨_, _, _, _, _, _, us ++ [.ref p], steps ++ [(n, x)], hd ++ [x], rfl, (F6.upd nSf nSc).mono (by omega), k6.write frS hS6, by rw [upd_ne (Ne.symm nSD)]; exact hD6, upd_same, stl_snoc hS6 sl6 hp, fun s hs => ?_, by rw [List.length_append, ls]; rfl, by rw [List.length_append]; show hd.length + 1 ≤ _; omega⟩
        rcases List.mem_append.mp hs with z | z
        · exact sm s z
        · rw [List.mem_singleton.mp z]
          exact bn
      · rintro σ H3 ⟨y5, y6, y7, y8, y9, y10, us, steps, hd, rfl, F3, k3, hD3, hS3, sl, sm, ls, lh⟩
        have ls : steps.length = m.toNat := ls
        exact ⟨y5, y6, y7, y8, y9, y10, us, steps, rfl, F3.mono (by omega), k3, hS3, sl, sm, by omega⟩
    rintro σ' H2 ⟨y5, y6, y7, y8, y9, y10, us, steps, rfl, F2, k2, hS2, sl, sm, ls⟩
    exact ⟨_, rfl, q S us steps H2 F2 k2 frS hS2 sl sm ls⟩
end
end Bx
namespace Od
open PySem PySem.Spec PyProof.Rows L2 GxR Nw Dr Kp Fo
variable {f : Addr → Prop} {S : Addr} {H H' : Hp}
mutual
theorem OdV.new (n : H S = none) (s : Same H H') : ∀ {d : PyData} {v : V}, OdV f H v d → OdV (· = S) H' v d
  | .none, _, h => by cases h; exact .non
  | .bool _, _, h => by cases h; exact .bl _
  | .int _, _, h => by cases h; exact .int _
  | .str _, _, h => by cases h; exact .str _
  | .list ds, _, h => by cases h with | lst h1 _ h2 => exact .lst (s _ _ h1) (ne_of_none h1 n) (OdAll.new n s h2)
  | .tuple ds, _, h => by cases h with | tup h1 h2 => exact .tup (s _ _ h1) (OdAll.new n s h2)
  | .dict _, _, h => by cases h
theorem OdAll.new (n : H S = none) (s : Same H H') : ∀ {ds : List PyData} {vs : List V}, OdAll f H vs ds → OdAll (· = S) H' vs ds
  | [], _, h => by cases h; exact .nil
  | d :: ds, _, h => by cases h with | cons h1 h2 => exact .cons (OdV.new n s h1) (OdAll.new n s h2)
end
mutual
theorem OdV.two {ys : List V} {o : HO} (hS : H S = some (.lst ys)) : ∀ {d : PyData} {v : V}, OdV f H v d → OdV (· = S) H v d → OdV f (upd H S o) v d
  | .none, _, h, _ => by cases h; exact .non
  | .bool _, _, h, _ => by cases h; exact .bl _
  | .int _, _, h, _ => by cases h; exact .int _
  | .str _, _, h, _ => by cases h; exact .str _
  | .list ds, _, h, g => by
    cases h with
    | lst h1 n h2 =>
      cases g with
      | lst g1 m g2 =>
        rw [h1] at g1
        cases g1
        exact .lst (by rw [upd_ne m]; exact h1) n (OdAll.two hS h2 g2)
  | .tuple ds, _, h, g => by
    cases h with
    | tup h1 h2 =>
      cases g with
      | tup g1 g2 =>
        rw [h1] at g1
        cases g1
        exact .tup (upd_tup hS _ _ h1) (OdAll.two hS h2 g2)
  | .dict _, _, h, _ => by cases h
theorem OdAll.two {ys : List V} {o : HO} (hS : H S = some (.lst ys)) : ∀ {ds : List PyData} {vs : List V}, OdAll f H vs ds → OdAll (· = S) H vs ds → OdAll f (upd H S o) vs ds
  | [], _, h, _ => by cases h; exact .nil
  | d :: ds, _, h, g => by
    cases h with
    | cons h1 h2 =>
      cases g with
      | cons g1 g2 => exact .cons (OdV.two hS h1 g1) (OdAll.two hS h2 g2)
end
theorem OdAll.set : ∀ {vs : List V} {ds : List PyData} (i : Nat) {v : V} {d : PyData}, OdAll f H vs ds → OdV f H v d → OdAll f H (vs.set i v) (ds.set i d)
  | [], _, _, _, _, h, _ => by cases h; exact .nil
  | _ :: _, _, 0, _, _, h, g => by cases h with | cons h1 h2 => exact .cons g h2
  | _ :: _, _, i + 1, _, _, h, g => by cases h with | cons h1 h2 => exact .cons h1 (OdAll.set i h2 g)
theorem OdAll.same {vs : List V} {ds : List PyData} (h : OdAll f H vs ds) (s : Same H H') : OdAll f H' vs ds := h.ke (.same s)
theorem OdV.same {v : V} {d : PyData} (h : OdV f H v d) (s : Same H H') : OdV f H' v d := h.ke (.same s)
theorem od_cut {us : List V} {ds : List PyData} (h : OdAll f H us ds) (lo hi : Option Int) : ∃ es, OdAll f H (cutV us lo hi) es ∧ es.length ≤ ds.length ∧ ∀ d ∈ es, d ∈ ds := by
  refine ⟨_, (h.drop (HT.sIx us.length 0 lo)).take (HT.sIx us.length us.length hi - HT.sIx us.length 0 lo), ?_, fun d hd => List.mem_of_mem_drop (List.mem_of_mem_take hd)⟩
  rw [List.length_take, List.length_drop]
  omega
end Od
namespace Bx
open PySem PySem.Spec PyProof.Rows L2 GxR Nw Dr Kp Se Cl En Fo Fd Od Fx
/-- small, to be put into a list -/
def S6 (d : PyData) : Prop := Sm 60 d ∧ d.depth ≤ 5
theorem s6_int {n : Int} (h0 : -60 ≤ n) (h1 : n < 70) : S6 (.int n) := ⟨(sm_int h0 h1).mono (by decide), Nat.zero_le _⟩
theorem t_ints {a b : Int} (a0 : -60 ≤ a) (a1 : a < 70) (b0 : -60 ≤ b) (b1 : b < 70) : S6 (.tuple [.int a, .int b]) := sm_two ((sm_int a0 a1).mono (by decide)) (Nat.zero_le _) ((sm_int b0 b1).mono (by decide)) (Nat.zero_le _)
theorem small_strs : ∀ n : Fin 60, (PyData.shown (.str (toString ((n.val : Nat) : Int)))).length ≤ 6 := by decide +kernel
theorem sm_bool (b : Bool) : Sm 10 (.bool b) := by cases b <;> exact ⟨rfl, rfl, by decide, by decide +kernel⟩
theorem sm_non : Sm 10 .none := ⟨rfl, rfl, by decide, by decide +kernel⟩
theorem l_one {a : Int} (a0 : -60 ≤ a) (a1 : a < 70) : Sm 10 (.list [.int a]) ∧ (PyData.list [.int a]).depth ≤ 4 := by
  have s : SmAll 3 [.int a] := .cons (sm_int a0 a1) (Nat.zero_le _) .nil
  exact ⟨s.list (n := 1) (by simp) (by decide), by show Nat.max 0 0 + 1 ≤ 4; decide⟩
theorem small_str {n : Nat} (h : n < 60) : Sm 10 (.str (toString (n : Int))) := ⟨rfl, rfl, by show 0 ≤ 6; decide, Nat.le_trans (small_strs ⟨n, h⟩) (by decide)⟩
set_option exponentiation.threshold 3000 in
theorem log_small {n : Nat} (h : n ≤ 1000) : ((n : Int)).natAbs.log2 < 1920 := by
  have e : ((n : Int)).natAbs = n := Int.natAbs_natCast n
  rw [e]
  by_cases z : n = 0
  · subst z
    decide
  · exact (Nat.log2_lt z).mpr (Nat.lt_of_le_of_lt h (Nat.lt_of_lt_of_le (by decide : 1000 < 2 ^ 10) (Nat.pow_le_pow_right (by decide) (by decide))))
/-- the lists that H knows -/
def Kn (H : Hp) : Addr → Prop := fun a => ∃ xs, H a = some (.lst xs)
theorem kn_new {H H1 H2 : Hp} {f c q : Addr} {B : Nat} (k : Ke (· = f) H H1) (hF : Feed H2 f c B) (s : Same H1 H2) (n : H2 q = none) : ¬ Kn H q := fun ⟨xs, h⟩ => by
  have ne : q ≠ f := hF.nf n
  have := s _ _ (k.lst h ne)
  rw [n] at this
  cases this
section
variable {P : Program} {w : World} {K : PySem.W.Frag} {mg : Str → Option Value} {base : Heap} {fD : Addr} {fdD : FuncData}
/-- bent(pen, claims, steps): steps, and among them anything -/
def spBen : Sp := fun vs H Q _ => ∃ (f c b t : Addr) (B : Nat) (bvs us : List V) (steps : List (Nat × Int)), vs = [.ref f, .ref b, .ref t] ∧ Feed H f c B ∧ B ≤ 2 ^ 25 ∧ H b = some (.tup bvs) ∧ bvs.length ≤ 40 ∧ H t = some (.lst us) ∧ t ≠ f ∧ StL H us steps ∧ Sml steps ∧ steps.length ≤ 20 ∧
  ∀ p vs ds H', Feed H' f c (B + 10) → Ke (· = f) H H' → Frs H p → H' p = some (.lst vs) → OdAll (Kn H) H' vs ds → (∀ d ∈ ds, S6 d) → ds.length ≤ 50 → Q (.ref p) H'
theorem ok_ben {f : Addr} {fd : FuncData} {k : Nat} (F : Fun K "_law_e_bent" "_law_e_bent" sBen f fd) (T : Zb mg) (FD : Fun K "_law_e_take" "_law_e_take" sDrw fD fdD) (bD : Binds K fdD ["pen", "many"] []) (gD : mg "_law_e_take" = some (.ref fD)) (GD : FnOk P w K mg base CX0 2 fD fdD ["pen", "many"] spDrw) :
    FnOk P w K mg base CX0 (k + 3) f fd ["pen", "claims", "steps"] spBen := by
  refine F.ok scBen (fun vs H Q E h => ?_) (fun cdv A outer s H vs Q E hr h => ?_)
  · obtain ⟨f, c, b, t, B, bvs, us, steps, rfl, _⟩ := h
    rfl
  · obtain ⟨f, c, b, t, B, bvs, us, steps, rfl, hF, hB, hb, lb, ht, ntf, sl, sm, ls, q⟩ := h
    have hr2 : Room 2 _ := hr.mono (by omega)
    have lu := sl.1
    refine ⟨_, (Evl.pss_cut (ps_set (i := 3) scBen.nd rfl (.inl rfl) (pe_call GD hr2 (by rfl) gD FD.kp bD .nil pass0 (pa_cons (pv 0) (pa_cons pe_int pa_nil))))
      (Evl.pss_cut (ps_set (i := 4) scBen.nd rfl (.inl rfl) (pe_call GD hr2 (by rfl) gD FD.kp bD .nil pass0 (pa_cons (pv 0) (pa_cons pe_int pa_nil))))
      (Evl.pss_cut (ps_set (i := 5) scBen.nd rfl (.inl rfl) (pe_call GD hr2 (by rfl) gD FD.kp bD .nil pass0 (pa_cons (pv 0) (pa_cons (pe_op op_add (pe_callB call_len_seq (by rfl) T.z_len (by decide +kernel) (pa_cons (pv 2) pa_nil)) pe_int) pa_nil))))
      (Evl.pss_cut (ps_set (i := 6) scBen.nd rfl (.inl rfl) (pe_call GD hr2 (by rfl) gD FD.kp bD .nil pass0 (pa_cons (pv 0) (pa_cons (pe_op op_add (pe_callB call_len_seq (by rfl) T.z_len (by decide +kernel) (pa_cons (pv 1) pa_nil)) pe_int) pa_nil))))
      (Evl.pss_cut (ps_set (i := 7) scBen.nd rfl (.inl rfl) (pe_op op_mul (pe_ix ix_list (pe_lstN (pa_cons pe_int (pa_cons (pe_un un_neg pe_int) pa_nil))) (pe_call GD hr2 (by rfl) gD FD.kp bD .nil pass0 (pa_cons (pv 0) (pa_cons pe_int pa_nil))) (fun _ _ => rfl)) (pe_op op_add pe_int (pe_call GD hr2 (by rfl) gD FD.kp bD .nil pass0 (pa_cons (pv 0) (pa_cons pe_int pa_nil))))))
      (Evl.pss_cut (ps_if (pt_cmpR op_eq (pv 3) pe_int (nomark _)) (pss_one (ps_ret (pe_op op_catN (pe_slice sl_listN (pv 2) po_none (po_some (pv 5))) (pe_slice sl_listN (pv 2) (po_some (pe_op op_add (pv 5) pe_int)) po_none)))) pss_nil)
      (Evl.pss_cut (ps_if (pt_cmpR op_eq (pv 3) pe_int (nomark _)) (pss_one (ps_ret (pe_op op_catN (pe_op op_catN (pe_slice sl_listN (pv 2) po_none (po_some (pv 5))) (pe_lstN (pa_cons (pe_tupN (pa_cons (pv 6) (pa_cons (pv 7) pa_nil))) pa_nil))) (pe_slice sl_listN (pv 2) (po_some (pv 5)) po_none)))) pss_nil)
      (Evl.pss_cut (ps_if (pt_cmpR op_eq (pv 3) pe_int (nomark _)) (Evl.pss_cut (ps_set (i := 8) scBen.nd rfl (.inl rfl) (pe_slice sl_listN (pv 2) (po_some (pv 5)) (po_some (pe_op op_add (pv 5) pe_int))))
      (pss_one (ps_ret (pe_op op_catN (pe_op op_catN (pe_slice sl_listN (pv 2) po_none (po_some (pv 5))) (pe_revL (pv 8))) (pe_slice sl_listN (pv 2) (po_some (pe_op op_add (pv 5) pe_int)) po_none))))) pss_nil)
      (Evl.pss_cut (ps_if (pt_cmpR op_eq (pv 3) pe_int (nomark _)) (pss_one (ps_ret (pe_op op_catN (pv 2) (pe_slice sl_listN (pv 2) (po_some (pv 5)) (po_some (pe_op op_add (pv 5) pe_int)))))) pss_nil)
      (Evl.pss_cut (ps_if (pt_cmpR op_eq (pv 3) pe_int (nomark _)) (pss_one (ps_ret (pe_revL (pv 2)))) pss_nil)
      (Evl.pss_cut (ps_asg (pe_ifExp (pt_cmpR op_eq (pv 5) (pe_callB call_len_seq (by rfl) T.z_len (by decide +kernel) (pa_cons (pv 2) pa_nil)) (nomark _)) (pe_tupN (pa_cons (pv 6) (pa_cons (pv 7) pa_nil))) (pe_ix ix_list (pv 2) (pv 5) (fun _ _ => rfl))) (pg_tup rfl (pgs_cons (pg_name (i := 9) scBen.nd rfl (.inl rfl)) (pgs_cons (pg_name (i := 10) scBen.nd rfl (.inl rfl)) pgs_nil))))
      (Evl.pss_cut (ps_set (i := 11) scBen.nd rfl (.inl rfl) (pe_lstN (pa_cons (pe_lstN (pa_cons (pv 9) (pa_cons (pv 10) pa_nil))) (pa_cons (pe_tupN (pa_cons (pv 9) (pa_cons (pv 10) (pa_cons (pv 10) pa_nil)))) (pa_cons (pe_tupN (pa_cons (pv 9) pa_nil)) (pa_cons (pe_tupN (pa_cons (pv 10) (pa_cons (pv 9) pa_nil))) (pa_cons pe_non (pa_cons (pv 9) (pa_cons pe_str (pa_cons (pe_tupN pa_nil) (pa_cons (pe_tupN (pa_cons (pe_cmpR op_eq (pv 9) pe_int (nomark _)) (pa_cons (pv 10) pa_nil))) (pa_cons (pe_tupN (pa_cons (pv 9) (pa_cons (pe_cmpR op_eq (pv 10) pe_int (nomark _)) pa_nil))) pa_nil))))))))))))
      (Evl.pss_cut (ps_set (i := 11) scBen.nd rfl (.inl rfl) (pe_op op_catN (pv 11) (pe_lstN (pa_cons (pe_tupN (pa_cons (pe_un un_neg pe_int) (pa_cons (pv 10) pa_nil))) (pa_cons (pe_tupN (pa_cons (pe_callB call_len_seq (by rfl) T.z_len (by decide +kernel) (pa_cons (pv 1) pa_nil)) (pa_cons (pv 10) pa_nil))) (pa_cons (pe_tupN (pa_cons (pv 9) (pa_cons (pe_op op_sub pe_int (pv 10)) pa_nil))) (pa_cons (pe_tupN (pa_cons (pv 9) (pa_cons pe_int pa_nil))) (pa_cons (pe_tupN (pa_cons (pe_callTy call_str_int (by rfl) T.z_str (by decide +kernel) (pa_cons (pv 9) pa_nil)) (pa_cons (pv 10) pa_nil))) (pa_cons (pe_tupN (pa_cons (pv 9) (pa_cons pe_non pa_nil))) pa_nil)))))))))
      (Evl.pss_cut (ps_set (i := 11) scBen.nd rfl (.inl rfl) (pe_op op_catN (pv 11) (pe_lstN (pa_cons (pe_tupN (pa_cons (pv 9) (pa_cons (pe_lstN (pa_cons (pv 10) pa_nil)) pa_nil))) (pa_cons (pe_tupN (pa_cons (pe_lstN (pa_cons (pv 9) pa_nil)) (pa_cons (pv 10) pa_nil))) pa_nil)))))
      (Evl.pss_cut (ps_if (pt_cmpR op_gt (pv 3) pe_int (nomark _)) (pss_one (ps_asg (pe_ix ix_list (pe_lstN (pa_cons (pe_tupN (pa_cons (pv 6) (pa_cons (pv 10) pa_nil))) (pa_cons (pe_tupN (pa_cons (pv 9) (pa_cons (pv 7) pa_nil))) (pa_cons (pe_tupN (pa_cons (pe_op op_sub (pv 9) pe_int) (pa_cons (pv 10) pa_nil))) (pa_cons (pe_tupN (pa_cons (pe_op op_add (pv 9) pe_int) (pa_cons (pv 10) pa_nil))) pa_nil))))) (pe_op op_sub (pv 3) pe_int) (fun _ _ => rfl)) (pg_sub (pv 11) (pv 4) set_list))) pss_nil)
      (pss_one (ps_ret (pe_op op_catN (pe_op op_catN (pe_slice sl_listN (pv 2) po_none (po_some (pv 5))) (pe_lstN (pa_cons (pe_ix ix_list (pv 11) (pv 4) (fun _ _ => rfl)) pa_nil))) (pe_slice sl_listN (pv 2) (po_some (pe_op op_add (pv 5) pe_int)) po_none))))))))))))))))))), ?_⟩
    refine Evl.q_cut (M := fun σ' H' => ∃ wy : Int, σ' = [some (.ref f), some (.ref b), some (.ref t), some (.int wy), none, none, none, none, none, none, none, none] ∧ 0 ≤ wy ∧ wy < 12 ∧ Feed H' f c (B + 1) ∧ Ke (· = f) H H') ?_ ?_
    · exact ⟨_, rfl, f, c, 12, B, rfl, by decide, by decide, hF, by omega, fun d H1 d0 d1 F1 k1 => ⟨d, rfl, d0, d1, F1, k1⟩⟩
    rintro σ' H1 ⟨wy, rfl, w0, w12, F1, k1⟩
    refine Evl.q_cut (M := fun σ' H' => ∃ o : Nat, σ' = [some (.ref f), some (.ref b), some (.ref t), some (.int wy), some (.int (o : Nat)), none, none, none, none, none, none, none] ∧ o < 18 ∧ Feed H' f c (B + 2) ∧ Ke (· = f) H H') ?_ ?_
    · refine ⟨_, rfl, f, c, 18, _, rfl, by decide, by decide, F1, by omega, fun d H2 d0 d1 F2 k2 => ⟨d.toNat, ?_, by omega, F2, k1.trans k2⟩⟩
      rw [Int.toNat_of_nonneg d0]
      rfl
    clear k1 F1 H1
    rintro σ' H1 ⟨o, rfl, o18, F1, k1⟩
    refine Evl.q_cut (M := fun σ' H' => ∃ n : Nat, σ' = [some (.ref f), some (.ref b), some (.ref t), some (.int wy), some (.int (o : Nat)), some (.int (n : Nat)), none, none, none, none, none, none] ∧ n ≤ us.length ∧ Feed H' f c (B + 3) ∧ Ke (· = f) H H') ?_ ?_
    · refine ⟨_, rfl, _, rfl, t, _, rfl, .inl (.of (k1.lst ht ntf)), _, _, rfl, rfl, f, c, _, _, rfl, by omega, by omega, F1, by omega, fun d H2 d0 d1 F2 k2 => ⟨d.toNat, ?_, by omega, F2, k1.trans k2⟩⟩
      rw [Int.toNat_of_nonneg d0]
      rfl
    clear k1 F1 H1
    rintro σ' H1 ⟨n, rfl, ln, F1, k1⟩
    refine Evl.q_cut (M := fun σ' H' => ∃ m : Nat, σ' = [some (.ref f), some (.ref b), some (.ref t), some (.int wy), some (.int (o : Nat)), some (.int (n : Nat)), some (.int (m : Nat)), none, none, none, none, none] ∧ m ≤ 40 ∧ Feed H' f c (B + 4) ∧ Ke (· = f) H H') ?_ ?_
    · refine ⟨_, rfl, _, rfl, b, _, rfl, .inr (.of (k1.tups _ _ hb)), _, _, rfl, rfl, f, c, _, _, rfl, by omega, by omega, F1, by omega, fun d H2 d0 d1 F2 k2 => ⟨d.toNat, ?_, by omega, F2, k1.trans k2⟩⟩
      rw [Int.toNat_of_nonneg d0]
      rfl
    clear k1 F1 H1
    rintro σ' H1 ⟨m, rfl, m40, F1, k1⟩
    refine Evl.q_cut (M := fun σ' H' => ∃ z : Int, σ' = [some (.ref f), some (.ref b), some (.ref t), some (.int wy), some (.int (o : Nat)), some (.int (n : Nat)), some (.int (m : Nat)), some (.int z), none, none, none, none] ∧ -8 ≤ z ∧ z ≤ 8 ∧ Feed H' f c (B + 6) ∧ Ke (· = f) H H') ?_ ?_
    · refine ⟨_, rfl, by show 2 ≤ sizeLine; decide, fun p6 H6 np6 s6 hp6 _ => ⟨_, rfl, f, c, 2, _, rfl, by decide, by decide, F1.same s6, by omega, fun e H7 e0 e1 F7 k7 => ?_⟩⟩
      have pk : ∃ y : Int, (y = 1 ∨ y = -1) ∧ atI [V.int 1, V.int (-1)] e = some (.int y) := by
        have two : e = 0 ∨ e = 1 := by omega
        rcases two with rfl | rfl
        · exact ⟨1, .inl rfl, rfl⟩
        · exact ⟨-1, .inr rfl, rfl⟩
      obtain ⟨y, hy, ha⟩ := pk
      refine ⟨p6, _, e, .int y, rfl, rfl, .of (k7.lst hp6 (F1.nf np6)), ha, _, rfl, f, c, 8, _, rfl, by decide, by decide, F7, by omega, fun g H8 g0 g1 F8 k8 => ?_⟩
      refine ⟨_, _, rfl, rfl, _, _, rfl, rfl, .inl ⟨by omega, by omega⟩, y * (1 + g), rfl, ?_, ?_, F8.mono (by omega), ((k1.trans (.same s6)).trans k7).trans k8⟩
      · rcases hy with rfl | rfl <;> omega
      · rcases hy with rfl | rfl <;> omega
    clear k1 F1 H1
    rintro σ' H1 ⟨z, rfl, z1, z2, F1, k1⟩
    have ht1 := k1.lst ht ntf
    have hb1 := k1.tups _ _ hb
    have od1 : OdAll (Kn H) H1 us (steps.map datS) := stl_od (sl.tups k1.tups)
    have sd : ∀ d ∈ steps.map datS, S6 d := fun d hd => by
      obtain ⟨s, hs, rfl⟩ := List.mem_map.mp hd
      exact sm_dat (sm s hs)
    have ld : (steps.map datS).length ≤ 20 := by rw [List.length_map]; exact ls
    have done : ∀ {p : Addr} {vs : List V} {ds : List PyData} {H2 : Hp}, Same H1 H2 → H1 p = none → H2 p = some (.lst vs) → OdAll (Kn H) H2 vs ds → (∀ d ∈ ds, S6 d) → ds.length ≤ 50 → Q (.ref p) H2 := fun {p vs ds H2} s2 np hp ho hs hl =>
      q p vs ds H2 ((F1.same s2).mono (by omega)) (k1.trans (.same s2)) (.ke k1 F1 (.of np)) hp ho hs hl
    have pm : ∀ {as bs : List PyData}, (∀ d ∈ as, S6 d) → (∀ d ∈ bs, S6 d) → ∀ d ∈ as ++ bs, S6 d := fun {as bs} ha hb d hd => by
      rcases List.mem_append.mp hd with y | y
      · exact ha d y
      · exact hb d y
    -- a cut of the steps
    have cutS : ∀ (lo hi : Option Int), ∃ es, OdAll (Kn H) H1 (cutV us lo hi) es ∧ es.length ≤ 20 ∧ ∀ d ∈ es, S6 d := fun lo hi => by
      obtain ⟨es, h1, h2, h3⟩ := od_cut od1 lo hi
      exact ⟨es, h1, Nat.le_trans h2 ld, fun d hd => sd d (h3 d hd)⟩
    have lc : ∀ (lo hi : Option Int), (cutV us lo hi).length ≤ 20 := fun lo hi => by
      obtain ⟨es, h1, h2, _⟩ := cutS lo hi
      rw [h1.len]
      exact h2
    -- way 0
    refine Evl.q_cut (M := fun σ' H' => σ' = [some (.ref f), some (.ref b), some (.ref t), some (.int wy), some (.int (o : Nat)), some (.int (n : Nat)), some (.int (m : Nat)), some (.int z), none, none, none, none] ∧ H' = H1) ?_ ?_
    · refine ⟨_, rfl, rfl, _, rfl, ite2 (fun e => ?_) (fun e => ⟨rfl, rfl⟩)⟩
      refine ⟨_, rfl, _, rfl, (n : Nat), rfl, t, _, rfl, .of ht1, fun L H2 nL s2 hL _ => ?_⟩
      refine ⟨_, rfl, _, rfl, _, _, rfl, rfl, (n : Int) + 1, rfl, t, _, rfl, .of (s2 _ _ ht1), fun R H3 nR s3 hR _ => ?_⟩
      have l1 := lc none (some (n : Nat))
      have l2 := lc (some ((n : Int) + 1)) none
      refine ⟨L, R, _, _, rfl, rfl, s3 _ _ hL, hR, small1000' (by omega), fun p H4 np s4 hp _ => ?_⟩
      obtain ⟨e1, o1, n1, m1⟩ := cutS none (some (n : Nat))
      obtain ⟨e2, o2, n2, m2⟩ := cutS (some ((n : Int) + 1)) none
      have s14 := s2.trans (s3.trans s4)
      exact done s14 (s2.free (s3.free np)) hp ((o1.same s14).cat (o2.same s14)) (pm m1 m2) (by rw [List.length_append]; omega)
    rintro σ' H1' ⟨rfl, rfl⟩
    -- way 1
    refine Evl.q_cut (M := fun σ' H' => σ' = [some (.ref f), some (.ref b), some (.ref t), some (.int wy), some (.int (o : Nat)), some (.int (n : Nat)), some (.int (m : Nat)), some (.int z), none, none, none, none] ∧ H' = H1') ?_ ?_
    · refine ⟨_, rfl, rfl, _, rfl, ite2 (fun e => ?_) (fun e => ⟨rfl, rfl⟩)⟩
      refine ⟨_, rfl, _, rfl, (n : Nat), rfl, t, _, rfl, .of ht1, fun L H2 nL s2 hL _ => ?_⟩
      refine ⟨_, rfl, _, rfl, by show 2 ≤ sizeLine; decide, fun u H3 nu s3 hu _ => ⟨by show 1 ≤ sizeLine; decide, fun M H4 nM s4 hM _ => ?_⟩⟩
      have l1 := lc none (some (n : Nat))
      have l2 := lc (some (n : Nat)) none
      refine ⟨L, M, _, _, rfl, rfl, s4 _ _ (s3 _ _ hL), hM, small1000' (by show _ + 1 ≤ _; omega), fun L2 H5 nL2 s5 hL2 _ => ?_⟩
      have s25 := ((s2.trans s3).trans s4).trans s5
      refine ⟨_, rfl, _, rfl, (n : Nat), rfl, t, _, rfl, .of (s25 _ _ ht1), fun R H6 nR s6 hR _ => ?_⟩
      refine ⟨L2, R, _, _, rfl, rfl, s6 _ _ hL2, hR, small1000' (by rw [List.length_append]; show _ + 1 + _ ≤ _; omega), fun p H7 np s7 hp _ => ?_⟩
      obtain ⟨e1, o1, n1, m1⟩ := cutS none (some (n : Nat))
      obtain ⟨e2, o2, n2, m2⟩ := cutS (some (n : Nat)) none
      have s17 := (s25.trans s6).trans s7
      have s37 := ((s4.trans s5).trans s6).trans s7
      have od : OdV (Kn H) H7 (.ref u) (.tuple [.int (m : Nat), .int z]) := .tup (s37 _ _ hu) (.cons (.int _) (.cons (.int _) .nil))
      refine done s17 ((s25.trans s6).free np) hp (((o1.same s17).cat (.one od)).cat (o2.same s17)) (pm (pm m1 fun d hd => ?_) m2) (by rw [List.length_append, List.length_append]; show e1.length + 1 + e2.length ≤ _; omega)
      rw [List.mem_singleton.mp hd]
      exact t_ints (by omega) (by omega) (by omega) (by omega)
    rintro σ' H1'' ⟨rfl, rfl⟩
    -- way 2
    refine Evl.q_cut (M := fun σ' H' => σ' = [some (.ref f), some (.ref b), some (.ref t), some (.int wy), some (.int (o : Nat)), some (.int (n : Nat)), some (.int (m : Nat)), some (.int z), none, none, none, none] ∧ H' = H1'') ?_ ?_
    · refine ⟨_, rfl, rfl, _, rfl, ite2 (fun e => ?_) (fun e => ⟨rfl, rfl⟩)⟩
      refine Evl.q_cut (M := fun σ' H' => ∃ Pa, σ' = [some (.ref f), some (.ref b), some (.ref t), some (.int wy), some (.int (o : Nat)), some (.int (n : Nat)), some (.int (m : Nat)), some (.int z), some (.ref Pa), none, none, none] ∧ Same H1'' H' ∧ H' Pa = some (.lst (cutV us (some (n : Nat)) (some ((n : Int) + 2))))) ?_ ?_
      · exact ⟨_, rfl, _, rfl, (n : Nat), rfl, _, rfl, _, _, rfl, rfl, (n : Int) + 2, rfl, t, _, rfl, .of ht1, fun Pa H2 nP s2 hP _ => ⟨Pa, rfl, s2, hP⟩⟩
      rintro σ' H2 ⟨Pa, rfl, s2, hP⟩
      refine ⟨_, rfl, _, rfl, (n : Nat), rfl, t, _, rfl, .of (s2 _ _ ht1), fun L H3 nL s3 hL _ => ?_⟩
      refine ⟨_, rfl, Pa, _, rfl, .of (s3 _ _ hP), fun R nR => ?_⟩
      have sR : Same H3 (upd H3 R (.lst (cutV us (some (n : Nat)) (some ((n : Int) + 2))).reverse)) := same_new nR
      have hR : (upd H3 R (.lst (cutV us (some (n : Nat)) (some ((n : Int) + 2))).reverse)) R = some (.lst (cutV us (some (n : Nat)) (some ((n : Int) + 2))).reverse) := upd_same
      generalize upd H3 R (.lst (cutV us (some (n : Nat)) (some ((n : Int) + 2))).reverse) = H4 at sR hR ⊢
      have l1 := lc none (some (n : Nat))
      have l2 := lc (some (n : Nat)) (some ((n : Int) + 2))
      have l3 := lc (some ((n : Int) + 2)) none
      refine ⟨L, R, _, _, rfl, rfl, sR _ _ hL, hR, small1000' (by rw [List.length_reverse]; omega), fun L2 H5 nL2 s5 hL2 _ => ?_⟩
      have s25 := ((s2.trans s3).trans sR).trans s5
      refine ⟨_, rfl, _, rfl, _, _, rfl, rfl, (n : Int) + 2, rfl, t, _, rfl, .of (s25 _ _ ht1), fun R2 H6 nR2 s6 hR2 _ => ?_⟩
      refine ⟨L2, R2, _, _, rfl, rfl, s6 _ _ hL2, hR2, small1000' (by rw [List.length_append, List.length_reverse]; omega), fun p H7 np s7 hp _ => ?_⟩
      obtain ⟨e1, o1, n1, m1⟩ := cutS none (some (n : Nat))
      obtain ⟨e2, o2, n2, m2⟩ := cutS (some (n : Nat)) (some ((n : Int) + 2))
      obtain ⟨e3, o3, n3, m3⟩ := cutS (some ((n : Int) + 2)) none
      have s17 := (s25.trans s6).trans s7
      refine done s17 ((s25.trans s6).free np) hp (((o1.same s17).cat (o2.same s17).rev).cat (o3.same s17)) (pm (pm m1 fun d hd => m2 d (List.mem_reverse.mp hd)) m3) ?_
      rw [List.length_append, List.length_append, List.length_reverse]
      have l4 : e2.length ≤ 2 ∨ e2.length ≤ 20 := .inr n2
      have c2 : (cutV us (some (n : Nat)) (some ((n : Int) + 2))).length ≤ 2 := by
        unfold cutV
        rw [show ((n : Int) + 2) = ((n + 2 : Nat) : Int) from rfl, HT.sIx_nat, HT.sIx_nat, List.length_take, List.length_drop]
        omega
      rw [o2.len] at c2
      omega
    rintro σ' H1'' ⟨rfl, rfl⟩
    -- way 3
    refine Evl.q_cut (M := fun σ' H' => σ' = [some (.ref f), some (.ref b), some (.ref t), some (.int wy), some (.int (o : Nat)), some (.int (n : Nat)), some (.int (m : Nat)), some (.int z), none, none, none, none] ∧ H' = H1'') ?_ ?_
    · refine ⟨_, rfl, rfl, _, rfl, ite2 (fun e => ?_) (fun e => ⟨rfl, rfl⟩)⟩
      refine ⟨_, rfl, _, rfl, _, rfl, (n : Nat), rfl, _, rfl, _, _, rfl, rfl, (n : Int) + 1, rfl, t, _, rfl, .of ht1, fun R H2 nR s2 hR _ => ?_⟩
      have l2 := lc (some (n : Nat)) (some ((n : Int) + 1))
      refine ⟨t, R, _, _, rfl, rfl, s2 _ _ ht1, hR, small1000' (by omega), fun p H3 np s3 hp _ => ?_⟩
      obtain ⟨e2, o2, n2, m2⟩ := cutS (some (n : Nat)) (some ((n : Int) + 1))
      have s13 := s2.trans s3
      exact done s13 (s2.free np) hp ((od1.same s13).cat (o2.same s13)) (pm sd m2) (by rw [List.length_append]; omega)
    rintro σ' H1'' ⟨rfl, rfl⟩
    -- way 4
    refine Evl.q_cut (M := fun σ' H' => σ' = [some (.ref f), some (.ref b), some (.ref t), some (.int wy), some (.int (o : Nat)), some (.int (n : Nat)), some (.int (m : Nat)), some (.int z), none, none, none, none] ∧ H' = H1'') ?_ ?_
    · refine ⟨_, rfl, rfl, _, rfl, ite2 (fun e => ?_) (fun e => ⟨rfl, rfl⟩)⟩
      refine ⟨_, rfl, t, us, rfl, .of ht1, fun p np => ?_⟩
      exact done (same_new np) np upd_same ((od1.same (same_new np)).rev) (fun d hd => sd d (List.mem_reverse.mp hd)) (by rw [List.length_reverse]; omega)
    rintro σ' H1'' ⟨rfl, rfl⟩
    -- one, two
    refine Evl.q_cut (M := fun σ' H' => ∃ (x : Nat) (y : Int), σ' = [some (.ref f), some (.ref b), some (.ref t), some (.int wy), some (.int (o : Nat)), some (.int (n : Nat)), some (.int (m : Nat)), some (.int z), none, some (.int (x : Nat)), some (.int y), none] ∧ x ≤ 40 ∧ -8 ≤ y ∧ y ≤ 8 ∧ Same H1'' H') ?_ ?_
    · refine ⟨_, rfl, _, rfl, t, _, rfl, .inl (.of ht1), rfl, _, rfl, ite2 (fun e => ?_) (fun e => ?_)⟩
      · refine ⟨_, rfl, _, rfl, by show 2 ≤ sizeLine; decide, fun u H3 nu s3 hu _ => ?_⟩
        exact ⟨u, _, rfl, .of hu, rfl, _, _, rfl, _, _, rfl, rfl, m, z, rfl, m40, z1, z2, s3⟩
      · have nl : n < us.length := by
          have : n ≠ us.length := fun y => e (by rw [y]; exact decide_eq_true rfl)
          omega
        have h2 := List.getElem?_eq_getElem (show n < steps.length by omega)
        obtain ⟨p, ep, hp⟩ := sl.2 n _ _ (List.getElem?_eq_getElem nl) h2
        have bn := sm _ (List.getElem_mem (show n < steps.length by omega))
        generalize steps[n]'(by omega) = s0 at hp bn h2
        refine ⟨_, rfl, _, rfl, t, _, _, us[n], rfl, rfl, .of ht1, at_of (j := n) rfl (List.getElem?_eq_getElem nl), ?_⟩
        rw [ep]
        exact ⟨p, _, rfl, .of (k1.tups _ _ hp), rfl, _, _, rfl, _, _, rfl, rfl, s0.1, s0.2, rfl, bn.1, bn.2.1, bn.2.2, .refl _⟩
    rintro σ' H2 ⟨x, y, rfl, x40, y1, y2, s2⟩
    have F2 := F1.same s2
    -- some, ten of it
    refine Evl.q_cut (M := fun σ' H' => ∃ (S : Addr) (vs : List V) (ds : List PyData), σ' = [some (.ref f), some (.ref b), some (.ref t), some (.int wy), some (.int (o : Nat)), some (.int (n : Nat)), some (.int (m : Nat)), some (.int z), none, some (.int (x : Nat)), some (.int y), some (.ref S)] ∧ Same H1'' H' ∧ H' S = some (.lst vs) ∧ OdAll (Kn H) H' vs ds ∧ (∀ d ∈ ds, S6 d) ∧ ds.length = 10) ?_ ?_
    · refine ⟨_, rfl, _, rfl, by show 2 ≤ sizeLine; decide, fun q0 G0 n0 t0 h0 _ => ?_⟩
      refine ⟨_, rfl, _, rfl, _, rfl, by show 3 ≤ sizeLine; decide, fun q1 G1 _ t1 h1 _ => ?_⟩
      refine ⟨_, rfl, by show 1 ≤ sizeLine; decide, fun q2 G2 _ t2 h2 _ => ?_⟩
      refine ⟨_, rfl, _, rfl, by show 2 ≤ sizeLine; decide, fun q3 G3 _ t3 h3 _ => ?_⟩
      refine ⟨_, rfl, Nat.zero_le _, fun q7 G7 _ t7 h7 _ => ?_⟩
      refine ⟨_, rfl, rfl, _, rfl, by show 2 ≤ sizeLine; decide, fun q8 G8 _ t8 h8 _ => ?_⟩
      refine ⟨_, rfl, _, rfl, rfl, by show 2 ≤ sizeLine; decide, fun q9 G9 _ t9 h9 _ => ?_⟩
      refine ⟨by show 10 ≤ sizeLine; decide, fun S G _ tS hS _ => ?_⟩
      have u9 := tS
      have u8 := t9.trans u9
      have u7 := t8.trans u8
      have u3 := t7.trans u7
      have u2 := t3.trans u3
      have u1 := t2.trans u2
      have u0 := t1.trans u1
      have nqf : ¬ Kn H q0 := kn_new k1 F2 s2 n0
      refine ⟨S, _, [.list [.int (x : Nat), .int y], .tuple [.int (x : Nat), .int y, .int y], .tuple [.int (x : Nat)], .tuple [.int y, .int (x : Nat)], .none, .int (x : Nat), .str "ab", .tuple [], .tuple [.bool (decide (V.int (x : Nat) = V.int 1)), .int y], .tuple [.int (x : Nat), .bool (decide (V.int y = V.int 1))]], rfl, s2.trans (t0.trans u0), hS,
        .cons (.lst (u0 _ _ h0) nqf (.cons (.int _) (.cons (.int _) .nil))) (.cons (.tup (u1 _ _ h1) (.cons (.int _) (.cons (.int _) (.cons (.int _) .nil)))) (.cons (.tup (u2 _ _ h2) (.cons (.int _) .nil)) (.cons (.tup (u3 _ _ h3) (.cons (.int _) (.cons (.int _) .nil))) (.cons .non (.cons (.int _) (.cons (.str _) (.cons (.tup (u7 _ _ h7) .nil) (.cons (.tup (u8 _ _ h8) (.cons (.bl _) (.cons (.int _) .nil))) (.cons (.tup (u9 _ _ h9) (.cons (.int _) (.cons (.bl _) .nil))) .nil))))))))), fun d hd => ?_, rfl⟩
      have i1 : Sm 3 (.int (x : Nat)) := sm_int (by omega) (by omega)
      have i2 : Sm 3 (.int y) := sm_int (by omega) (by omega)
      have d0 : ∀ i : Int, (PyData.int i).depth ≤ 5 := fun i => Nat.zero_le _
      simp only [List.mem_cons, List.not_mem_nil, or_false] at hd
      rcases hd with rfl | rfl | rfl | rfl | rfl | rfl | rfl | rfl | rfl | rfl
      · exact ⟨(SmAll.cons i1 (d0 _) (.cons i2 (d0 _) .nil)).list (n := 2) (by simp) (by decide), by show Nat.max 0 (Nat.max 0 0) + 1 ≤ 5; decide⟩
      · exact ⟨(SmAll.cons i1 (d0 _) (.cons i2 (d0 _) (.cons i2 (d0 _) .nil))).tuple (n := 3) (by simp) (by decide), by show Nat.max 0 (Nat.max 0 (Nat.max 0 0)) + 1 ≤ 5; decide⟩
      · exact ⟨(SmAll.cons i1 (d0 _) .nil).tuple (n := 1) (by simp) (by decide), by show Nat.max 0 0 + 1 ≤ 5; decide⟩
      · exact t_ints (by omega) (by omega) (by omega) (by omega)
      · exact ⟨sm_non.mono (by decide), Nat.zero_le _⟩
      · exact s6_int (by omega) (by omega)
      · exact ⟨⟨rfl, rfl, by decide, by decide +kernel⟩, Nat.zero_le _⟩
      · exact ⟨⟨rfl, rfl, by decide, by decide +kernel⟩, by decide⟩
      · exact sm_two (sm_bool _) (Nat.zero_le _) (i2.mono (by decide)) (Nat.zero_le _)
      · exact sm_two (i1.mono (by decide)) (Nat.zero_le _) (sm_bool _) (Nat.zero_le _)
    clear F2 s2 H2
    rintro σ' H2 ⟨S, vs, ds, rfl, s2, hS, os, ss, lds⟩
    have lvs : vs.length = 10 := by rw [os.len, lds]
    -- six more
    refine Evl.q_cut (M := fun σ' H' => ∃ (S : Addr) (vs : List V) (ds : List PyData), σ' = [some (.ref f), some (.ref b), some (.ref t), some (.int wy), some (.int (o : Nat)), some (.int (n : Nat)), some (.int (m : Nat)), some (.int z), none, some (.int (x : Nat)), some (.int y), some (.ref S)] ∧ Same H1'' H' ∧ H' S = some (.lst vs) ∧ OdAll (Kn H) H' vs ds ∧ (∀ d ∈ ds, S6 d) ∧ ds.length = 16) ?_ ?_
    · refine ⟨_, rfl, _, rfl, _, rfl, by show 2 ≤ sizeLine; decide, fun q0 G0 n0 t0 h0 _ => ?_⟩
      refine ⟨_, rfl, b, _, rfl, .inr (.of (t0 _ _ (s2 _ _ hb1))), _, rfl, by show 2 ≤ sizeLine; decide, fun q1 G1 _ t1 h1 _ => ?_⟩
      refine ⟨_, rfl, _, rfl, _, _, rfl, rfl, by show 2 ≤ sizeLine; decide, fun q2 G2 _ t2 h2 _ => ?_⟩
      refine ⟨_, rfl, by show 2 ≤ sizeLine; decide, fun q3 G3 _ t3 h3 _ => ?_⟩
      refine ⟨_, rfl, _, rfl, log_small (by omega), _, rfl, by show 2 ≤ sizeLine; decide, fun q4 G4 _ t4 h4 _ => ?_⟩
      refine ⟨_, rfl, by show 2 ≤ sizeLine; decide, fun q5 G5 _ t5 h5 _ => ?_⟩
      refine ⟨by show 6 ≤ sizeLine; decide, fun M G6 _ t6 h6 _ => ?_⟩
      have u6 := t6
      have u4 := t5.trans u6
      have u3 := t4.trans u4
      have u2 := t3.trans u3
      have u1 := t2.trans u2
      have u0 := t1.trans u1
      have ua := t0.trans u0
      refine ⟨S, M, _, _, rfl, rfl, ua _ _ hS, h6, small1000' (by show vs.length + 6 ≤ _; omega), fun p G7 np t7 hp _ => ?_⟩
      refine ⟨p, _, ds ++ [.tuple [.int (-1), .int y], .tuple [.int ((bvs.length : Nat) : Int), .int y], .tuple [.int (x : Nat), .int (0 - y)], .tuple [.int (x : Nat), .int 0], .tuple [.str (toString ((x : Nat) : Int)), .int y], .tuple [.int (x : Nat), .none]], rfl, s2.trans (ua.trans t7), hp, ?_, pm ss fun d hd => ?_, by rw [List.length_append, lds]; rfl⟩
      · refine (os.same (ua.trans t7)).cat ?_
        exact .cons (.tup (t7 _ _ (u0 _ _ h0)) (.cons (.int _) (.cons (.int _) .nil))) (.cons (.tup (t7 _ _ (u1 _ _ h1)) (.cons (.int _) (.cons (.int _) .nil))) (.cons (.tup (t7 _ _ (u2 _ _ h2)) (.cons (.int _) (.cons (.int _) .nil))) (.cons (.tup (t7 _ _ (u3 _ _ h3)) (.cons (.int _) (.cons (.int _) .nil))) (.cons (.tup (t7 _ _ (u4 _ _ h4)) (.cons (.str _) (.cons (.int _) .nil))) (.cons (.tup (t7 _ _ (u6 _ _ h5)) (.cons (.int _) (.cons .non .nil))) .nil)))))
      · simp only [List.mem_cons, List.not_mem_nil, or_false] at hd
        rcases hd with rfl | rfl | rfl | rfl | rfl | rfl
        · exact t_ints (by omega) (by omega) (by omega) (by omega)
        · exact t_ints (by omega) (by omega) (by omega) (by omega)
        · exact t_ints (by omega) (by omega) (by omega) (by omega)
        · exact t_ints (by omega) (by omega) (by omega) (by omega)
        · exact sm_two (small_str (by omega)) (Nat.zero_le _) ((sm_int (by omega) (by omega)).mono (by decide)) (Nat.zero_le _)
        · exact sm_two ((sm_int (by omega) (by omega)).mono (by decide)) (Nat.zero_le _) sm_non (Nat.zero_le _)
    clear os ss lds lvs hS s2 H2 S vs ds
    rintro σ' H2 ⟨S, vs, ds, rfl, s2, hS, os, ss, lds⟩
    have lvs : vs.length = 16 := by rw [os.len, lds]
    have F2 := F1.same s2
    -- two more
    refine Evl.q_cut (M := fun σ' H' => ∃ (S : Addr) (vs : List V) (ds : List PyData), σ' = [some (.ref f), some (.ref b), some (.ref t), some (.int wy), some (.int (o : Nat)), some (.int (n : Nat)), some (.int (m : Nat)), some (.int z), none, some (.int (x : Nat)), some (.int y), some (.ref S)] ∧ Same H1'' H' ∧ H1'' S = none ∧ H' S = some (.lst vs) ∧ OdAll (Kn H) H' vs ds ∧ OdAll (· = S) H' vs ds ∧ (∀ d ∈ ds, S6 d) ∧ ds.length = 18) ?_ ?_
    · refine ⟨_, rfl, _, rfl, _, rfl, by show 1 ≤ sizeLine; decide, fun l0 G0 n0 t0 h0 _ => ?_⟩
      refine ⟨by show 2 ≤ sizeLine; decide, fun q1 G1 _ t1 h1 _ => ?_⟩
      refine ⟨_, rfl, by show 1 ≤ sizeLine; decide, fun l2 G2 n2 t2 h2 _ => ?_⟩
      refine ⟨_, rfl, by show 2 ≤ sizeLine; decide, fun q3 G3 _ t3 h3 _ => ?_⟩
      refine ⟨by show 2 ≤ sizeLine; decide, fun M G4 _ t4 h4 _ => ?_⟩
      have u3 := t4
      have u2 := t3.trans u3
      have u1 := t2.trans u2
      have u0 := t1.trans u1
      have ua := t0.trans u0
      have nl0 : ¬ Kn H l0 := kn_new k1 F2 s2 n0
      have nl2 : ¬ Kn H l2 := kn_new k1 (F2.same (t0.trans t1)) (s2.trans (t0.trans t1)) n2
      refine ⟨S, M, _, _, rfl, rfl, ua _ _ hS, h4, small1000' (by show vs.length + 2 ≤ _; omega), fun p G7 np t7 hp _ => ?_⟩
      have o4 : OdAll (Kn H) G4 (vs ++ [.ref q1, .ref q3]) (ds ++ [.tuple [.int (x : Nat), .list [.int y]], .tuple [.list [.int (x : Nat)], .int y]]) := by
        refine (os.same ua).cat ?_
        exact .cons (.tup (u1 _ _ h1) (.cons (.int _) (.cons (.lst (u0 _ _ h0) nl0 (.cons (.int _) .nil)) .nil))) (.cons (.tup (u3 _ _ h3) (.cons (.lst (u2 _ _ h2) nl2 (.cons (.int _) .nil)) (.cons (.int _) .nil))) .nil)
      refine ⟨p, _, _, rfl, s2.trans (ua.trans t7), (s2.trans ua).free np, hp, o4.same t7, o4.new np t7, pm ss fun d hd => ?_, by rw [List.length_append, lds]; rfl⟩
      simp only [List.mem_cons, List.not_mem_nil, or_false] at hd
      obtain ⟨a1, a2⟩ := l_one (a := y) (by omega) (by omega)
      obtain ⟨b1, b2⟩ := l_one (a := (x : Nat)) (by omega) (by omega)
      rcases hd with rfl | rfl
      · exact sm_two ((sm_int (by omega) (by omega)).mono (by decide)) (Nat.zero_le _) a1 a2
      · exact sm_two b1 b2 ((sm_int (by omega) (by omega)).mono (by decide)) (Nat.zero_le _)
    clear os ss lds lvs hS s2 F2 H2 S vs ds
    rintro σ' H2 ⟨S, vs, ds, rfl, s2, nS, hS, os, oS, ss, lds⟩
    have lvs : vs.length = 18 := by rw [os.len, lds]
    have frS : Frs H1'' S := .of nS
    -- some[odd] = ..
    refine Evl.q_cut (M := fun σ' H' => ∃ (vs : List V) (ds : List PyData), σ' = [some (.ref f), some (.ref b), some (.ref t), some (.int wy), some (.int (o : Nat)), some (.int (n : Nat)), some (.int (m : Nat)), some (.int z), none, some (.int (x : Nat)), some (.int y), some (.ref S)] ∧ Ke Nof H1'' H' ∧ H' S = some (.lst vs) ∧ OdAll (Kn H) H' vs ds ∧ (∀ d ∈ ds, S6 d) ∧ ds.length = 18) ?_ ?_
    · refine ⟨_, rfl, _, _, rfl, rfl, _, rfl, ite2 (fun e => ?_) (fun e => ?_)⟩
      · have w8 : 7 < wy := of_decide_eq_true e
        refine ⟨_, rfl, _, rfl, by show 2 ≤ sizeLine; decide, fun q0 G0 n0 t0 h0 _ => ?_⟩
        refine ⟨_, rfl, _, rfl, by show 2 ≤ sizeLine; decide, fun q1 G1 _ t1 h1 _ => ?_⟩
        refine ⟨_, rfl, _, _, rfl, rfl, _, rfl, by show 2 ≤ sizeLine; decide, fun q2 G2 _ t2 h2 _ => ?_⟩
        refine ⟨_, rfl, _, _, rfl, rfl, _, rfl, by show 2 ≤ sizeLine; decide, fun q3 G3 _ t3 h3 _ => ?_⟩
        refine ⟨by show 4 ≤ sizeLine; decide, fun M G4 nM t4 h4 _ => ?_⟩
        have u3 := t4
        have u2 := t3.trans u3
        have u1 := t2.trans u2
        have u0 := t1.trans u1
        have ua := t0.trans u0
        have pk : ∃ (qa : Addr) (g h : Int), atI [V.ref q0, .ref q1, .ref q2, .ref q3] (wy - 8) = some (.ref qa) ∧ G4 qa = some (.tup [.int g, .int h]) ∧ -60 ≤ g ∧ g < 70 ∧ -60 ≤ h ∧ h < 70 := by
          have four : wy - 8 = 0 ∨ wy - 8 = 1 ∨ wy - 8 = 2 ∨ wy - 8 = 3 := by omega
          rcases four with h | h | h | h <;> rw [h]
          · exact ⟨q0, _, _, rfl, u0 _ _ h0, by omega, by omega, by omega, by omega⟩
          · exact ⟨q1, _, _, rfl, u1 _ _ h1, by omega, by omega, by omega, by omega⟩
          · exact ⟨q2, _, _, rfl, u2 _ _ h2, by omega, by omega, by omega, by omega⟩
          · exact ⟨q3, _, _, rfl, u3 _ _ h3, by omega, by omega, by omega, by omega⟩
        obtain ⟨qa, g, h, ha, hq, g0, g1, hh0, hh1⟩ := pk
        have hS4 := ua _ _ hS
        refine ⟨_, rfl, _, _, rfl, rfl, M, _, wy - 8, .ref qa, rfl, rfl, .of h4, ha, _, rfl, _, rfl, S, vs, (o : Nat), o, rfl, rfl, hS4, ?_, ?_⟩
        · unfold ixN
          rw [if_pos (by omega), if_pos (by omega)]
          rfl
        have oq : ∀ {f' : Addr → Prop}, OdV f' G4 (.ref qa) (.tuple [.int g, .int h]) := .tup hq (.cons (.int _) (.cons (.int _) .nil))
        refine ⟨_, ds.set o (.tuple [.int g, .int h]), rfl, ((Ke.same s2).trans (.same ua)).write frS hS4, upd_same, ((os.same ua).set o oq).two hS4 ((oS.same ua).set o oq), fun d hd => ?_, by rw [List.length_set]; exact lds⟩
        rcases List.mem_or_eq_of_mem_set hd with z | z
        · exact ss d z
        · rw [z]
          exact t_ints g0 g1 hh0 hh1
      · exact ⟨vs, ds, rfl, .same s2, hS, os, ss, lds⟩
    clear os oS ss lds lvs hS s2 H2 vs ds
    rintro σ' H2 ⟨vs, ds, rfl, k2, hS, os, ss, lds⟩
    have lvs : vs.length = 18 := by rw [os.len, lds]
    have ht2 := k2.lst ht1 fun z => z
    refine ⟨_, rfl, _, rfl, (n : Nat), rfl, t, _, rfl, .of ht2, fun L H3 nL s3 hL _ => ?_⟩
    have ho := List.getElem?_eq_getElem (show o < vs.length by omega)
    obtain ⟨dx, hdx, ox⟩ := os.at ho
    generalize vs[o]'(by omega) = xv at ho ox
    refine ⟨_, rfl, _, rfl, S, _, _, xv, rfl, rfl, .of (s3 _ _ hS), at_of (j := o) rfl ho, by show 1 ≤ sizeLine; decide, fun M H4 nM s4 hM _ => ?_⟩
    have l1 := lc none (some (n : Nat))
    have l2 := lc (some ((n : Int) + 1)) none
    refine ⟨L, M, _, _, rfl, rfl, s4 _ _ hL, hM, small1000' (by show _ + 1 ≤ _; omega), fun L2 H5 nL2 s5 hL2 _ => ?_⟩
    have s25 := (s3.trans s4).trans s5
    refine ⟨_, rfl, _, rfl, _, _, rfl, rfl, (n : Int) + 1, rfl, t, _, rfl, .of (s25 _ _ ht2), fun R H6 nR s6 hR _ => ?_⟩
    refine ⟨L2, R, _, _, rfl, rfl, s6 _ _ hL2, hR, small1000' (by rw [List.length_append]; show _ + 1 + _ ≤ _; omega), fun p H7 np s7 hp _ => ?_⟩
    obtain ⟨e1, o1, n1, m1⟩ := cutS none (some (n : Nat))
    obtain ⟨e2, o2, n2, m2⟩ := cutS (some ((n : Int) + 1)) none
    have s27 := (s25.trans s6).trans s7
    have k17 : Ke Nof H1'' H7 := k2.trans (.same s27)
    refine q p _ _ H7 ((k17.feed F1).mono (by omega)) (k1.trans k17.all) (.ke k1 F1 (.ke0 k2 (.of ((s25.trans s6).free np)))) hp (((o1.ke k17.all).cat (.one (ox.same s27))).cat (o2.ke k17.all)) (pm (pm m1 fun d hd => ?_) m2) (by rw [List.length_append, List.length_append]; show e1.length + 1 + e2.length ≤ _; omega)
    rw [List.mem_singleton.mp hd]
    exact ss dx (List.mem_of_getElem? hdx)
end
end Bx
namespace Rp
open PySem PySem.Spec PyProof.Rows L2
/-- repr of a list or a tuple, where nothing is being shown -/
theorem cr_repr {X : Cx} (hg : X.A.guards = some []) (hu : X.A.units + 70 < cLine) : CallR X (.builtin "repr") (fun xs H Q => ∃ (a : Addr) (d : PyData), xs = [V.ref a] ∧ Dp X.K H (.ref a) d ∧ d.showable = true ∧ d.hasDict = false ∧ d.depth ≤ 64 ∧ d.shown.length ≤ sizeLine ∧ Q (.str d.shown) H) := by
  intro pins s σ H xs us Q I r h
  obtain ⟨a, d, rfl, hd, hs, hn, dp, sz, q⟩ := h
  obtain ⟨u, rfl, hu'⟩ := vals1 r
  obtain rfl : u = .ref a := hu'
  obtain ⟨as, r1⟩ := Dp.reads I d (.ref a) (.ref a) hd rfl
  exact repr_of_reads' r1 hs (PyData.noDict_hsm hn) hg (by omega) (fun _ _ e => e) (fun h' u tk k => ⟨.str _, H, I.turnedL (ch := []) (fun b o _ e => k b o e) (fun b hb => absurd hb (by simp)), ⟨_, rfl⟩, q⟩) sz
end Rp
namespace Sw
open PySem PySem.Spec PyProof.Rows L2 Nw
theorem say_shown : ∀ n : Fin 17, PyData.showable (.int ((n.val : Int) - 8)) = true ∧ (PyData.shown (.int ((n.val : Int) - 8))).length ≤ 3 := by decide +kernel
theorem say_at {n : Int} (h0 : -8 ≤ n) (h1 : n ≤ 8) : PyData.showable (.int n) = true ∧ (PyData.shown (.int n)).length ≤ 3 := by
  have := say_shown ⟨(n + 8).toNat, by omega⟩
  rw [show (((n + 8).toNat : Nat) : Int) - 8 = n by omega] at this
  exact this
theorem says_show : ∀ ns : List Int, (∀ n ∈ ns, -8 ≤ n ∧ n ≤ 8) → PyData.showableAll (ns.map PyData.int) = true
  | [], _ => rfl
  | n :: r, h => by
    show (PyData.showable (.int n) && PyData.showableAll (r.map PyData.int)) = true
    rw [says_show r fun m hm => h m (List.mem_cons_of_mem _ hm), (say_at (h n List.mem_cons_self).1 (h n List.mem_cons_self).2).1]
    rfl
theorem says_nodict : ∀ ns : List Int, PyData.hasDictAll (ns.map PyData.int) = false
  | [] => rfl
  | _ :: r => says_nodict r
theorem says_map : ∀ ns : List Int, PyData.shownAll (ns.map PyData.int) = ns.map fun n => PyData.shown (.int n)
  | [] => rfl
  | n :: r => congrArg (PyData.shown (.int n) :: ·) (says_map r)
theorem sum_at {B : Nat} : ∀ {l : List Nat}, (∀ x ∈ l, x ≤ B) → l.sum ≤ B * l.length
  | [], _ => Nat.zero_le _
  | x :: r, h => by
    have h1 := h x List.mem_cons_self
    have h2 := sum_at (l := r) fun y hy => h y (List.mem_cons_of_mem _ hy)
    rw [List.sum_cons, List.length_cons, Nat.mul_add]
    omega
theorem says_len {ns : List Int} (h : ∀ n ∈ ns, -8 ≤ n ∧ n ≤ 8) (l : ns.length ≤ 20) : (PyData.shown (.tuple (ns.map PyData.int))).length ≤ 200 := by
  have e := tupleText_len_le (PyData.shownAll (ns.map PyData.int))
  have s1 : ((PyData.shownAll (ns.map PyData.int)).map (·.length)).sum ≤ 3 * ((PyData.shownAll (ns.map PyData.int)).map (·.length)).length := sum_at fun x hx => by
    rw [says_map] at hx
    obtain ⟨y, hy, rfl⟩ := List.mem_map.mp hx
    obtain ⟨n, hn, rfl⟩ := List.mem_map.mp hy
    exact (say_at (h n hn).1 (h n hn).2).2
  have l2 : (PyData.shownAll (ns.map PyData.int)).length = ns.length := by rw [says_map, List.length_map]
  rw [List.length_map] at s1
  rw [l2] at s1 e
  show (tupleText (PyData.shownAll (ns.map PyData.int))).length ≤ 200
  omega
theorem says_deep (ns : List Int) : PyData.depth (.tuple (ns.map PyData.int)) ≤ 64 := by
  have := flat_depth _ (flat_ints ns)
  show PyData.depthAll (ns.map PyData.int) + 1 ≤ 64
  omega
end Sw
namespace Lk
open PySem PySem.Spec PyProof.Rows L2 GxR Nw Dr Kp Se Cl En Fo Fd Od Fx Bx
theorem cr_repB {X : Cx} : CallR X (.builtin "repr") (fun xs H Q => ∃ b : Bool, xs = [.bl b] ∧ Q (.str (if b then "True" else "False")) H) := by
  intro pins s σ H xs us Q I r h
  obtain ⟨b, rfl, q⟩ := h
  obtain ⟨u, rfl, ru⟩ := vals1 r
  obtain rfl : u = .bool b := ru
  exact PySem.P.repr_of_bool ⟨.str _, H, I.tok _, ⟨_, rfl⟩, q⟩
abbrev sLkr : Stmt := topS 30
theorem scLkr : FnScope ["claims", "says", "steps", "numbers", "seen", "number", "due"] ["claims", "says", "steps", "numbers"] (defScope sLkr) := ⟨rfl, rfl, rfl, by decide +kernel, rfl, by decide +kernel, by decide +kernel⟩
structure Zh (mg : Str → Option Value) : Prop where
  z_repr : mg "repr" = none
/-- what is shown of three lists -/
theorem three_show {B : Nat} {d1 d2 d3 : PyData} (h1 : Sm B d1) (h2 : Sm B d2) (h3 : Sm B d3) (hb : 3 * B + 9 ≤ sizeLine) : (PyData.list [d1, d2, d3]).showable = true ∧ (PyData.list [d1, d2, d3]).hasDict = false ∧ (PyData.list [d1, d2, d3]).depth ≤ 64 ∧ (PyData.list [d1, d2, d3]).shown.length ≤ sizeLine := by
  refine ⟨?_, ?_, ?_, ?_⟩
  · show (d1.showable && (d2.showable && (d3.showable && true))) = true
    rw [h1.sh, h2.sh, h3.sh]
    rfl
  · show (d1.hasDict || (d2.hasDict || (d3.hasDict || false))) = false
    rw [h1.nd, h2.nd, h3.nd]
    rfl
  · show Nat.max d1.depth (Nat.max d2.depth (Nat.max d3.depth 0)) + 1 ≤ 64
    have a1 := h1.dp
    have a2 := h2.dp
    have a3 := h3.dp
    have := Nat.max_le.mpr ⟨a1, Nat.max_le.mpr ⟨a2, Nat.max_le.mpr ⟨a3, Nat.zero_le 6⟩⟩⟩
    exact Nat.le_trans (Nat.succ_le_succ this) (by decide)
  · have e := listText_len_le [d1.shown, d2.shown, d3.shown]
    have a1 := h1.sz
    have a2 := h2.sz
    have a3 := h3.sz
    simp only [List.map_cons, List.map_nil, List.sum_cons, List.sum_nil, List.length_cons, List.length_nil] at e
    show (listText [d1.shown, d2.shown, d3.shown]).length ≤ sizeLine
    omega
theorem sm_list {ds : List PyData} (h : ∀ d ∈ ds, S6 d) (l : ds.length ≤ 60) : Sm 4000 (.list ds) := (SmAll.of h).list (n := 60) l (by decide)
section
variable {P : Program} {w : World} {K : PySem.W.Frag} {mg : Str → Option Value} {base : Heap}
/-- looked_right(claims, says, steps, numbers) -/
def spLkr (Po : Addr) : Sp := fun vs H Q _ => ∃ (v : V) (a t m : Addr) (f0 : Addr → Prop) (css : List (List Int)) (says : List Int) (us ns : List V) (ds es : List PyData), vs = [v, .ref a, .ref t, .ref m] ∧ Bk H v css ∧ H a = some (.lst (says.map V.int)) ∧ H t = some (.lst us) ∧ H m = some (.lst ns) ∧ OdAll f0 H us ds ∧ OdAll f0 H ns es ∧ (∀ cs ∈ css, Sy cs) ∧ Sy says ∧ (∀ d ∈ ds, S6 d) ∧ ds.length ≤ 60 ∧ (∀ d ∈ es, S6 d) ∧ es.length ≤ 60 ∧ TabG H Po ∧ ∀ H', Ke Nof H H' → Q (.bl true) H'
theorem ok_lkr {f fI fA fJ fS Po : Addr} {fd fdI fdA fdJ fdS : FuncData} (F : Fun K "_law_e_looked_right" "_law_e_looked_right" sLkr f fd) (T : Zh mg)
    (FI : Fun K "_law_e_is_fall" "_law_e_is_fall" sIsf fI fdI) (bI : Binds K fdI ["claims", "says", "steps", "number"] []) (gI : mg "_law_e_is_fall" = some (.ref fI)) (GI : FnOk P w K mg base CX0 3 fI fdI ["claims", "says", "steps", "number"] (spSfG Po))
    (FA : Fun K "shows_fall" "shows_fall" sSfa fA fdA) (bA : Binds K fdA ["claims", "says", "steps", "number"] []) (gA : mg "shows_fall" = some (.ref fA)) (GA : FnOk P w K mg base CX0 5 fA fdA ["claims", "says", "steps", "number"] (spSfG Po))
    (FJ : Fun K "_law_e_is_stand" "_law_e_is_stand" sIss fJ fdJ) (bJ : Binds K fdJ ["claims", "says", "steps"] []) (gJ : mg "_law_e_is_stand" = some (.ref fJ)) (GJ : FnOk P w K mg base CX0 3 fJ fdJ ["claims", "says", "steps"] (spStG Po))
    (FS : Fun K "shows_stand" "shows_stand" sSst fS fdS) (bS : Binds K fdS ["claims", "says", "steps"] []) (gS : mg "shows_stand" = some (.ref fS)) (GS : FnOk P w K mg base CX0 5 fS fdS ["claims", "says", "steps"] (spStG Po)) :
    Gx2.FnX P w K mg base CX0 6 f fd ["claims", "says", "steps", "numbers"] (spLkr Po) := by
  refine Gx2.okX F scLkr (fun vs H Q E h => ?_) (fun cdv A outer s H vs Q E gd0 hr h => ?_)
  · obtain ⟨v, a, t, m, f0, css, says, us, ns, ds, es, rfl, _⟩ := h
    rfl
  · obtain ⟨v, a, t, m, f0, css, says, us, ns, ds, es, rfl, hb, ha, ht, hm, od, on, sy, sa, s6, ld, e6, le, tg, q⟩ := h
    have gd : (A.deeper (envOfC "_law_e_looked_right" (defScope sLkr) s.heap.objs.size f cdv)).guards = some [] := gd0
    have hu : (A.deeper (envOfC "_law_e_looked_right" (defScope sLkr) s.heap.objs.size f cdv)).units + 70 < cLine := by
      have := hr.un
      omega
    have hr5 : Room 5 _ := hr
    have hr3 : Room 3 _ := hr.mono (by decide)
    have las := sa.len
    have sms : Sm 4000 (.list (says.map PyData.int)) := sm_list (fun d hd => by
      obtain ⟨x, hx, rfl⟩ := List.mem_map.mp hd
      have := sa.bd x hx
      exact s6_int (by omega) (by omega)) (by rw [List.length_map]; omega)
    obtain ⟨c1, c2, c3, c4⟩ := three_show sms (sm_list s6 ld) (sm_list e6 le) (by decide)
    have dp3 : ∀ {H' : Hp} {Z : Addr}, Ke Nof H H' → H' Z = some (.lst [.ref a, .ref t, .ref m]) → Dp K H' (.ref Z) (.list [.list (says.map PyData.int), .list ds, .list es]) := fun {H' Z} k hZ =>
      .lst (.of hZ) (.cons (.lst (.of (k.lst ha fun z => z)) (dp_ints says)) (.cons (.lst (.of (k.lst ht fun z => z)) (od.ke k.all).dp) (.cons (.lst (.of (k.lst hm fun z => z)) (on.ke k.all).dp) .nil)))
    generalize hD : PyData.list [.list (says.map PyData.int), .list ds, .list es] = D at c1 c2 c3 c4 dp3
    refine ⟨_, (PSs.nox (Evl.pss_cut (ps_set (i := 4) scLkr.nd rfl (.inl rfl) (pe_callB (Rp.cr_repr gd hu) (by rfl) T.z_repr (by decide +kernel) (pa_cons (pe_lstN (pa_cons (pv 1) (pa_cons (pv 2) (pa_cons (pv 3) pa_nil)))) pa_nil)))
      (Evl.pss_cut (ps_for PassesOwn.never rfl (pi_list (pv 3)) (pg_name (i := 5) scLkr.nd rfl (.inl rfl)) (Evl.pss_cut (ps_set (i := 6) scLkr.nd rfl (.inl rfl) (pe_callB cr_repB (by rfl) T.z_repr (by decide +kernel) (pa_cons (pe_call GI hr3 (by rfl) gI FI.kp bI .nil pass0 (pa_cons (pv 0) (pa_cons (pv 1) (pa_cons (pv 2) (pa_cons (pv 5) pa_nil))))) pa_nil)))
      (pss_one (ps_if (PW.pt (pw_or (pt_cmpR op_ne (pe_callB cr_repB (by rfl) T.z_repr (by decide +kernel) (pa_cons (pe_call GA hr5 (by rfl) gA FA.kp bA .nil pass0 (pa_cons (pv 0) (pa_cons (pv 1) (pa_cons (pv 2) (pa_cons (pv 5) pa_nil))))) pa_nil)) (pv 6) (nomark _)) (pw_or1 (pt_cmpR op_ne (pe_callB (Rp.cr_repr gd hu) (by rfl) T.z_repr (by decide +kernel) (pa_cons (pe_lstN (pa_cons (pv 1) (pa_cons (pv 2) (pa_cons (pv 3) pa_nil)))) pa_nil)) (pv 4) (nomark _))))) pss_never pss_nil))))
      (Evl.pss_cut (ps_set (i := 6) scLkr.nd rfl (.inl rfl) (pe_callB cr_repB (by rfl) T.z_repr (by decide +kernel) (pa_cons (pe_call GJ hr3 (by rfl) gJ FJ.kp bJ .nil pass0 (pa_cons (pv 0) (pa_cons (pv 1) (pa_cons (pv 2) pa_nil)))) pa_nil)))
      (pss_one (ps_ret (pe_and (pe_cmpR op_eq (pe_callB cr_repB (by rfl) T.z_repr (by decide +kernel) (pa_cons (pe_call GS hr5 (by rfl) gS FS.kp bS .nil pass0 (pa_cons (pv 0) (pa_cons (pv 1) (pa_cons (pv 2) pa_nil)))) pa_nil)) (pv 6) (nomark _)) (pe_one (pe_cmpR op_eq (pe_callB (Rp.cr_repr gd hu) (by rfl) T.z_repr (by decide +kernel) (pa_cons (pe_lstN (pa_cons (pv 1) (pa_cons (pv 2) (pa_cons (pv 3) pa_nil)))) pa_nil)) (pv 4) (nomark _)))))))))), ?_⟩
    -- seen
    refine Evl.q_cut (M := fun σ' H' => σ' = [some v, some (.ref a), some (.ref t), some (.ref m), some (.str D.shown), none, none] ∧ Same H H') ?_ ?_
    · refine ⟨_, rfl, _, rfl, _, rfl, by show 3 ≤ sizeLine; decide, fun Z H1 nZ s1 hZ _ => ?_⟩
      exact ⟨Z, D, rfl, dp3 (.same s1) hZ, c1, c2, c3, c4, rfl, s1⟩
    rintro σ' H1 ⟨rfl, s1⟩
    -- the numbers
    refine Evl.q_cut (M := fun σ' H' => ∃ y5 y6, σ' = [some v, some (.ref a), some (.ref t), some (.ref m), some (.str D.shown), y5, y6] ∧ Ke Nof H H') ?_ ?_
    · refine ⟨_, rfl, m, rfl, ⟨_, .of (s1 _ _ hm)⟩, for_list (K := K) (a := m) (xs := ns) (Pv := fun i σ H' => ∃ y5 y6, σ = [some v, some (.ref a), some (.ref t), some (.ref m), some (.str D.shown), y5, y6] ∧ Ke Nof H H') ?_ (fun i σ H' _ p => ?_) ?_ ?_⟩
      · exact ⟨none, none, rfl, .same s1⟩
      · obtain ⟨_, _, _, k2⟩ := p
        exact .of (k2.lst hm fun z => z)
      · clear s1 H1
        rintro i x σ H1 hx ⟨y5, y6, rfl, k1⟩
        obtain ⟨dn, hdn, ox⟩ := on.at hx
        -- due
        refine Evl.q_cut (M := fun σ' H' => ∃ b : Bool, σ' = [some v, some (.ref a), some (.ref t), some (.ref m), some (.str D.shown), some x, some (.str (if b then "True" else "False"))] ∧ Ke Nof H H' ∧ (b = true ↔ FallD css says ds dn)) ?_ ?_
        · exact ⟨_, rfl, _, rfl, _, rfl, _, rfl, v, x, a, t, f0, css, says, us, ds, dn, rfl, hb.ke k1, k1.lst ha fun z => z, k1.lst ht fun z => z, od.ke k1.all, ox.ke k1.all, sy, sa, k1.tabs _ tg, fun H2 b k2 hb2 => ⟨b, rfl, b, rfl, k1.trans k2, hb2⟩⟩
        clear k1
        rintro σ' H2 ⟨b, rfl, k2, hb2⟩
        refine ⟨_, rfl, _, rfl, _, rfl, _, rfl, v, x, a, t, f0, css, says, us, ds, dn, rfl, hb.ke k2, k2.lst ha fun z => z, k2.lst ht fun z => z, od.ke k2.all, ox.ke k2.all, sy, sa, k2.tabs _ tg, fun H3 b' k3 hb3 => ?_⟩
        have eb : b' = b := Bool.eq_iff_iff.mpr (hb3.trans hb2.symm)
        subst eb
        have k23 := k2.trans k3
        refine ⟨b', rfl, _, rfl, rfl, false, bl_f (by simp), ?_⟩
        refine ⟨_, rfl, _, rfl, _, rfl, by show 3 ≤ sizeLine; decide, fun Z H4 nZ s4 hZ _ => ?_⟩
        have k24 : Ke Nof H H4 := k23.trans (.same s4)
        exact ⟨Z, D, rfl, dp3 k24 hZ, c1, c2, c3, c4, _, rfl, rfl, false, bl_f (by simp), _, _, rfl, k24⟩
      · rintro σ H2 ⟨y5, y6, rfl, k2⟩
        exact ⟨y5, y6, rfl, k2⟩
    clear s1 H1
    rintro σ' H1 ⟨y5, y6, rfl, k1⟩
    -- the stand
    refine Evl.q_cut (M := fun σ' H' => ∃ b : Bool, σ' = [some v, some (.ref a), some (.ref t), some (.ref m), some (.str D.shown), y5, some (.str (if b then "True" else "False"))] ∧ Ke Nof H H' ∧ (b = true ↔ StandD css says ds)) ?_ ?_
    · exact ⟨_, rfl, _, rfl, _, rfl, v, a, t, f0, css, says, us, ds, rfl, hb.ke k1, k1.lst ha fun z => z, k1.lst ht fun z => z, od.ke k1.all, sy, sa, k1.tabs _ tg, fun H2 b k2 hb2 => ⟨b, rfl, b, rfl, k1.trans k2, hb2⟩⟩
    clear k1
    rintro σ' H2 ⟨b, rfl, k2, hb2⟩
    refine ⟨_, rfl, _, rfl, _, rfl, v, a, t, f0, css, says, us, ds, rfl, hb.ke k2, k2.lst ha fun z => z, k2.lst ht fun z => z, od.ke k2.all, sy, sa, k2.tabs _ tg, fun H3 b' k3 hb3 => ?_⟩
    have eb : b' = b := Bool.eq_iff_iff.mpr (hb3.trans hb2.symm)
    subst eb
    have k23 := k2.trans k3
    refine ⟨b', rfl, _, rfl, rfl, true, bl_t (by simp), ?_⟩
    refine ⟨_, rfl, _, rfl, _, rfl, by show 3 ≤ sizeLine; decide, fun Z H4 nZ s4 hZ _ => ?_⟩
    have k24 : Ke Nof H H4 := k23.trans (.same s4)
    refine ⟨Z, D, rfl, dp3 k24 hZ, c1, c2, c3, c4, _, rfl, rfl, ?_⟩
    rw [show decide (V.str D.shown = V.str D.shown) = true by simp]
    exact q H4 k24
end
end Lk
namespace Nw
open PySem PySem.Spec PyProof.Rows L2
theorem pe_listRg1N {X : Cx} {e : Expr} {te : L2.St → Hp → (Int → Int → Hp → Prop) → Prop} {p pos : Pos} (hc : X.calm = true) (hg : Gl X "list") (hm : X.mg "list" = none) (he : PRg X e te) (na : starEach [e] X.env = (false, eval e X.env) :: starEach [] X.env := by rfl) :
    PE X (.Call (.Name "list" p) [e] [] pos) (fun σ H Q => te σ H fun a b H1 => RgOk a b ∧ New H1 (.lst (rgV a b)) Q) := pe_listRgN hc hg hm he na
end Nw
namespace K51
open PySem PySem.Spec PyProof.Rows L2 GxR Nw Dr Kp Se Cl En Fo Fd Od Fx Bx Lk
abbrev sLaw : Stmt := topS 31
abbrev nLaw : List Str := ["script", "pen", "turn", "claims", "says", "told", "number", "odd", "numbers", "own", "lists", "steps", "say", "k"]
theorem scL : FnScope nLaw ["script"] (defScope sLaw) := ⟨rfl, rfl, rfl, by decide +kernel, rfl, by decide +kernel, by decide +kernel⟩
structure Zk (mg : Str → Option Value) : Prop where
  z_len : mg "len" = none
  z_range : mg "range" = none
  z_list : mg "list" = none
/-- a list of anything -/
def LO (G : Addr → Prop) (H : Hp) (v : V) : Prop := ∃ (p : Addr) (us : List V) (ds : List PyData), v = .ref p ∧ ¬ G p ∧ H p = some (.lst us) ∧ OdAll G H us ds ∧ (∀ d ∈ ds, S6 d) ∧ ds.length ≤ 50
theorem LO.ke {G : Addr → Prop} {H H' : Hp} {v : V} (h : LO G H v) (k : Ke G H H') : LO G H' v := by
  obtain ⟨p, us, ds, e, n, hp, od, s6, l⟩ := h
  exact ⟨p, us, ds, e, n, k.lst hp n, od.ke k, s6, l⟩
theorem LO.un {G G' : Addr → Prop} {H : Hp} {v : V} (h : LO G H v) (u : ∀ a, G' a → G a) : LO G' H v := by
  obtain ⟨p, us, ds, e, n, hp, od, s6, l⟩ := h
  exact ⟨p, us, ds, e, fun z => n (u _ z), hp, od.un u, s6, l⟩
/-- a list more that is not spoken of -/
theorem LO.new {G : Addr → Prop} {H H' : Hp} {v : V} {D : Addr} (h : LO G H v) (n : H D = none) (s : Same H H') : LO (fun a => G a ∨ a = D) H' v := by
  obtain ⟨p, us, ds, e, ng, hp, od, s6, l⟩ := h
  have o1 := od.same s
  have o2 := od.new n s
  refine ⟨p, us, ds, e, fun z => z.elim ng (ne_of_none hp n), s _ _ hp, ?_, s6, l⟩
  clear s6 l hp od
  exact both o1 o2
where
  both {G : Addr → Prop} {H' : Hp} {D : Addr} : ∀ {us : List V} {ds : List PyData}, OdAll G H' us ds → OdAll (· = D) H' us ds → OdAll (fun a => G a ∨ a = D) H' us ds
    | [], _, a, _ => by cases a; exact .nil
    | v :: us, _, a, b => by
      cases a with
      | cons a1 a2 =>
        cases b with
        | cons b1 b2 => exact .cons (bothV a1 b1) (both a2 b2)
  bothV {G : Addr → Prop} {H' : Hp} {D : Addr} : ∀ {d : PyData} {v : V}, OdV G H' v d → OdV (· = D) H' v d → OdV (fun a => G a ∨ a = D) H' v d
    | .none, _, h, _ => by cases h; exact .non
    | .bool _, _, h, _ => by cases h; exact .bl _
    | .int _, _, h, _ => by cases h; exact .int _
    | .str _, _, h, _ => by cases h; exact .str _
    | .list ds, _, h, g => by
      cases h with
      | lst h1 n h2 =>
        cases g with
        | lst g1 m g2 =>
          rw [h1] at g1
          cases g1
          exact .lst h1 (fun z => z.elim n m) (bothL h2 g2)
    | .tuple ds, _, h, g => by
      cases h with
      | tup h1 h2 =>
        cases g with
        | tup g1 g2 =>
          rw [h1] at g1
          cases g1
          exact .tup h1 (bothL h2 g2)
    | .dict _, _, h, _ => by cases h
  bothL {G : Addr → Prop} {H' : Hp} {D : Addr} : ∀ {ds : List PyData} {us : List V}, OdAll G H' us ds → OdAll (· = D) H' us ds → OdAll (fun a => G a ∨ a = D) H' us ds
    | [], _, a, _ => by cases a; exact .nil
    | _ :: _, _, a, b => by
      cases a with
      | cons a1 a2 =>
        cases b with
        | cons b1 b2 => exact .cons (bothV a1 b1) (bothL a2 b2)
theorem big_int : S6 (.int (10 ^ 30)) := ⟨⟨by decide +kernel, rfl, by decide, by decide +kernel⟩, Nat.zero_le _⟩
theorem rg_ints (a b : Int) : rgV a b = ((List.range (b - a).toNat).map fun i => a + ((i : Nat) : Int)).map V.int := by
  unfold rgV
  rw [List.map_map]
  rfl
section
variable {P : Program} {w : World} {K : PySem.W.Frag} {mg : Str → Option Value} {base : Heap}
def spLaw (Po : Addr) (K : PySem.W.Frag) : Sp := fun vs H Q _ => ∃ (a : Addr) (ns : List Int), vs = [.ref a] ∧ SqL K H a (ns.map V.int) ∧ TabG H Po ∧ ∀ H', Q (.bl true) H'
end
end K51
namespace K51
open PySem PySem.Spec PyProof.Rows L2 GxR Nw Dr Kp Se Cl En Fo Fd Od Fx Bx Lk
theorem ints_nf {H : Hp} {f c S : Addr} {B : Nat} {ns : List Int} (hF : Feed H f c B) (h : H S = some (.lst (ns.map V.int))) : S ≠ f := fun e => by
  obtain ⟨_, n, r, h1, _⟩ := hF
  rw [e, h1] at h
  have z := HO.lst.inj (Option.some.inj h)
  cases ns with
  | nil => cases z
  | cons x r => cases z
theorem Frs.nf {H : Hp} {f c p : Addr} {B : Nat} (h : Frs H p) (hF : Feed H f c B) : p ≠ f := by
  obtain ⟨ns, n, r, h1, _⟩ := hF
  exact Ne.symm (h f _ h1 fun ps z => by cases z)
theorem ke_wr {H : Hp} {p : Addr} {xs : List V} {o : HO} (hp : H p = some (.lst xs)) : Ke (· = p) H (upd H p o) := by
  refine ⟨fun b x e _ m => by rw [upd_ne m]; exact e, fun Q hQ => ?_, fun b ys e => upd_tup hp _ _ e⟩
  obtain ⟨qs, e, t⟩ := hQ
  exact ⟨qs, by rw [upd_ne fun z => by rw [z, hp] at e; cases e]; exact e, t⟩
/-- what stands in a turn -/
structure Ctx (fe Po T S0 p S : Addr) (n : Nat) (bvs us : List V) (css : List (List Int)) (says : List Int) (steps : List (Nat × Int)) (H : Hp) : Prop where
  hT : H T = some (.tup bvs)
  lv : bvs.length = css.length
  hv : ∀ (i : Nat) (x : V) (cs : List Int), bvs[i]? = some x → css[i]? = some cs → TupI H x cs
  hs : H S0 = some (.lst (says.map V.int))
  ns : S0 ≠ fe
  sy : ∀ cs ∈ css, Sy cs
  sa : Sy says
  l40 : css.length ≤ 40
  hS : H S = some (.lst us)
  nS : S ≠ fe
  sl : StL H us steps
  sm : Sml steps
  ls : steps.length ≤ 17
  n40 : n ≤ 40
  tg : TabG H Po
  way : (∃ cs, H p = some (.tup [.str "falls", .ref S, .int n]) ∧ css[n]? = some cs) ∨ H p = some (.tup [.str "stands", .ref S])
section
variable {fe Po T S0 p S : Addr} {n : Nat} {bvs us : List V} {css : List (List Int)} {says : List Int} {steps : List (Nat × Int)} {H H' : Hp}
theorem Ctx.ke (x : Ctx fe Po T S0 p S n bvs us css says steps H) (k : Ke (· = fe) H H') : Ctx fe Po T S0 p S n bvs us css says steps H' where
  hT := k.tups _ _ x.hT
  lv := x.lv
  hv := fun i y cs e1 e2 => (x.hv i y cs e1 e2).ke k
  hs := k.lst x.hs x.ns
  ns := x.ns
  sy := x.sy
  sa := x.sa
  l40 := x.l40
  hS := k.lst x.hS x.nS
  nS := x.nS
  sl := x.sl.tups k.tups
  sm := x.sm
  ls := x.ls
  n40 := x.n40
  tg := k.tabs _ x.tg
  way := x.way.imp (fun ⟨cs, h1, h2⟩ => ⟨cs, k.tups _ _ h1, h2⟩) fun h => k.tups _ _ h
theorem Ctx.bk (x : Ctx fe Po T S0 p S n bvs us css says steps H) : Bk H (.ref T) css := ⟨T, bvs, rfl, x.hT, x.lv, x.hv⟩
theorem Ctx.one (x : Ctx fe Po T S0 p S n bvs us css says steps H) {K : PySem.W.Frag} : ∃ xs, SqT K H p xs ∧ atI xs 1 = some (.ref S) := by
  rcases x.way with ⟨cs, h, _⟩ | h
  · exact ⟨_, .of h, rfl⟩
  · exact ⟨_, .of h, rfl⟩
theorem Ctx.od (x : Ctx fe Po T S0 p S n bvs us css says steps H) {G : Addr → Prop} : OdAll G H us (steps.map datS) := stl_od x.sl
theorem Ctx.s6 (x : Ctx fe Po T S0 p S n bvs us css says steps H) : ∀ d ∈ steps.map datS, S6 d := fun d hd => by
  obtain ⟨s, hs, rfl⟩ := List.mem_map.mp hd
  exact sm_dat (x.sm s hs)
end
section
variable {P : Program} {w : World} {K : PySem.W.Frag} {mg : Str → Option Value} {base : Heap}
theorem ok_law {f fO fD fM fF fW fB fR Po : Addr} {fd fdO fdD fdM fdF fdW fdB fdR : FuncData} (FL : Fun K "law" "law" sLaw f fd) (T : Zk mg)
    (FO : Fun K "_law_e_pen" "_law_e_pen" sOpn fO fdO) (bO : Binds K fdO ["script"] []) (gO : mg "_law_e_pen" = some (.ref fO)) (GO : FnOk P w K mg base CX0 1 fO fdO ["script"] (spOpn K))
    (FD : Fun K "_law_e_take" "_law_e_take" sDrw fD fdD) (bD : Binds K fdD ["pen", "many"] []) (gD : mg "_law_e_take" = some (.ref fD)) (GD : FnOk P w K mg base CX0 2 fD fdD ["pen", "many"] spDrw)
    (FM : Fun K "_law_e_many" "_law_e_many" sMny fM fdM) (bM : Binds K fdM ["pen"] []) (gM : mg "_law_e_many" = some (.ref fM)) (GM : FnOk P w K mg base CX0 5 fM fdM ["pen"] spMny)
    (FF : Fun K "forced" "forced" sFod fF fdF) (bF : Binds K fdF ["claims", "says"] []) (gF : mg "forced" = some (.ref fF)) (GF : FnOk P w K mg base CX0 5 fF fdF ["claims", "says"] (spFod Po))
    (FW : Fun K "_law_e_own_steps" "_law_e_own_steps" sOwn fW fdW) (bW : Binds K fdW ["pen", "claims", "says"] []) (gW : mg "_law_e_own_steps" = some (.ref fW)) (GW : FnOk P w K mg base CX0 3 fW fdW ["pen", "claims", "says"] spOwn)
    (FB : Fun K "_law_e_bent" "_law_e_bent" sBen fB fdB) (bB : Binds K fdB ["pen", "claims", "steps"] []) (gB : mg "_law_e_bent" = some (.ref fB)) (GB : FnOk P w K mg base CX0 3 fB fdB ["pen", "claims", "steps"] spBen)
    (FR : Fun K "_law_e_looked_right" "_law_e_looked_right" sLkr fR fdR) (bR : Binds K fdR ["claims", "says", "steps", "numbers"] []) (gR : mg "_law_e_looked_right" = some (.ref fR)) (GR : Gx2.FnX P w K mg base CX0 6 fR fdR ["claims", "says", "steps", "numbers"] (spLkr Po)) :
    Gd.FnG P w K mg base 8 f fd ["script"] (spLaw Po K) := by
  refine Gd.okG FL scL (fun vs H Q E h => ?_) (fun cdv A outer s H vs Q E gd0 hr h => ?_)
  · obtain ⟨a, ns, rfl, _⟩ := h
    rfl
  · obtain ⟨a, ns, rfl, hS, tg, q⟩ := h
    have gd : (A.deeper (envOfC "law" (defScope sLaw) s.heap.objs.size f cdv)).guards = some [] := gd0
    have hr1 : Room 1 _ := hr.mono (by decide)
    have hr2 : Room 2 _ := hr.mono (by decide)
    have hr3 : Room 3 _ := hr.mono (by decide)
    have hr5 : Room 5 _ := hr.mono (by decide)
    have hr6 : Room 6 _ := hr.mono (by decide)
    refine ⟨_, (Evl.pss_cut (ps_set (i := 1) scL.nd rfl (.inr rfl) (pe_call GO hr1 (by rfl) gO FO.kp bO .nil pass0 (pa_cons (pv 0) pa_nil)))
      (pss_cons (ps_for PassesOwn.never rfl (pi_range1 (by rfl) T.z_range (pa_cons pe_int pa_nil)) (pg_name (i := 2) scL.nd rfl (.inl rfl)) (Evl.pss_cut (ps_asg (pe_call GM hr5 (by rfl) gM FM.kp bM .nil pass0 (pa_cons (pv 1) pa_nil)) (pg_tup rfl (pgs_cons (pg_name (i := 3) scL.nd rfl (.inr rfl)) (pgs_cons (pg_name (i := 4) scL.nd rfl (.inl rfl)) pgs_nil))))
      (Evl.pss_cut (ps_set (i := 5) scL.nd rfl (.inr rfl) (pe_call GF hr5 (by rfl) gF FF.kp bF .nil pass0 (pa_cons (pv 3) (pa_cons (pv 4) pa_nil))))
      (Evl.pss_cut (ps_set (i := 6) scL.nd rfl (.inr rfl) (pe_ifExp (pt_cmpR op_eq (pe_ix ix_tup (pv 5) pe_int (fun _ _ => rfl)) pe_str (nomark _)) (pe_ix ix_tup (pv 5) pe_int (fun _ _ => rfl)) pe_int))
      (Evl.pss_cut (ps_set (i := 7) scL.nd rfl (.inl rfl) (pe_ix ix_list (pe_lstN (pa_cons (pe_un un_neg pe_int) (pa_cons (pe_callB call_len_seq (by rfl) T.z_len (by decide +kernel) (pa_cons (pv 3) pa_nil)) (pa_cons pe_bl (pa_cons pe_bl (pa_cons pe_non (pa_cons pe_str (pa_cons (pe_tupN (pa_cons pe_int pa_nil)) (pa_cons (pe_op op_pow pe_int pe_int) (pa_cons (pe_lstN (pa_cons pe_int pa_nil)) (pa_cons (pe_lstN pa_nil) pa_nil))))))))))) (pe_call GD hr2 (by rfl) gD FD.kp bD .nil pass0 (pa_cons (pv 1) (pa_cons pe_int pa_nil))) (fun _ _ => rfl)))
      (Evl.pss_cut (ps_set (i := 8) scL.nd rfl (.inl rfl) (pe_lstN (pa_cons (pv 6) (pa_cons (pe_call GD hr2 (by rfl) gD FD.kp bD .nil pass0 (pa_cons (pv 1) (pa_cons (pe_op op_add (pe_callB call_len_seq (by rfl) T.z_len (by decide +kernel) (pa_cons (pv 3) pa_nil)) pe_int) pa_nil))) (pa_cons (pv 7) pa_nil)))))
      (Evl.pss_cut (ps_set (i := 9) scL.nd rfl (.inl rfl) (pe_call GW hr3 (by rfl) gW FW.kp bW .nil pass0 (pa_cons (pv 1) (pa_cons (pv 3) (pa_cons (pv 4) pa_nil)))))
      (Evl.pss_cut (ps_set (i := 10) scL.nd rfl (.inl rfl) (pe_lstN (pa_cons (pe_ix ix_tup (pv 5) pe_int (fun _ _ => rfl)) (pa_cons (pe_lstN pa_nil) (pa_cons (pv 9) (pa_cons (pe_call GB hr3 (by rfl) gB FB.kp bB .nil pass0 (pa_cons (pv 1) (pa_cons (pv 3) (pa_cons (pv 9) pa_nil)))) pa_nil))))))
      (Evl.pss_cut (ps_if (pt_cmpR op_eq (pe_ix ix_tup (pv 5) pe_int (fun _ _ => rfl)) pe_str (nomark _)) (pss_one (ps_set (i := 10) scL.nd rfl (.inl rfl) (pe_op op_catN (pv 10) (pe_lc (own := [("say", 12)]) (g := (gName 12)) (tt := tYes) rfl scL.nd (pi_tup (pe_ix ix_tup (pv 3) (pv 6) (fun _ _ => rfl))) (blkOk_by (N := nLaw) (sc := defScope sLaw) (by decide +kernel)) (fun _ _ _ _ _ => (pg_name (i := 12) scL.nd rfl (.inl rfl))) (fun _ _ _ _ _ => pts_nil) (fun _ _ _ _ _ => (pe_op op_catN (pe_ix (ix_tupB (K := K) rfl) (pv 5) pe_int (fun _ _ => rfl)) (pe_lstN (pa_cons (pe_tupN (pa_cons (pv 6) (pa_cons (pv 12) pa_nil))) pa_nil)))))))) pss_nil)
      (Evl.pss_cut (ps_for PassesOwn.never rfl (pi_list (pe_op op_catN (pv 10) (pe_lc (own := [("k", 13)]) (g := (gName 13)) (tt := tYes) rfl scL.nd (pi_range1 (by rfl) T.z_range (pa_cons pe_int pa_nil)) (blkOk_by (N := nLaw) (sc := defScope sLaw) (by decide +kernel)) (fun _ _ _ _ _ => (pg_name (i := 13) scL.nd rfl (.inl rfl))) (fun _ _ _ _ _ => pts_nil) (fun _ _ _ _ _ => (pe_call GB hr3 (by rfl) gB FB.kp bB .nil pass0 (pa_cons (pv 1) (pa_cons (pv 3) (pa_cons (pe_ix (ix_tupB (K := K) rfl) (pv 5) pe_int (fun _ _ => rfl)) pa_nil)))))))) (pg_name (i := 11) scL.nd rfl (.inl rfl)) (pss_one (ps_if (pt_not (pt_val (Gx2.pe_callX GR gd hr6 (by rfl) gR FR.kp bR .nil pass0 (pa_cons (pv 3) (pa_cons (pv 4) (pa_cons (pv 11) (pa_cons (pv 8) pa_nil))))))) pss_never pss_nil)))
      (pss_one (ps_if (pt_not (pt_val (Gx2.pe_callX GR gd hr6 (by rfl) gR FR.kp bR .nil pass0 (pa_cons (pv 3) (pa_cons (pv 4) (pa_cons (pe_ix ix_tup (pv 5) pe_int (fun _ _ => rfl)) (pa_cons (pe_listRg1N rfl (by rfl) T.z_list (prg_1 (by rfl) T.z_range (pe_callB call_len_seq (by rfl) T.z_len (by decide +kernel) (pa_cons (pv 3) pa_nil)))) pa_nil))))))) pss_never pss_nil))))))))))))
      (pss_one (ps_ret pe_bl)))), ?_⟩
    refine Evl.q_cut (M := fun σ' H' => ∃ fe c : Addr, σ' = [some (.ref a), some (.ref fe), none, none, none, none, none, none, none, none, none, none, none, none] ∧ Feed H' fe c 0 ∧ TabG H' Po) ?_ ?_
    · exact ⟨.ref a, rfl, a, ns, rfl, hS, fun fe c H1 nf nc s1 F1 => ⟨fe, c, rfl, F1, (Ke.same (F := Nof) s1).tabs _ tg⟩⟩
    rintro σ' H1 ⟨fe, c, rfl, F1, t1⟩
    refine ⟨5, rfl, by decide, by decide, for_range (Pv := fun i σ H' => ∃ y2 y3 y4 y5 y6 y7 y8 y9 y10 y11 : Option V, σ = [some (.ref a), some (.ref fe), y2, y3, y4, y5, y6, y7, y8, y9, y10, y11, none, none] ∧ Feed H' fe c (3000 * i) ∧ TabG H' Po) ?_ ?_ ?_⟩
    · exact ⟨none, none, none, none, none, none, none, none, none, none, rfl, F1, t1⟩
    · rintro i σ H2 hi ⟨y2, y3, y4, y5, y6, y7, y8, y9, y10, y11, rfl, F2, t2⟩
      have hi : i < 5 := hi
      -- claims, says
      refine Evl.q_cut (M := fun σ' H' => ∃ (Tc S0 : Addr) (css : List (List Int)) (says : List Int), σ' = [some (.ref a), some (.ref fe), some (.int (0 + (i : Int))), some (.ref Tc), some (.ref S0), y5, y6, y7, y8, y9, y10, y11, none, none] ∧ Feed H' fe c (3000 * i + 2000) ∧ TabG H' Po ∧ Bk H' (.ref Tc) css ∧ H' S0 = some (.lst (says.map V.int)) ∧ (∀ cs ∈ css, Sy cs) ∧ Sy says ∧ css.length ≤ 40) ?_ ?_
      · refine ⟨_, rfl, fe, c, _, rfl, F2, by omega, fun p Tc S0 css says H3 F3 k3 hp hb hs sy sa l40 => ?_⟩
        exact ⟨p, _, rfl, .of hp, rfl, _, _, rfl, _, _, rfl, rfl, Tc, S0, css, says, rfl, F3, k3.tabs _ t2, hb, hs, sy, sa, l40⟩
      rintro σ' H3 ⟨Tc, S0, css, says, rfl, F3, t3, hb, hs, sy, sa, l40⟩
      have nS0 := ints_nf F3 hs
      -- told
      refine Evl.q_cut (M := fun σ' H' => ∃ (p S : Addr) (n : Nat) (bvs us : List V) (steps : List (Nat × Int)), σ' = [some (.ref a), some (.ref fe), some (.int (0 + (i : Int))), some (.ref Tc), some (.ref S0), some (.ref p), y6, y7, y8, y9, y10, y11, none, none] ∧ Feed H' fe c (3000 * i + 2000) ∧ Ctx fe Po Tc S0 p S n bvs us css says steps H') ?_ ?_
      · have smk : ∀ {steps : List (Nat × Int)}, StepsOk css says steps → Sml steps := fun {steps} st s hs => by
          obtain ⟨j, hj⟩ := List.getElem?_of_mem hs
          obtain ⟨cs, hc, fo⟩ := st j s hj
          have := (List.getElem?_eq_some_iff.mp hc).1
          have := (sy cs (List.mem_of_getElem? hc)).bd s.2 fo.mem
          exact ⟨by omega, this⟩
        refine ⟨_, rfl, _, rfl, .ref Tc, S0, css, says, rfl, hb, hs, sy, sa, t3, fun H4 p S us steps n cs k4 fr hp hS4 sl st ls hc hl => ?_, fun H4 p S us steps k4 fr hp hS4 sl st ls sd => ?_⟩
        · obtain ⟨b', bvs, e, hT, lv, hv⟩ := hb.ke k4
          cases e
          have := (List.getElem?_eq_some_iff.mp hc).1
          exact ⟨p, S, n, bvs, us, steps, rfl, k4.feed F3, hT, lv, hv, k4.lst hs fun z => z, nS0, sy, sa, l40, hS4, Frs.nf fr F3, sl, smk st, ls, by omega, k4.tabs _ t3, .inl ⟨cs, hp, hc⟩⟩
        · obtain ⟨b', bvs, e, hT, lv, hv⟩ := hb.ke k4
          cases e
          exact ⟨p, S, 0, bvs, us, steps, rfl, k4.feed F3, hT, lv, hv, k4.lst hs fun z => z, nS0, sy, sa, l40, hS4, Frs.nf fr F3, sl, smk st, ls, Nat.zero_le _, k4.tabs _ t3, .inr hp⟩
      clear hb hs sy sa l40 nS0 t3 F3 H3
      rintro σ' H3 ⟨p, S, n, bvs, us, steps, rfl, F3, x3⟩
      -- number
      refine Evl.q_cut (M := fun σ' H' => ∃ m : Nat, σ' = [some (.ref a), some (.ref fe), some (.int (0 + (i : Int))), some (.ref Tc), some (.ref S0), some (.ref p), some (.int (m : Nat)), y7, y8, y9, y10, y11, none, none] ∧ H' = H3 ∧ m ≤ 40 ∧ ((∃ cs, H3 p = some (.tup [.str "falls", .ref S, .int n]) ∧ css[n]? = some cs ∧ m = n) ∨ H3 p = some (.tup [.str "stands", .ref S]))) ?_ ?_
      · rcases x3.way with ⟨cs, hp, hc⟩ | hp
        · skip
          refine ⟨_, rfl, p, _, 0, .str "falls", rfl, rfl, .of hp, rfl, rfl, true, rfl, ?_⟩
          exact ⟨_, rfl, p, _, 2, .int n, rfl, rfl, .of hp, rfl, n, rfl, rfl, x3.n40, .inl ⟨cs, hp, hc, rfl⟩⟩
        · refine ⟨_, rfl, p, _, 0, .str "stands", rfl, rfl, .of hp, rfl, rfl, false, rfl, ?_⟩
          exact ⟨0, rfl, rfl, Nat.zero_le _, .inr hp⟩
      rintro σ' H3' ⟨m, rfl, rfl, m40, mn⟩
      -- odd
      refine Evl.q_cut (M := fun σ' H' => ∃ (ov : V) (od : PyData), σ' = [some (.ref a), some (.ref fe), some (.int (0 + (i : Int))), some (.ref Tc), some (.ref S0), some (.ref p), some (.int (m : Nat)), some ov, y8, y9, y10, y11, none, none] ∧ Feed H' fe c (3000 * i + 2001) ∧ Ke (· = fe) H3' H' ∧ OdV (· = fe) H' ov od ∧ S6 od) ?_ ?_
      · refine ⟨_, rfl, _, rfl, Tc, _, rfl, .inr (.of x3.hT), by show 1 ≤ sizeLine; decide, fun q6 G6 _ t6 h6 _ => ?_⟩
        refine ⟨_, _, rfl, rfl, ⟨by decide, by decide, by decide⟩, by show 1 ≤ sizeLine; decide, fun q8 G8 n8 t8 h8 _ => ?_⟩
        refine ⟨Nat.zero_le _, fun q9 G9 n9 t9 h9 _ => ?_⟩
        refine ⟨by show 10 ≤ sizeLine; decide, fun Z G nZ tZ hZ _ => ?_⟩
        have u9 := tZ
        have u8 := t9.trans u9
        have u6 := t8.trans u8
        have ua := t6.trans u6
        have nq8 : q8 ≠ fe := (F3.same t6).nf n8
        have nq9 : q9 ≠ fe := (F3.same (t6.trans t8)).nf n9
        have nZf : Z ≠ fe := (F3.same ((t6.trans t8).trans t9)).nf nZ
        have oz : OdAll (· = fe) G [.int (-1), .int ((bvs.length : Nat) : Int), .bl true, .bl false, .non, .str "0", .ref q6, .int (10 ^ 30), .ref q8, .ref q9] [.int (-1), .int ((bvs.length : Nat) : Int), .bool true, .bool false, .none, .str "0", .tuple [.int 0], .int (10 ^ 30), .list [.int 0], .list []] :=
          .cons (.int _) (.cons (.int _) (.cons (.bl _) (.cons (.bl _) (.cons .non (.cons (.str _) (.cons (.tup (u6 _ _ h6) (.cons (.int _) .nil)) (.cons (.int _) (.cons (.lst (u8 _ _ h8) nq8 (.cons (.int _) .nil)) (.cons (.lst (u9 _ _ h9) nq9 .nil) .nil)))))))))
        refine ⟨_, rfl, fe, c, 10, _, rfl, by decide, by decide, F3.same ua, by omega, fun e H4 e0 e1 F4 k4 => ?_⟩
        have le : e.toNat < 10 := by omega
        have hz := List.getElem?_eq_getElem (show e.toNat < ([V.int (-1), .int ((bvs.length : Nat) : Int), .bl true, .bl false, .non, .str "0", .ref q6, .int (10 ^ 30), .ref q8, .ref q9] : List V).length from le)
        obtain ⟨od, hod, ov⟩ := (oz.ke k4).at hz
        refine ⟨Z, _, e, _, rfl, rfl, .of (k4.lst hZ nZf), at_of (j := e.toNat) (by omega) hz, _, od, rfl, F4, (Ke.same ua).trans k4, ov, ?_⟩
        have hm := List.mem_of_getElem? hod
        have l40 := x3.l40
        have lv := x3.lv
        simp only [List.mem_cons, List.not_mem_nil, or_false] at hm
        rcases hm with rfl | rfl | rfl | rfl | rfl | rfl | rfl | rfl | rfl | rfl
        · exact s6_int (by omega) (by omega)
        · exact s6_int (by omega) (by omega)
        · exact ⟨(sm_bool _).mono (by decide), Nat.zero_le _⟩
        · exact ⟨(sm_bool _).mono (by decide), Nat.zero_le _⟩
        · exact ⟨sm_non.mono (by decide), Nat.zero_le _⟩
        · exact ⟨⟨rfl, rfl, by decide, by decide +kernel⟩, Nat.zero_le _⟩
        · exact ⟨⟨rfl, rfl, by decide, by decide +kernel⟩, by decide⟩
        · exact big_int
        · exact ⟨⟨rfl, rfl, by decide, by decide +kernel⟩, by decide⟩
        · exact ⟨⟨rfl, rfl, by decide, by decide +kernel⟩, by decide⟩
      rintro σ' H4 ⟨ov, od, rfl, F4, k4, ho, so⟩
      have x4 := x3.ke k4
      -- numbers
      refine Evl.q_cut (M := fun σ' H' => ∃ (N : Addr) (m2 : Nat), σ' = [some (.ref a), some (.ref fe), some (.int (0 + (i : Int))), some (.ref Tc), some (.ref S0), some (.ref p), some (.int (m : Nat)), some ov, some (.ref N), y9, y10, y11, none, none] ∧ Feed H' fe c (3000 * i + 2002) ∧ Ke (· = fe) H4 H' ∧ N ≠ fe ∧ H' N = some (.lst [.int (m : Nat), .int (m2 : Nat), ov]) ∧ m2 ≤ 41) ?_ ?_
      · have l40 := x4.l40
        have lv := x4.lv
        refine ⟨_, rfl, _, rfl, _, rfl, Tc, _, rfl, .inr (.of x4.hT), _, _, rfl, rfl, fe, c, _, _, rfl, by omega, by omega, F4, by omega, fun e H5 e0 e1 F5 k5 => ?_⟩
        refine ⟨_, rfl, by show 3 ≤ sizeLine; decide, fun N H6 nN s6 hN _ => ⟨N, e.toNat, rfl, F5.same s6, k5.trans (.same s6), F5.nf nN, ?_, by omega⟩⟩
        rw [Int.toNat_of_nonneg e0]
        exact hN
      rintro σ' H5 ⟨N, m2, rfl, F5, k5, nNf, hN, m41⟩
      have x5 := x4.ke k5
      have kt5 : ∀ b xs, H3' b = some (.tup xs) → H5 b = some (.tup xs) := fun b xs h => k5.tups _ _ (k4.tups _ _ h)
      have on5 : OdAll (· = fe) H5 [.int (m : Nat), .int (m2 : Nat), ov] [.int (m : Nat), .int (m2 : Nat), od] := .cons (.int _) (.cons (.int _) (.cons (ho.ke k5) .nil))
      have sn : ∀ d ∈ [PyData.int (m : Nat), .int (m2 : Nat), od], S6 d := fun d hd => by
        simp only [List.mem_cons, List.not_mem_nil, or_false] at hd
        rcases hd with rfl | rfl | rfl
        · exact s6_int (by omega) (by omega)
        · exact s6_int (by omega) (by omega)
        · exact so
      clear ho k5 k4 F4 x4 x3 F3
      -- own
      refine Evl.q_cut (M := fun σ' H' => ∃ (W : Addr) (ows : List V) (ost : List (Nat × Int)), σ' = [some (.ref a), some (.ref fe), some (.int (0 + (i : Int))), some (.ref Tc), some (.ref S0), some (.ref p), some (.int (m : Nat)), some ov, some (.ref N), some (.ref W), y10, y11, none, none] ∧ Feed H' fe c (3000 * i + 2022) ∧ Ke (· = fe) H5 H' ∧ W ≠ fe ∧ H' W = some (.lst ows) ∧ StL H' ows ost ∧ Sml ost ∧ ost.length ≤ 9) ?_ ?_
      · have las := x5.sa.len
        exact ⟨_, rfl, _, rfl, _, rfl, fe, c, S0, .ref Tc, _, css, says, rfl, F5, by omega, x5.bk, x5.hs, x5.sy, x5.l40, by omega, fun W ows ost H6 F6 k6 fr hW sl6 sm6 l6 => ⟨W, ows, ost, rfl, F6, k6, Frs.nf fr F5, hW, sl6, sm6, l6⟩⟩
      rintro σ' H6 ⟨W, ows, ost, rfl, F6, k6, nW, hW, slW, smW, lW⟩
      have x6 := x5.ke k6
      -- lists
      refine Evl.q_cut (M := fun σ' H' => ∃ (Ls : Addr) (lvs : List V), σ' = [some (.ref a), some (.ref fe), some (.int (0 + (i : Int))), some (.ref Tc), some (.ref S0), some (.ref p), some (.int (m : Nat)), some ov, some (.ref N), some (.ref W), some (.ref Ls), y11, none, none] ∧ Feed H' fe c (3000 * i + 2032) ∧ Ke (· = fe) H6 H' ∧ H' Ls = some (.lst lvs) ∧ lvs.length = 4 ∧ ∀ v ∈ lvs, LO (· = fe) H' v) ?_ ?_
      · obtain ⟨pxs, hpx, ap⟩ := x6.one (K := K)
        refine ⟨_, rfl, p, pxs, 1, .ref S, rfl, rfl, hpx, ap, Nat.zero_le _, fun E0 H7 nE s7 hE _ => ?_⟩
        have l40 := x6.l40
        have lv := x6.lv
        have F7 := F6.same s7
        refine ⟨_, rfl, _, rfl, _, rfl, _, rfl, fe, c, Tc, W, _, bvs, ows, ost, rfl, F7, by omega, s7 _ _ x6.hT, by omega, s7 _ _ hW, nW, slW.tups fun b xs h => s7 _ _ h, smW, by omega, fun bp bus bds H8 F8 k8 fr8 hbp ob sb lb => ?_⟩
        refine ⟨by show 4 ≤ sizeLine; decide, fun Ls H9 nLs s9 hLs _ => ?_⟩
        have k69 : Ke (· = fe) H6 H9 := (Ke.same s7).trans (k8.trans (.same s9))
        have x9 := x6.ke k69
        have nE0 : E0 ≠ fe := F6.nf nE
        have fk : Kn H7 fe := by
          obtain ⟨_, _, _, h1, _⟩ := F7
          exact ⟨_, h1⟩
        refine ⟨Ls, _, rfl, (F8.same s9).mono (by omega), k69, hLs, rfl, fun v hv => ?_⟩
        simp only [List.mem_cons, List.not_mem_nil, or_false] at hv
        rcases hv with rfl | rfl | rfl | rfl
        · exact ⟨S, us, _, rfl, x9.nS, x9.hS, x9.od, x9.s6, by rw [List.length_map]; have := x9.ls; omega⟩
        · exact ⟨E0, [], [], rfl, nE0, s9 _ _ (k8.lst hE nE0), .nil, fun d hd => (nomatch hd), by decide⟩
        · exact ⟨W, ows, ost.map datS, rfl, nW, k69.lst hW nW, stl_od (slW.tups k69.tups), fun d hd => by
            obtain ⟨s, hs, rfl⟩ := List.mem_map.mp hd
            exact sm_dat (smW s hs), by rw [List.length_map]; omega⟩
        · exact ⟨bp, bus, bds, rfl, Frs.nf fr8 F7, s9 _ _ hbp, (ob.un fun a z => by rw [z]; exact fk).same s9, sb, lb⟩
      rintro σ' H7 ⟨Ls, lvs, rfl, F7, k7, hLs, llv, lo⟩
      have x7 := x6.ke k7
      have kt : ∀ b xs, H3' b = some (.tup xs) → H7 b = some (.tup xs) := fun b xs h => k7.tups _ _ (k6.tups _ _ (kt5 _ _ h))
      have on7 := (on5.ke k6).ke k7
      have hN7 := k7.lst (k6.lst hN nNf) nNf
      clear slW smW lW hW nW
      -- more lists
      refine Evl.q_cut (M := fun σ' H' => ∃ (Ls : Addr) (lvs : List V), σ' = [some (.ref a), some (.ref fe), some (.int (0 + (i : Int))), some (.ref Tc), some (.ref S0), some (.ref p), some (.int (m : Nat)), some ov, some (.ref N), some (.ref W), some (.ref Ls), y11, none, none] ∧ Same H7 H' ∧ H' Ls = some (.lst lvs) ∧ lvs.length ≤ 30 ∧ ∀ v ∈ lvs, LO (· = fe) H' v) ?_ ?_
      · have mn7 : (∃ cs, H7 p = some (.tup [.str "falls", .ref S, .int n]) ∧ css[n]? = some cs ∧ m = n) ∨ H7 p = some (.tup [.str "stands", .ref S]) := mn.imp (fun ⟨cs, h1, h2, h3⟩ => ⟨cs, kt _ _ h1, h2, h3⟩) fun h => kt _ _ h
        rcases mn7 with ⟨cs, hp, hc, mne⟩ | hp
        · refine ⟨_, rfl, p, _, 0, .str "falls", rfl, rfl, .of hp, rfl, rfl, true, rfl, ?_⟩
          have hcv := List.getElem?_eq_getElem (show n < bvs.length by rw [x7.lv]; exact (List.getElem?_eq_some_iff.mp hc).1)
          obtain ⟨ca, eca, hca⟩ := x7.hv n _ cs hcv hc
          rw [eca] at hcv
          have lcs := (x7.sy cs (List.mem_of_getElem? hc)).len
          subst mne
          refine ⟨_, rfl, _, rfl, _, rfl, Tc, bvs, _, .ref ca, rfl, rfl, .of x7.hT, at_of (j := m) rfl hcv, ca, rfl, ⟨_, .of hca⟩, fun D nD => ?_⟩
          refine lc_tup (xs := cs.map V.int) (Pv := fun j H' => Same H7 H' ∧ ∃ lv2 : List V, H' D = some (.lst lv2) ∧ lv2.length = j ∧ ∀ v ∈ lv2, LO (fun b => b = fe ∨ b = D) H' v) ⟨same_new nD, [], upd_same, rfl, fun v hv => (nomatch hv)⟩ (fun j H' _ p => .of (p.1 _ _ hca)) ?_ ?_
          · rintro j y H8 hy ⟨s8, lv2, hD, l2, lo2⟩
            obtain ⟨z, hz, rfl⟩ := at_int hy
            have lj := (List.getElem?_eq_some_iff.mp hz).1
            have bz := (x7.sy cs (List.mem_of_getElem? hc)).bd z (List.mem_of_getElem? hz)
            refine ⟨rfl, _, rfl, p, _, 1, .ref S, rfl, rfl, .of (s8 _ _ hp), rfl, _, rfl, _, rfl, by show 2 ≤ sizeLine; decide, fun u H9 nu s9 hu _ => ⟨by show 1 ≤ sizeLine; decide, fun M H10 nM s10 hM _ => ?_⟩⟩
            have ls := x7.ls
            have lsl := x7.sl.1
            refine ⟨S, M, _, _, rfl, rfl, s10 _ _ (s9 _ _ (s8 _ _ x7.hS)), hM, small1000' (by show us.length + 1 ≤ _; omega), fun r H11 nr s11 hr _ => ?_⟩
            have s811 := (s9.trans s10).trans s11
            have hD11 := s811 _ _ hD
            have s711 := s8.trans s811
            have nrf : r ≠ fe := (F7.same ((s8.trans s9).trans s10)).nf nr
            have nrD : r ≠ D := Ne.symm (ne_of_none ((s9.trans s10) _ _ hD) nr)
            refine ⟨_, hD11, small1000 (by omega), fun b o z => by rw [upd_ne (ne_of_none z nD)]; exact s711 _ _ z, lv2 ++ [.ref r], upd_same, by rw [List.length_append, l2]; rfl, fun v hv => ?_⟩
            have kD : Ke (fun b => b = fe ∨ b = D) H11 (upd H11 D (.lst (lv2 ++ [.ref r]))) := (ke_wr hD11).mono fun b z => .inr z
            rcases List.mem_append.mp hv with w | w
            · exact ((lo2 v w).ke (.same s811)).ke kD
            · rw [List.mem_singleton.mp w]
              refine LO.ke ⟨r, _, steps.map datS ++ [.tuple [.int (m : Nat), .int z]], rfl, fun w => w.elim nrf nrD, hr, ?_, fun d hd => ?_, by rw [List.length_append, List.length_map]; show steps.length + 1 ≤ _; omega⟩ kD
              · exact (x7.od.same s711).cat (.one (.tup (s11 _ _ (s10 _ _ hu)) (.cons (.int _) (.cons (.int _) .nil))))
              · rcases List.mem_append.mp hd with w | w
                · exact x7.s6 d w
                · rw [List.mem_singleton.mp w]
                  exact t_ints (by omega) (by omega) (by omega) (by omega)
          · rintro H8 ⟨s8, lv2, hD, l2, lo2⟩
            have l2' : lv2.length = cs.length := by rw [l2, List.length_map]
            refine ⟨Ls, D, _, _, rfl, rfl, s8 _ _ hLs, hD, small1000' (by omega), fun Z H9 nZ s9 hZ _ => ?_⟩
            refine ⟨Z, _, rfl, s8.trans s9, hZ, by rw [List.length_append]; omega, fun v hv => ?_⟩
            rcases List.mem_append.mp hv with w | w
            · exact (lo v w).ke (.same (s8.trans s9))
            · exact ((lo2 v w).un fun b z => .inl z).ke (.same s9)
        · refine ⟨_, rfl, p, _, 0, .str "stands", rfl, rfl, .of hp, rfl, rfl, false, rfl, ?_⟩
          exact ⟨Ls, lvs, rfl, .refl _, hLs, by omega, lo⟩
      clear lo llv hLs Ls lvs
      rintro σ' H8 ⟨Ls, lvs, rfl, s8, hLs, llv, lo⟩
      have x8 := x7.ke (.same s8)
      have F8 := F7.same s8
      have on8 := on7.same s8
      have hN8 := s8 _ _ hN7
      have nLsf : Ls ≠ fe := fun z => by
        obtain ⟨_, nn, rr, h1, _⟩ := F8
        rw [z, h1] at hLs
        have e2 := HO.lst.inj (Option.some.inj hLs)
        obtain ⟨q0, _, _, e3, _⟩ := lo (.int nn) (by rw [← e2]; simp)
        cases e3
      -- all lists are looked at
      refine Evl.q_cut (M := fun σ' H' => ∃ y11, σ' = [some (.ref a), some (.ref fe), some (.int (0 + (i : Int))), some (.ref Tc), some (.ref S0), some (.ref p), some (.int (m : Nat)), some ov, some (.ref N), some (.ref W), some (.ref Ls), y11, none, none] ∧ Feed H' fe c (3000 * i + 2100) ∧ Ctx fe Po Tc S0 p S n bvs us css says steps H') ?_ ?_
      · refine ⟨_, rfl, 4, rfl, by decide, by decide, fun D nD => ?_⟩
        have nDf : D ≠ fe := F8.nf nD
        have nDc : D ≠ c := F8.nc nD
        have frD : Frs H8 D := .of nD
        refine lc_range (n := 4) (Pv := fun j H' => ∃ lv2 : List V, Feed H' fe c (3000 * i + 2032 + 10 * j) ∧ Ke (· = fe) H8 H' ∧ H' D = some (.lst lv2) ∧ lv2.length = j ∧ ∀ v ∈ lv2, LO (fun b => b = fe ∨ b = D) H' v) ?_ ?_ ?_
        · exact ⟨[], F8.upd nDf nDc, .same (same_new nD), upd_same, rfl, fun v hv => (nomatch hv)⟩
        · rintro j H9 hj ⟨lv2, F9, k9, hD, l2, lo2⟩
          have x9 := x8.ke k9
          have l40 := x9.l40
          have lv := x9.lv
          obtain ⟨pxs, hpx, ap⟩ := x9.one (K := K)
          refine ⟨rfl, _, rfl, _, rfl, _, rfl, p, pxs, 1, .ref S, rfl, rfl, hpx, ap, fe, c, Tc, S, _, bvs, us, steps, rfl, F9, by omega, x9.hT, by omega, x9.hS, x9.nS, x9.sl, x9.sm, by have := x9.ls; omega, fun bp bus bds H10 F10 k10 fr10 hbp ob sb lb => ?_⟩
          have hD10 := k10.lst hD nDf
          have nbD : bp ≠ D := Ne.symm (fr10 D _ hD fun ps z => by cases z)
          have fk : ∀ b, b = fe ∨ b = D → Kn H9 b := fun b z => by
            rcases z with z | z
            · obtain ⟨_, _, _, h1, _⟩ := F9
              rw [z]
              exact ⟨_, h1⟩
            · rw [z]
              exact ⟨_, hD⟩
          have kD : Ke (fun b => b = fe ∨ b = D) H10 (upd H10 D (.lst (lv2 ++ [.ref bp]))) := (ke_wr hD10).mono fun b z => .inr z
          refine ⟨_, hD10, small1000 (by omega), lv2 ++ [.ref bp], (F10.upd nDf nDc).mono (by omega), (k9.trans k10).write frD hD10, upd_same, by rw [List.length_append, l2]; rfl, fun v hv => ?_⟩
          rcases List.mem_append.mp hv with w | w
          · exact ((lo2 v w).ke (k10.mono fun b z => .inl z)).ke kD
          · rw [List.mem_singleton.mp w]
            exact LO.ke ⟨bp, bus, bds, rfl, fun w => w.elim (Frs.nf fr10 F9) nbD, hbp, ob.un fk, sb, lb⟩ kD
        · rintro H9 ⟨lv2, F9, k9, hD, l2, lo2⟩
          have x9 := x8.ke k9
          refine ⟨Ls, D, _, _, rfl, rfl, k9.lst hLs nLsf, hD, small1000' (by omega), fun Z H10 nZ s10 hZ _ => ?_⟩
          have x10 := x9.ke (.same s10)
          have hall : ∀ v ∈ lvs ++ lv2, LO (· = fe) H10 v := fun v hv => by
            rcases List.mem_append.mp hv with w | w
            · exact ((lo v w).ke k9).ke (.same s10)
            · exact ((lo2 v w).un fun b z => .inl z).ke (.same s10)
          have on10 := (on8.ke k9).same s10
          have hN10 := s10 _ _ (k9.lst hN8 nNf)
          refine ⟨Z, rfl, ⟨_, .of hZ⟩, for_list (K := K) (a := Z) (xs := lvs ++ lv2) (Pv := fun j σ H' => ∃ y11, σ = [some (.ref a), some (.ref fe), some (.int (0 + (i : Int))), some (.ref Tc), some (.ref S0), some (.ref p), some (.int (m : Nat)), some ov, some (.ref N), some (.ref W), some (.ref Ls), y11, none, none] ∧ Ke Nof H10 H') ?_ (fun j σ H' _ p => ?_) ?_ ?_⟩
          · exact ⟨y11, rfl, .refl _ _⟩
          · obtain ⟨_, _, kk⟩ := p
            exact .of (kk.lst hZ fun z => z)
          · clear y11
            rintro j v σ H11 hv ⟨y11, rfl, k11⟩
            obtain ⟨q1, qus, qds, rfl, _, hq, oq, sq, lq⟩ := (hall v (List.mem_of_getElem? hv)).ke (k11.all : Ke (· = fe) _ _)
            have x11 := x10.ke k11.all
            refine ⟨_, rfl, _, rfl, _, rfl, _, rfl, .ref Tc, S0, q1, N, (· = fe), css, says, qus, _, qds, _, rfl, x11.bk, x11.hs, hq, k11.lst hN10 fun z => z, oq, on10.ke k11.all, x11.sy, x11.sa, sq, by omega, sn, by show 3 ≤ 60; decide, x11.tg, fun H12 k12 => ⟨true, rfl, _, rfl, k11.trans k12⟩⟩
          · rintro σ H11 ⟨y11, rfl, k11⟩
            exact ⟨y11, rfl, (k11.feed (F9.same s10)).mono (by omega), x10.ke k11.all⟩
      clear y11 on8 hN8 lo hLs F8 x8
      rintro σ' H9 ⟨y11, rfl, F9, x9⟩
      obtain ⟨pxs, hpx, ap⟩ := x9.one (K := K)
      have l40 := x9.l40
      have lv := x9.lv
      refine ⟨_, rfl, _, rfl, _, rfl, p, pxs, 1, .ref S, rfl, rfl, hpx, ap, _, rfl, Tc, _, rfl, .inr (.of x9.hT), _, rfl, .of_le (by omega) (by omega) (by omega) (by omega), fun R H10 nR s10 hR _ => ?_⟩
      rw [rg_ints] at hR
      have x10 := x9.ke (.same s10)
      refine ⟨.ref Tc, S0, S, R, Nof, css, says, us, _, _, _, rfl, x10.bk, x10.hs, x10.hS, hR, x10.od, od_ints _, x10.sy, x10.sa, x10.s6, by rw [List.length_map]; have := x10.ls; omega, fun d hd => ?_, by rw [List.length_map, List.length_map, List.length_range]; omega, x10.tg, fun H11 k11 => ⟨true, rfl, ?_⟩⟩
      · obtain ⟨y, hy, rfl⟩ := List.mem_map.mp hd
        obtain ⟨z, hz, rfl⟩ := List.mem_map.mp hy
        have := List.mem_range.mp hz
        exact s6_int (by omega) (by omega)
      exact ⟨_, _, _, _, _, _, _, _, _, _, rfl, (k11.feed (F9.same s10)).mono (by omega), k11.tabs _ x10.tg⟩
    · rintro σ H2 ⟨y2, y3, y4, y5, y6, y7, y8, y9, y10, y11, rfl, F2, t2⟩
      exact q H2
end
end K51
namespace Eg
open PySem PySem.Spec PyProof.Rows L2 GxR Nw Dr Kp
/-! ### the end of a law that shows lists: defs whose code objects have tables -/
/-- what stands where a def's code object has its table -/
abbrev Own (K : PySem.W.Frag) (h : Heap) (mg : Str → Option Value) (ys : List Str) : Prop := ∀ y ∈ ys, ∀ f, mg y = some (.ref f) → LamX.OwnTab K f h
/-- what is to be known of a law at the heap h -/
def LawG (l : PySem.W.OpenLaw) (w : World) (K : PySem.W.Frag) (k m : Nat) (x : Str) (mg : Str → Option Value) (g : Addr) (h : Heap) : Prop :=
  ∃ (fd : FuncData) (cs : List (Addr × Addr)) (sp : Sp), (∀ p ∈ cs, h.get? p.2 = some (PySem.W.tabObj #[])) ∧ (∀ p ∈ cs, K.lookup p.2 = none) ∧ (∀ p ∈ cs, PySem.W.CodeHd h p.1 p.2) ∧ (∀ (s : Shared) (u : Value), BindsTo s fd ⟨[u], []⟩ [(x, u)]) ∧
    (∀ (H : Hp) (a : Addr) (ns : List Int), ns.length ≤ m → (∀ p ∈ cs, H p.2 = some (.tbl #[])) → SqL K H a (ns.map V.int) → sp [.ref a] H (fun v _ => v = .bl true) fun _ _ _ => False) ∧
    ∀ base : Heap, K.In base → base.Ns mainGlobals mg → (∀ p ∈ cs, LamX.TabB base mg p.1 p.2) → Gd.FnG l.prog w K mg base k g fd [x] sp
theorem walk_own {l : PySem.W.OpenLaw} {m k : Nat} {pr : Program} {ls : List Str} {XP : (Str → Option Value) → Heap → Prop} {YP : World → Heap → Prop} {d : DefRec} {K : Params → PySem.W.Frag} {x : Str} (ys : List Str)
    (e1 : l.most = some m) (e2 : m ≤ sizeLine) (e3 : d.params.defaults = []) (room : Room k callerA) (named : ∀ y ∈ ys, ((recsOf pr).any fun e => e.name == y) = true) (inK : ∀ (w : World) (h : Heap), YP w h → (K w.params).In h)
    (go : ∀ (w : World) (mg : Str → Option Value) (g : Addr) (h : Heap), YP w h → (K w.params).In h → h.Ns mainGlobals mg → mg d.name = some (.ref g) → Own (K w.params) h mg ys → LawG l w (K w.params) k m x mg g h) :
    PySem.W.WalkO pr ls XP YP l.row.toRowW d [] (fun f vs => PySem.call f vs) := by
  refine Att.attach_callB e1 e3 fun w s0 s1 mg mb fa o pm cd doc a us ns G Y ho hd hcd hmg hobj hints hlen hbits hg => ?_
  have inH := inK w _ Y
  have tabs : Own (K w.params) s1.heap mg ys := fun y hy f hf c P ob fd e dd vs sl q1 q2 q3 q4 q5 => by
    obtain ⟨r, hr1, hr2⟩ := List.any_eq_true.mp (named y hy)
    obtain ⟨f', ob', fd', c', P', t1, t2, t3, t4, t5, ⟨⟨oc, vc, u1, _, u3, u4⟩, u5⟩⟩ := G.T.tab r hr1
    rw [show r.name = y from beq_iff_eq.mp hr2, hf] at t1
    cases t1
    rw [inH _ _ q1] at t2
    cases t2
    rw [q2] at t3
    cases t3
    rw [q3] at t4
    cases t4
    rw [inH _ _ q4] at u1
    cases u1
    cases u3
    rw [q5] at u4
    cases u4
    exact u5
  obtain ⟨fd, cs, sp, h1, h2, h3, h4, h5, h6⟩ := go w mg fa _ Y inH G.T.g hmg tabs
  exact Gd.law_at inH G.T.g G.T.b G.T.builtins G.T.nolimit hg h1 h2 h3 G.T.bmain hobj hints (Nat.le_trans hlen e2) room h6 h4 fun H z1 z2 => h5 H a ns hlen z1 z2
end Eg
namespace K51
open PySem PySem.Spec PyProof.Rows L2 GxR Nw Dr Kp Se Cl En Fo Fd Od Fx Bx Lk Eg
theorem all_mk {l : PySem.W.OpenLaw} {w : World} {K : PySem.W.Frag} {h : Heap} {mg : Str → Option Value} {top : Addr} (X : K.In h) (G : h.Ns mainGlobals mg) (htop : mg "law" = some (.ref top)) (ow : Own K h mg ["falls"]) {fM fD fO fC fB fW fl fg fi fs fm fo fb fr fY fA fS fF fw fn ft fh fx fy fL gH cH PH : Addr}
    {od_fM an_fM : Option Addr} {sl_fM : Array (Option Value)} {oc_fM kV_fM dc_fM pm_fM ct_fM : Value} {cd_fM : Value} {od_fD an_fD : Option Addr} {sl_fD : Array (Option Value)} {oc_fD kV_fD dc_fD pm_fD ct_fD : Value} {cd_fD : Value} {od_fO an_fO : Option Addr} {sl_fO : Array (Option Value)} {oc_fO kV_fO dc_fO pm_fO ct_fO : Value} {cd_fO : Value} {od_fC an_fC : Option Addr} {sl_fC : Array (Option Value)} {oc_fC kV_fC dc_fC pm_fC ct_fC : Value} {cd_fC : Value} {od_fB an_fB : Option Addr} {sl_fB : Array (Option Value)} {oc_fB kV_fB dc_fB pm_fB ct_fB : Value} {cd_fB : Value} {od_fW an_fW : Option Addr} {sl_fW : Array (Option Value)} {oc_fW kV_fW dc_fW pm_fW ct_fW : Value} {cd_fW : Value} {od_fl an_fl : Option Addr} {sl_fl : Array (Option Value)} {oc_fl kV_fl dc_fl pm_fl ct_fl : Value} {cd_fl : Value} {od_fg an_fg : Option Addr} {sl_fg : Array (Option Value)} {oc_fg kV_fg dc_fg pm_fg ct_fg : Value} {cd_fg : Value} {od_fi an_fi : Option Addr} {sl_fi : Array (Option Value)} {oc_fi kV_fi dc_fi pm_fi ct_fi : Value} {cd_fi : Value} {od_fs an_fs : Option Addr} {sl_fs : Array (Option Value)} {oc_fs kV_fs dc_fs pm_fs ct_fs : Value} {cd_fs : Value} {od_fm an_fm : Option Addr} {sl_fm : Array (Option Value)} {oc_fm kV_fm dc_fm pm_fm ct_fm : Value} {cd_fm : Value} {od_fo an_fo : Option Addr} {sl_fo : Array (Option Value)} {oc_fo kV_fo dc_fo pm_fo ct_fo : Value} {cd_fo : Value} {od_fb an_fb : Option Addr} {sl_fb : Array (Option Value)} {oc_fb kV_fb dc_fb pm_fb ct_fb : Value} {cd_fb : Value} {od_fr an_fr : Option Addr} {sl_fr : Array (Option Value)} {oc_fr kV_fr dc_fr pm_fr ct_fr : Value} {cd_fr : Value} {od_fY an_fY : Option Addr} {sl_fY : Array (Option Value)} {oc_fY kV_fY dc_fY pm_fY ct_fY : Value} {cd_fY : Value} {od_fA an_fA : Option Addr} {sl_fA : Array (Option Value)} {oc_fA kV_fA dc_fA pm_fA ct_fA : Value} {cd_fA : Value} {od_fS an_fS : Option Addr} {sl_fS : Array (Option Value)} {oc_fS kV_fS dc_fS pm_fS ct_fS : Value} {cd_fS : Value} {od_fF an_fF : Option Addr} {sl_fF : Array (Option Value)} {oc_fF kV_fF dc_fF pm_fF ct_fF : Value} {cd_fF : Value} {od_fw an_fw : Option Addr} {sl_fw : Array (Option Value)} {oc_fw kV_fw dc_fw pm_fw ct_fw : Value} {cd_fw : Value} {od_fn an_fn : Option Addr} {sl_fn : Array (Option Value)} {oc_fn kV_fn dc_fn pm_fn ct_fn : Value} {cd_fn : Value} {od_ft an_ft : Option Addr} {sl_ft : Array (Option Value)} {oc_ft kV_ft dc_ft pm_ft ct_ft : Value} {cd_ft : Value} {od_fh an_fh : Option Addr} {sl_fh : Array (Option Value)} {oc_fh kV_fh dc_fh pm_fh ct_fh : Value} {cd_fh : Value} {od_fx an_fx : Option Addr} {sl_fx : Array (Option Value)} {oc_fx kV_fx dc_fx pm_fx ct_fx : Value} {cd_fx : Value} {od_fy an_fy : Option Addr} {sl_fy : Array (Option Value)} {oc_fy kV_fy dc_fy pm_fy ct_fy : Value} {cd_fy : Value} {od_fL an_fL : Option Addr} {sl_fL : Array (Option Value)} {oc_fL kV_fL dc_fL pm_fL ct_fL : Value} {cd_fL : Value} {od_gH an_gH : Option Addr} {sl_gH : Array (Option Value)} {oc_gH kV_gH dc_gH pm_gH ct_gH : Value} {e_H : Value} {dd_H : Option Addr} {vs_H : Array Value} {sf_H : Array (Option Value)}
    (b_fM : PySem.W.nsIn K mainGlobals "_law_e_fresh" = some (some (.ref fM)))
    (l_fM : K.lookup fM = some ⟨oc_fM, od_fM, .func (PySem.W.fnOf "_law_e_fresh" "_law_e_fresh" (defArgs sFre) (defBody sFre) (defScope sFre) .none kV_fM dc_fM pm_fM an_fM cd_fM ct_fM), sl_fM⟩)
    (c_fM : PySem.W.codeIn K cd_fM "_law_e_fresh" = true)
    (k_fM : PySem.W.keepIn K (.ref fM) = true)
    (b_fD : PySem.W.nsIn K mainGlobals "_law_e_take" = some (some (.ref fD)))
    (l_fD : K.lookup fD = some ⟨oc_fD, od_fD, .func (PySem.W.fnOf "_law_e_take" "_law_e_take" (defArgs sDrw) (defBody sDrw) (defScope sDrw) .none kV_fD dc_fD pm_fD an_fD cd_fD ct_fD), sl_fD⟩)
    (c_fD : PySem.W.codeIn K cd_fD "_law_e_take" = true)
    (k_fD : PySem.W.keepIn K (.ref fD) = true)
    (b_fO : PySem.W.nsIn K mainGlobals "_law_e_pen" = some (some (.ref fO)))
    (l_fO : K.lookup fO = some ⟨oc_fO, od_fO, .func (PySem.W.fnOf "_law_e_pen" "_law_e_pen" (defArgs sOpn) (defBody sOpn) (defScope sOpn) .none kV_fO dc_fO pm_fO an_fO cd_fO ct_fO), sl_fO⟩)
    (c_fO : PySem.W.codeIn K cd_fO "_law_e_pen" = true)
    (k_fO : PySem.W.keepIn K (.ref fO) = true)
    (b_fC : PySem.W.nsIn K mainGlobals "_law_e_claim" = some (some (.ref fC)))
    (l_fC : K.lookup fC = some ⟨oc_fC, od_fC, .func (PySem.W.fnOf "_law_e_claim" "_law_e_claim" (defArgs sClm) (defBody sClm) (defScope sClm) .none kV_fC dc_fC pm_fC an_fC cd_fC ct_fC), sl_fC⟩)
    (c_fC : PySem.W.codeIn K cd_fC "_law_e_claim" = true)
    (k_fC : PySem.W.keepIn K (.ref fC) = true)
    (b_fB : PySem.W.nsIn K mainGlobals "_law_e_book" = some (some (.ref fB)))
    (l_fB : K.lookup fB = some ⟨oc_fB, od_fB, .func (PySem.W.fnOf "_law_e_book" "_law_e_book" (defArgs sBok) (defBody sBok) (defScope sBok) .none kV_fB dc_fB pm_fB an_fB cd_fB ct_fB), sl_fB⟩)
    (c_fB : PySem.W.codeIn K cd_fB "_law_e_book" = true)
    (k_fB : PySem.W.keepIn K (.ref fB) = true)
    (b_fW : PySem.W.nsIn K mainGlobals "_law_e_whole" = some (some (.ref fW)))
    (l_fW : K.lookup fW = some ⟨oc_fW, od_fW, .func (PySem.W.fnOf "_law_e_whole" "_law_e_whole" (defArgs sWho) (defBody sWho) (defScope sWho) .none kV_fW dc_fW pm_fW an_fW cd_fW ct_fW), sl_fW⟩)
    (c_fW : PySem.W.codeIn K cd_fW "_law_e_whole" = true)
    (k_fW : PySem.W.keepIn K (.ref fW) = true)
    (b_fl : PySem.W.nsIn K mainGlobals "_law_e_left" = some (some (.ref fl)))
    (l_fl : K.lookup fl = some ⟨oc_fl, od_fl, .func (PySem.W.fnOf "_law_e_left" "_law_e_left" (defArgs sElf) (defBody sElf) (defScope sElf) .none kV_fl dc_fl pm_fl an_fl cd_fl ct_fl), sl_fl⟩)
    (c_fl : PySem.W.codeIn K cd_fl "_law_e_left" = true)
    (k_fl : PySem.W.keepIn K (.ref fl) = true)
    (b_fg : PySem.W.nsIn K mainGlobals "_law_e_gone" = some (some (.ref fg)))
    (l_fg : K.lookup fg = some ⟨oc_fg, od_fg, .func (PySem.W.fnOf "_law_e_gone" "_law_e_gone" (defArgs sGon) (defBody sGon) (defScope sGon) .none kV_fg dc_fg pm_fg an_fg cd_fg ct_fg), sl_fg⟩)
    (c_fg : PySem.W.codeIn K cd_fg "_law_e_gone" = true)
    (k_fg : PySem.W.keepIn K (.ref fg) = true)
    (b_fi : PySem.W.nsIn K mainGlobals "_law_e_is_fall" = some (some (.ref fi)))
    (l_fi : K.lookup fi = some ⟨oc_fi, od_fi, .func (PySem.W.fnOf "_law_e_is_fall" "_law_e_is_fall" (defArgs sIsf) (defBody sIsf) (defScope sIsf) .none kV_fi dc_fi pm_fi an_fi cd_fi ct_fi), sl_fi⟩)
    (c_fi : PySem.W.codeIn K cd_fi "_law_e_is_fall" = true)
    (k_fi : PySem.W.keepIn K (.ref fi) = true)
    (b_fs : PySem.W.nsIn K mainGlobals "_law_e_is_stand" = some (some (.ref fs)))
    (l_fs : K.lookup fs = some ⟨oc_fs, od_fs, .func (PySem.W.fnOf "_law_e_is_stand" "_law_e_is_stand" (defArgs sIss) (defBody sIss) (defScope sIss) .none kV_fs dc_fs pm_fs an_fs cd_fs ct_fs), sl_fs⟩)
    (c_fs : PySem.W.codeIn K cd_fs "_law_e_is_stand" = true)
    (k_fs : PySem.W.keepIn K (.ref fs) = true)
    (b_fm : PySem.W.nsIn K mainGlobals "_law_e_many" = some (some (.ref fm)))
    (l_fm : K.lookup fm = some ⟨oc_fm, od_fm, .func (PySem.W.fnOf "_law_e_many" "_law_e_many" (defArgs sMny) (defBody sMny) (defScope sMny) .none kV_fm dc_fm pm_fm an_fm cd_fm ct_fm), sl_fm⟩)
    (c_fm : PySem.W.codeIn K cd_fm "_law_e_many" = true)
    (k_fm : PySem.W.keepIn K (.ref fm) = true)
    (b_fo : PySem.W.nsIn K mainGlobals "_law_e_own_steps" = some (some (.ref fo)))
    (l_fo : K.lookup fo = some ⟨oc_fo, od_fo, .func (PySem.W.fnOf "_law_e_own_steps" "_law_e_own_steps" (defArgs sOwn) (defBody sOwn) (defScope sOwn) .none kV_fo dc_fo pm_fo an_fo cd_fo ct_fo), sl_fo⟩)
    (c_fo : PySem.W.codeIn K cd_fo "_law_e_own_steps" = true)
    (k_fo : PySem.W.keepIn K (.ref fo) = true)
    (b_fb : PySem.W.nsIn K mainGlobals "_law_e_bent" = some (some (.ref fb)))
    (l_fb : K.lookup fb = some ⟨oc_fb, od_fb, .func (PySem.W.fnOf "_law_e_bent" "_law_e_bent" (defArgs sBen) (defBody sBen) (defScope sBen) .none kV_fb dc_fb pm_fb an_fb cd_fb ct_fb), sl_fb⟩)
    (c_fb : PySem.W.codeIn K cd_fb "_law_e_bent" = true)
    (k_fb : PySem.W.keepIn K (.ref fb) = true)
    (b_fr : PySem.W.nsIn K mainGlobals "_law_e_looked_right" = some (some (.ref fr)))
    (l_fr : K.lookup fr = some ⟨oc_fr, od_fr, .func (PySem.W.fnOf "_law_e_looked_right" "_law_e_looked_right" (defArgs sLkr) (defBody sLkr) (defScope sLkr) .none kV_fr dc_fr pm_fr an_fr cd_fr ct_fr), sl_fr⟩)
    (c_fr : PySem.W.codeIn K cd_fr "_law_e_looked_right" = true)
    (k_fr : PySem.W.keepIn K (.ref fr) = true)
    (b_fY : PySem.W.nsIn K mainGlobals "forced_say" = some (some (.ref fY)))
    (l_fY : K.lookup fY = some ⟨oc_fY, od_fY, .func (PySem.W.fnOf "forced_say" "forced_say" (defArgs sFsy) (defBody sFsy) (defScope sFsy) .none kV_fY dc_fY pm_fY an_fY cd_fY ct_fY), sl_fY⟩)
    (c_fY : PySem.W.codeIn K cd_fY "forced_say" = true)
    (k_fY : PySem.W.keepIn K (.ref fY) = true)
    (b_fA : PySem.W.nsIn K mainGlobals "first_fall" = some (some (.ref fA)))
    (l_fA : K.lookup fA = some ⟨oc_fA, od_fA, .func (PySem.W.fnOf "first_fall" "first_fall" (defArgs sFfa) (defBody sFfa) (defScope sFfa) .none kV_fA dc_fA pm_fA an_fA cd_fA ct_fA), sl_fA⟩)
    (c_fA : PySem.W.codeIn K cd_fA "first_fall" = true)
    (k_fA : PySem.W.keepIn K (.ref fA) = true)
    (b_fS : PySem.W.nsIn K mainGlobals "first_step" = some (some (.ref fS)))
    (l_fS : K.lookup fS = some ⟨oc_fS, od_fS, .func (PySem.W.fnOf "first_step" "first_step" (defArgs sFst) (defBody sFst) (defScope sFst) .none kV_fS dc_fS pm_fS an_fS cd_fS ct_fS), sl_fS⟩)
    (c_fS : PySem.W.codeIn K cd_fS "first_step" = true)
    (k_fS : PySem.W.keepIn K (.ref fS) = true)
    (b_fF : PySem.W.nsIn K mainGlobals "forced" = some (some (.ref fF)))
    (l_fF : K.lookup fF = some ⟨oc_fF, od_fF, .func (PySem.W.fnOf "forced" "forced" (defArgs sFod) (defBody sFod) (defScope sFod) .none kV_fF dc_fF pm_fF an_fF cd_fF ct_fF), sl_fF⟩)
    (c_fF : PySem.W.codeIn K cd_fF "forced" = true)
    (k_fF : PySem.W.keepIn K (.ref fF) = true)
    (b_fw : PySem.W.nsIn K mainGlobals "is_whole" = some (some (.ref fw)))
    (l_fw : K.lookup fw = some ⟨oc_fw, od_fw, .func (PySem.W.fnOf "is_whole" "is_whole" (defArgs sWhp) (defBody sWhp) (defScope sWhp) .none kV_fw dc_fw pm_fw an_fw cd_fw ct_fw), sl_fw⟩)
    (c_fw : PySem.W.codeIn K cd_fw "is_whole" = true)
    (k_fw : PySem.W.keepIn K (.ref fw) = true)
    (b_fn : PySem.W.nsIn K mainGlobals "is_number_of" = some (some (.ref fn)))
    (l_fn : K.lookup fn = some ⟨oc_fn, od_fn, .func (PySem.W.fnOf "is_number_of" "is_number_of" (defArgs sNum) (defBody sNum) (defScope sNum) .none kV_fn dc_fn pm_fn an_fn cd_fn ct_fn), sl_fn⟩)
    (c_fn : PySem.W.codeIn K cd_fn "is_number_of" = true)
    (k_fn : PySem.W.keepIn K (.ref fn) = true)
    (b_ft : PySem.W.nsIn K mainGlobals "is_step" = some (some (.ref ft)))
    (l_ft : K.lookup ft = some ⟨oc_ft, od_ft, .func (PySem.W.fnOf "is_step" "is_step" (defArgs sIst) (defBody sIst) (defScope sIst) .none kV_ft dc_ft pm_ft an_ft cd_ft ct_ft), sl_ft⟩)
    (c_ft : PySem.W.codeIn K cd_ft "is_step" = true)
    (k_ft : PySem.W.keepIn K (.ref ft) = true)
    (b_fh : PySem.W.nsIn K mainGlobals "held_behind" = some (some (.ref fh)))
    (l_fh : K.lookup fh = some ⟨oc_fh, od_fh, .func (PySem.W.fnOf "held_behind" "held_behind" (defArgs sHbe) (defBody sHbe) (defScope sHbe) .none kV_fh dc_fh pm_fh an_fh cd_fh ct_fh), sl_fh⟩)
    (c_fh : PySem.W.codeIn K cd_fh "held_behind" = true)
    (k_fh : PySem.W.keepIn K (.ref fh) = true)
    (b_fx : PySem.W.nsIn K mainGlobals "shows_fall" = some (some (.ref fx)))
    (l_fx : K.lookup fx = some ⟨oc_fx, od_fx, .func (PySem.W.fnOf "shows_fall" "shows_fall" (defArgs sSfa) (defBody sSfa) (defScope sSfa) .none kV_fx dc_fx pm_fx an_fx cd_fx ct_fx), sl_fx⟩)
    (c_fx : PySem.W.codeIn K cd_fx "shows_fall" = true)
    (k_fx : PySem.W.keepIn K (.ref fx) = true)
    (b_fy : PySem.W.nsIn K mainGlobals "shows_stand" = some (some (.ref fy)))
    (l_fy : K.lookup fy = some ⟨oc_fy, od_fy, .func (PySem.W.fnOf "shows_stand" "shows_stand" (defArgs sSst) (defBody sSst) (defScope sSst) .none kV_fy dc_fy pm_fy an_fy cd_fy ct_fy), sl_fy⟩)
    (c_fy : PySem.W.codeIn K cd_fy "shows_stand" = true)
    (k_fy : PySem.W.keepIn K (.ref fy) = true)
    (b_fL : PySem.W.nsIn K mainGlobals "law" = some (some (.ref fL)))
    (l_fL : K.lookup fL = some ⟨oc_fL, od_fL, .func (PySem.W.fnOf "law" "law" (defArgs sLaw) (defBody sLaw) (defScope sLaw) .none kV_fL dc_fL pm_fL an_fL cd_fL ct_fL), sl_fL⟩)
    (c_fL : PySem.W.codeIn K cd_fL "law" = true)
    (k_fL : PySem.W.keepIn K (.ref fL) = true)
    (b_gH : PySem.W.nsIn K mainGlobals "falls" = some (some (.ref gH)))
    (l_gH : K.lookup gH = some ⟨oc_gH, od_gH, .func (PySem.W.fnOf "falls" "falls" (defArgs sFal) (defBody sFal) (defScope sFal) .none kV_gH dc_gH pm_gH an_gH (.ref cH) ct_gH), sl_gH⟩)
    (c_gH : PySem.W.codeIn K (.ref cH) "falls" = true)
    (k_gH : PySem.W.keepIn K (.ref gH) = true)
    (lc_H : K.lookup cH = some ⟨e_H, dd_H, .fields vs_H, sf_H⟩)
    (v_H : vs_H[11]? = some (Value.ref PH))
    (hd_H : PySem.W.codeHdIn K cH PH = true)
    (np_H : K.lookup PH = none)
    (z_range : PySem.W.nsIn K mainGlobals "range" = some none)
    (z_isinstance : PySem.W.nsIn K mainGlobals "isinstance" = some none)
    (z_len : PySem.W.nsIn K mainGlobals "len" = some none)
    (z_list : PySem.W.nsIn K mainGlobals "list" = some none)
    (z_min : PySem.W.nsIn K mainGlobals "min" = some none)
    (z_tuple : PySem.W.nsIn K mainGlobals "tuple" = some none)
    (z_sorted : PySem.W.nsIn K mainGlobals "sorted" = some none)
    (z_all : PySem.W.nsIn K mainGlobals "all" = some none)
    (z_bool : PySem.W.nsIn K mainGlobals "bool" = some none)
    (z_int : PySem.W.nsIn K mainGlobals "int" = some none)
    (z_enumerate : PySem.W.nsIn K mainGlobals "enumerate" = some none)
    (z_repr : PySem.W.nsIn K mainGlobals "repr" = some none)
    (z_str : PySem.W.nsIn K mainGlobals "str" = some none) :
    LawG l w K 8 63 "script" mg top h := by
  have e := htop.symm.trans (PySem.W.mg_of X G b_fL)
  cases e
  have F_fM := fun_mk (st := sFre) l_fM c_fM k_fM
  have B_fM := F_fM.binds (ps := ["pen"]) fun _ _ _ _ _ _ us hl => match us, hl with | [_], _ => rfl
  have g_fM := PySem.W.mg_of X G b_fM
  have F_fD := fun_mk (st := sDrw) l_fD c_fD k_fD
  have B_fD := F_fD.binds (ps := ["pen", "many"]) fun _ _ _ _ _ _ us hl => match us, hl with | [_, _], _ => rfl
  have g_fD := PySem.W.mg_of X G b_fD
  have F_fO := fun_mk (st := sOpn) l_fO c_fO k_fO
  have B_fO := F_fO.binds (ps := ["script"]) fun _ _ _ _ _ _ us hl => match us, hl with | [_], _ => rfl
  have g_fO := PySem.W.mg_of X G b_fO
  have F_fC := fun_mk (st := sClm) l_fC c_fC k_fC
  have B_fC := F_fC.binds (ps := ["pen", "most", "wide"]) fun _ _ _ _ _ _ us hl => match us, hl with | [_, _, _], _ => rfl
  have g_fC := PySem.W.mg_of X G b_fC
  have F_fB := fun_mk (st := sBok) l_fB c_fB k_fB
  have B_fB := F_fB.binds (ps := ["pen", "most"]) fun _ _ _ _ _ _ us hl => match us, hl with | [_, _], _ => rfl
  have g_fB := PySem.W.mg_of X G b_fB
  have F_fW := fun_mk (st := sWho) l_fW c_fW k_fW
  have B_fW := F_fW.binds (ps := ["thing"]) fun _ _ _ _ _ _ us hl => match us, hl with | [_], _ => rfl
  have g_fW := PySem.W.mg_of X G b_fW
  have F_fl := fun_mk (st := sElf) l_fl c_fl k_fl
  have B_fl := F_fl.binds (ps := ["claim", "held"]) fun _ _ _ _ _ _ us hl => match us, hl with | [_, _], _ => rfl
  have g_fl := PySem.W.mg_of X G b_fl
  have F_fg := fun_mk (st := sGon) l_fg c_fg k_fg
  have B_fg := F_fg.binds (ps := ["claims", "says", "steps"]) fun _ _ _ _ _ _ us hl => match us, hl with | [_, _, _], _ => rfl
  have g_fg := PySem.W.mg_of X G b_fg
  have F_fi := fun_mk (st := sIsf) l_fi c_fi k_fi
  have B_fi := F_fi.binds (ps := ["claims", "says", "steps", "number"]) fun _ _ _ _ _ _ us hl => match us, hl with | [_, _, _, _], _ => rfl
  have g_fi := PySem.W.mg_of X G b_fi
  have F_fs := fun_mk (st := sIss) l_fs c_fs k_fs
  have B_fs := F_fs.binds (ps := ["claims", "says", "steps"]) fun _ _ _ _ _ _ us hl => match us, hl with | [_, _, _], _ => rfl
  have g_fs := PySem.W.mg_of X G b_fs
  have F_fm := fun_mk (st := sMny) l_fm c_fm k_fm
  have B_fm := F_fm.binds (ps := ["pen"]) fun _ _ _ _ _ _ us hl => match us, hl with | [_], _ => rfl
  have g_fm := PySem.W.mg_of X G b_fm
  have F_fo := fun_mk (st := sOwn) l_fo c_fo k_fo
  have B_fo := F_fo.binds (ps := ["pen", "claims", "says"]) fun _ _ _ _ _ _ us hl => match us, hl with | [_, _, _], _ => rfl
  have g_fo := PySem.W.mg_of X G b_fo
  have F_fb := fun_mk (st := sBen) l_fb c_fb k_fb
  have B_fb := F_fb.binds (ps := ["pen", "claims", "steps"]) fun _ _ _ _ _ _ us hl => match us, hl with | [_, _, _], _ => rfl
  have g_fb := PySem.W.mg_of X G b_fb
  have F_fr := fun_mk (st := sLkr) l_fr c_fr k_fr
  have B_fr := F_fr.binds (ps := ["claims", "says", "steps", "numbers"]) fun _ _ _ _ _ _ us hl => match us, hl with | [_, _, _, _], _ => rfl
  have g_fr := PySem.W.mg_of X G b_fr
  have F_fY := fun_mk (st := sFsy) l_fY c_fY k_fY
  have B_fY := F_fY.binds (ps := ["claim", "held"]) fun _ _ _ _ _ _ us hl => match us, hl with | [_, _], _ => rfl
  have g_fY := PySem.W.mg_of X G b_fY
  have F_fA := fun_mk (st := sFfa) l_fA c_fA k_fA
  have B_fA := F_fA.binds (ps := ["claims", "held"]) fun _ _ _ _ _ _ us hl => match us, hl with | [_, _], _ => rfl
  have g_fA := PySem.W.mg_of X G b_fA
  have F_fS := fun_mk (st := sFst) l_fS c_fS k_fS
  have B_fS := F_fS.binds (ps := ["claims", "held"]) fun _ _ _ _ _ _ us hl => match us, hl with | [_, _], _ => rfl
  have g_fS := PySem.W.mg_of X G b_fS
  have F_fF := fun_mk (st := sFod) l_fF c_fF k_fF
  have B_fF := F_fF.binds (ps := ["claims", "says"]) fun _ _ _ _ _ _ us hl => match us, hl with | [_, _], _ => rfl
  have g_fF := PySem.W.mg_of X G b_fF
  have F_fw := fun_mk (st := sWhp) l_fw c_fw k_fw
  have B_fw := F_fw.binds (ps := ["thing"]) fun _ _ _ _ _ _ us hl => match us, hl with | [_], _ => rfl
  have g_fw := PySem.W.mg_of X G b_fw
  have F_fn := fun_mk (st := sNum) l_fn c_fn k_fn
  have B_fn := F_fn.binds (ps := ["thing", "many"]) fun _ _ _ _ _ _ us hl => match us, hl with | [_, _], _ => rfl
  have g_fn := PySem.W.mg_of X G b_fn
  have F_ft := fun_mk (st := sIst) l_ft c_ft k_ft
  have B_ft := F_ft.binds (ps := ["claims", "held", "thing"]) fun _ _ _ _ _ _ us hl => match us, hl with | [_, _, _], _ => rfl
  have g_ft := PySem.W.mg_of X G b_ft
  have F_fh := fun_mk (st := sHbe) l_fh c_fh k_fh
  have B_fh := F_fh.binds (ps := ["claims", "says", "steps"]) fun _ _ _ _ _ _ us hl => match us, hl with | [_, _, _], _ => rfl
  have g_fh := PySem.W.mg_of X G b_fh
  have F_fx := fun_mk (st := sSfa) l_fx c_fx k_fx
  have B_fx := F_fx.binds (ps := ["claims", "says", "steps", "number"]) fun _ _ _ _ _ _ us hl => match us, hl with | [_, _, _, _], _ => rfl
  have g_fx := PySem.W.mg_of X G b_fx
  have F_fy := fun_mk (st := sSst) l_fy c_fy k_fy
  have B_fy := F_fy.binds (ps := ["claims", "says", "steps"]) fun _ _ _ _ _ _ us hl => match us, hl with | [_, _, _], _ => rfl
  have g_fy := PySem.W.mg_of X G b_fy
  have F_fL := fun_mk (st := sLaw) l_fL c_fL k_fL
  have B_fL := F_fL.binds (ps := ["script"]) fun _ _ _ _ _ _ us hl => match us, hl with | [_], _ => rfl
  have g_fL := PySem.W.mg_of X G b_fL
  have F_gH := fun_mk (st := sFal) l_gH c_gH k_gH
  have B_gH := F_gH.binds (ps := ["claim", "held"]) fun _ _ _ _ _ _ us hl => match us, hl with | [_, _], _ => rfl
  have g_gH := PySem.W.mg_of X G b_gH
  have C_gH : Se.FunC K "falls" "falls" sFal gH cH _ := ⟨⟨_, _, _, _, _, _, _, _, rfl, l_gH, c_gH⟩, k_gH⟩
  have Z_range := PySem.W.mg_none_of X G z_range
  have Z_isinstance := PySem.W.mg_none_of X G z_isinstance
  have Z_len := PySem.W.mg_none_of X G z_len
  have Z_list := PySem.W.mg_none_of X G z_list
  have Z_min := PySem.W.mg_none_of X G z_min
  have Z_tuple := PySem.W.mg_none_of X G z_tuple
  have Z_sorted := PySem.W.mg_none_of X G z_sorted
  have Z_all := PySem.W.mg_none_of X G z_all
  have Z_bool := PySem.W.mg_none_of X G z_bool
  have Z_int := PySem.W.mg_none_of X G z_int
  have Z_enumerate := PySem.W.mg_none_of X G z_enumerate
  have Z_repr := PySem.W.mg_none_of X G z_repr
  have Z_str := PySem.W.mg_none_of X G z_str
  refine ⟨PySem.W.fnOf "law" "law" (defArgs sLaw) (defBody sLaw) (defScope sLaw) .none kV_fL dc_fL pm_fL an_fL cd_fL ct_fL, [(cH, PH)], spLaw PH K, ?_, ?_, ?_, fun s u => .of_eq rfl, fun H a ns _ hT hS => ?_, fun base hb hn hT => ?_⟩
  · intro p hp
    simp only [List.mem_cons, List.not_mem_nil, or_false] at hp
    rcases hp with rfl
    · exact ow "falls" (by simp) _ g_gH cH PH _ _ _ _ _ _ l_gH rfl rfl lc_H v_H
  · intro p hp
    simp only [List.mem_cons, List.not_mem_nil, or_false] at hp
    rcases hp with rfl
    · exact np_H
  · intro p hp
    simp only [List.mem_cons, List.not_mem_nil, or_false] at hp
    rcases hp with rfl
    · exact PySem.W.codeHd_of_K X hd_H
  · exact ⟨a, ns, rfl, hS, ⟨#[], hT (cH, PH) (by simp), trivial⟩, fun _ => rfl⟩
  · have t_H := hT (cH, PH) (by simp)
    have T_H : TabB base mg cH PH := ⟨t_H.code, t_H.bm, t_H.gP⟩
    have Tp : Zp mg := ⟨Z_len, Z_list⟩
    have Ts : Zs mg := ⟨Z_len, Z_list, Z_range, Z_min, Z_tuple, Z_sorted⟩
    have Tf : Zf mg := ⟨Z_len, Z_list, Z_all, Z_enumerate⟩
    have Tl : Zl mg := ⟨Z_len, Z_list, Z_isinstance, Z_int, Z_bool, Z_tuple⟩
    have Tb : Zb mg := ⟨Z_len, Z_list, Z_range, Z_enumerate, Z_str⟩
    have Th : Zh mg := ⟨Z_repr⟩
    have Tk : Zk mg := ⟨Z_len, Z_range, Z_list⟩
    have GD : FnOk l.prog w K mg base CX0 2 fD _ ["pen", "many"] spDrw := ok_drw F_fD F_fM B_fM g_fM Tp
    have GO : FnOk l.prog w K mg base CX0 1 fO _ ["script"] (spOpn K) := ok_opn F_fO Z_list
    have GC : FnOk l.prog w K mg base CX0 3 fC _ ["pen", "most", "wide"] spClm := ok_clm F_fC Ts F_fD B_fD g_fD GD
    have GB : FnOk l.prog w K mg base CX0 4 fB _ ["pen", "most"] spBok := ok_bok F_fB Ts F_fD B_fD g_fD GD F_fC B_fC g_fC GC
    have Gl : FnOk l.prog w K mg base CX0 1 fl _ ["claim", "held"] spElf := ok_elf F_fl
    have Gm : FnOk l.prog w K mg base CX0 5 fm _ ["pen"] spMny := ok_mny F_fm Ts F_fD B_fD g_fD GD F_fB B_fB g_fB GB
    have GW : FnOk l.prog w K mg base CX0 1 fW _ ["thing"] spWhG := ok_whl F_fW Tl
    have Gw : FnOk l.prog w K mg base CX0 1 fw _ ["thing"] spWhG := ok_whp F_fw Tl
    have Gn : FnOk l.prog w K mg base CX0 2 fn _ ["thing", "many"] spNmG := ok_num F_fn F_fw B_fw g_fw Gw
    have GH : FnOk l.prog w K mg base CX0 3 gH _ ["claim", "held"] (spFal PH) := ok_fal C_gH Tf T_H
    have GY : FnOk l.prog w K mg base CX0 1 fY _ ["claim", "held"] spFsy := ok_fsy F_fY Tf
    have GA : FnOk l.prog w K mg base CX0 4 fA _ ["claims", "held"] (spFfa PH) := ok_ffa F_fA Tf k_gH B_gH g_gH GH
    have GS : FnOk l.prog w K mg base CX0 2 fS _ ["claims", "held"] spFst := ok_fst F_fS Tf F_fY B_fY g_fY GY
    have GF : FnOk l.prog w K mg base CX0 5 fF _ ["claims", "says"] (spFod PH) := ok_fod F_fF Tf F_fA B_fA g_fA GA F_fS B_fS g_fS GS
    have Gt : FnOk l.prog w K mg base CX0 3 ft _ ["claims", "held", "thing"] spIst := ok_ist F_ft Tl F_fw B_fw g_fw Gw F_fn B_fn g_fn Gn F_fY B_fY g_fY GY
    have Gh : FnOk l.prog w K mg base CX0 4 fh _ ["claims", "says", "steps"] spGnG := ok_hbe F_fh Tl F_ft B_ft g_ft Gt
    have Gx : FnOk l.prog w K mg base CX0 5 fx _ ["claims", "says", "steps", "number"] (spSfG PH) := ok_sfa F_fx Tl F_fh B_fh g_fh Gh F_fn B_fn g_fn Gn k_gH B_gH g_gH GH
    have Gy : FnOk l.prog w K mg base CX0 5 fy _ ["claims", "says", "steps"] (spStG PH) := ok_sst F_fy F_fh B_fh g_fh Gh F_fA B_fA g_fA GA F_fS B_fS g_fS GS
    have Gg : FnOk l.prog w K mg base CX0 2 fg _ ["claims", "says", "steps"] spGnG := Fx.ok_gon F_fg Tl F_fl B_fl g_fl Gl F_fW B_fW g_fW GW
    have Gi : FnOk l.prog w K mg base CX0 3 fi _ ["claims", "says", "steps", "number"] (spSfG PH) := Fx.ok_isf F_fi Tl F_fg B_fg g_fg Gg F_fW B_fW g_fW GW F_fl B_fl g_fl Gl
    have Gs : FnOk l.prog w K mg base CX0 3 fs _ ["claims", "says", "steps"] (spStG PH) := Fx.ok_iss F_fs Tl F_fg B_fg g_fg Gg F_fl B_fl g_fl Gl
    have Go : FnOk l.prog w K mg base CX0 3 fo _ ["pen", "claims", "says"] spOwn := ok_own F_fo Tb F_fD B_fD g_fD GD F_fl B_fl g_fl Gl
    have Gb : FnOk l.prog w K mg base CX0 3 fb _ ["pen", "claims", "steps"] spBen := ok_ben F_fb Tb F_fD B_fD g_fD GD
    have Gr : Gx2.FnX l.prog w K mg base CX0 6 fr _ ["claims", "says", "steps", "numbers"] (spLkr PH) := ok_lkr F_fr Th F_fi B_fi g_fi Gi F_fx B_fx g_fx Gx F_fs B_fs g_fs Gs F_fy B_fy g_fy Gy
    exact ok_law F_fL Tk F_fO B_fO g_fO GO F_fD B_fD g_fD GD F_fm B_fm g_fm Gm F_fF B_fF g_fF GF F_fo B_fo g_fo Go F_fb B_fb g_fb Gb F_fr B_fr g_fr Gr
end K51
open PySem PySem.W PyProof.Rows
set_option maxHeartbeats 0 in
theorem PySem.Challenge.cw_sparecut_k51_falls_and_stands_looked_at_holds : PySem.Challenge.rw_sparecut_k51_falls_and_stands_looked_at.Holds := by
  w_on; o_law; k_head; (case hw => w_witness2)
  k_fill
  refine Eg.walk_own (l := PySem.Challenge.rw_sparecut_k51_falls_and_stands_looked_at) (m := 63) (k := 8) (x := "script") ["falls"] rfl (by decide) rfl ⟨rfl, by decide, by decide⟩ (by decide +kernel) (fun w h Y => PySem.W.kIn_of Y) ?F
  case F =>
    intro w mg fa h Y KX G hmg ow
    refine' K51.all_mk KX G hmg ow ?b_fM ?l_fM ?c_fM ?k_fM ?b_fD ?l_fD ?c_fD ?k_fD ?b_fO ?l_fO ?c_fO ?k_fO ?b_fC ?l_fC ?c_fC ?k_fC ?b_fB ?l_fB ?c_fB ?k_fB ?b_fW ?l_fW ?c_fW ?k_fW ?b_fl ?l_fl ?c_fl ?k_fl ?b_fg ?l_fg ?c_fg ?k_fg ?b_fi ?l_fi ?c_fi ?k_fi ?b_fs ?l_fs ?c_fs ?k_fs ?b_fm ?l_fm ?c_fm ?k_fm ?b_fo ?l_fo ?c_fo ?k_fo ?b_fb ?l_fb ?c_fb ?k_fb ?b_fr ?l_fr ?c_fr ?k_fr ?b_fY ?l_fY ?c_fY ?k_fY ?b_fA ?l_fA ?c_fA ?k_fA ?b_fS ?l_fS ?c_fS ?k_fS ?b_fF ?l_fF ?c_fF ?k_fF ?b_fw ?l_fw ?c_fw ?k_fw ?b_fn ?l_fn ?c_fn ?k_fn ?b_ft ?l_ft ?c_ft ?k_ft ?b_fh ?l_fh ?c_fh ?k_fh ?b_fx ?l_fx ?c_fx ?k_fx ?b_fy ?l_fy ?c_fy ?k_fy ?b_fL ?l_fL ?c_fL ?k_fL ?b_gH ?l_gH ?c_gH ?k_gH ?lc_H ?v_H ?hd_H ?np_H ?z_range ?z_isinstance ?z_len ?z_list ?z_min ?z_tuple ?z_sorted ?z_all ?z_bool ?z_int ?z_enumerate ?z_repr ?z_str
    (case b_fM => k_is)
    (case l_fM => k_is)
    (case c_fM => k_is)
    (case k_fM => k_is)
    (case b_fD => k_is)
    (case l_fD => k_is)
    (case c_fD => k_is)
    (case k_fD => k_is)
    (case b_fO => k_is)
    (case l_fO => k_is)
    (case c_fO => k_is)
    (case k_fO => k_is)
    (case b_fC => k_is)
    (case l_fC => k_is)
    (case c_fC => k_is)
    (case k_fC => k_is)
    (case b_fB => k_is)
    (case l_fB => k_is)
    (case c_fB => k_is)
    (case k_fB => k_is)
    (case b_fW => k_is)
    (case l_fW => k_is)
    (case c_fW => k_is)
    (case k_fW => k_is)
    (case b_fl => k_is)
    (case l_fl => k_is)
    (case c_fl => k_is)
    (case k_fl => k_is)
    (case b_fg => k_is)
    (case l_fg => k_is)
    (case c_fg => k_is)
    (case k_fg => k_is)
    (case b_fi => k_is)
    (case l_fi => k_is)
    (case c_fi => k_is)
    (case k_fi => k_is)
    (case b_fs => k_is)
    (case l_fs => k_is)
    (case c_fs => k_is)
    (case k_fs => k_is)
    (case b_fm => k_is)
    (case l_fm => k_is)
    (case c_fm => k_is)
    (case k_fm => k_is)
    (case b_fo => k_is)
    (case l_fo => k_is)
    (case c_fo => k_is)
    (case k_fo => k_is)
    (case b_fb => k_is)
    (case l_fb => k_is)
    (case c_fb => k_is)
    (case k_fb => k_is)
    (case b_fr => k_is)
    (case l_fr => k_is)
    (case c_fr => k_is)
    (case k_fr => k_is)
    (case b_fY => k_is)
    (case l_fY => k_is)
    (case c_fY => k_is)
    (case k_fY => k_is)
    (case b_fA => k_is)
    (case l_fA => k_is)
    (case c_fA => k_is)
    (case k_fA => k_is)
    (case b_fS => k_is)
    (case l_fS => k_is)
    (case c_fS => k_is)
    (case k_fS => k_is)
    (case b_fF => k_is)
    (case l_fF => k_is)
    (case c_fF => k_is)
    (case k_fF => k_is)
    (case b_fw => k_is)
    (case l_fw => k_is)
    (case c_fw => k_is)
    (case k_fw => k_is)
    (case b_fn => k_is)
    (case l_fn => k_is)
    (case c_fn => k_is)
    (case k_fn => k_is)
    (case b_ft => k_is)
    (case l_ft => k_is)
    (case c_ft => k_is)
    (case k_ft => k_is)
    (case b_fh => k_is)
    (case l_fh => k_is)
    (case c_fh => k_is)
    (case k_fh => k_is)
    (case b_fx => k_is)
    (case l_fx => k_is)
    (case c_fx => k_is)
    (case k_fx => k_is)
    (case b_fy => k_is)
    (case l_fy => k_is)
    (case c_fy => k_is)
    (case k_fy => k_is)
    (case b_fL => k_is)
    (case l_fL => k_is)
    (case c_fL => k_is)
    (case k_fL => k_is)
    (case b_gH => k_is)
    (case l_gH => k_is)
    (case c_gH => k_is)
    (case k_gH => k_is)
    (case lc_H => k_is)
    (case v_H => exact rfl)
    (case hd_H => kernel_rfl)
    (case np_H => kernel_rfl)
    (case z_range => k_is)
    (case z_isinstance => k_is)
    (case z_len => k_is)
    (case z_list => k_is)
    (case z_min => k_is)
    (case z_tuple => k_is)
    (case z_sorted => k_is)
    (case z_all => k_is)
    (case z_bool => k_is)
    (case z_int => k_is)
    (case z_enumerate => k_is)
    (case z_repr => k_is)
    (case z_str => k_is)
