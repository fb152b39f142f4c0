import PyProof.Rows.All
import Wide.All
import OpenK.AllK
import Wide.FinOn
import PyProof.EqAt
import PyProof.EqKinds
import PyProof.TupleCall
import PySem.Challenge.RW_sparecut_k54_tellings_spared
import HandS.ForMost
import HandS.Evl
import HandS.Conv
import HandS.Exc
import HandS.ExcOwn
import HandS.ExcInit
import HandS.ExcValue
import HandS.ExcIs
import KE.KExcIs
import KE.KxText
import HandS.AnyAll
import HandS.GenOver
import HandS.SortInts
import HandS.TupAny
import HandS.TupMul
import HandS.Strs
import HandS.IsInst
import HandS.EndTab
import HandS.EndOwn
import HandS.SetFor
import KE.KNestM
import KE.GoesEnum
import HandS.FStr
import HandS.RaiseMore
import KE.DatumOrd
import HandS.Zip
import HandS.Style
import HandS.RevRange
import HandS.TryOnly
import HandS.WordsExc
set_option Elab.async false
set_option linter.all false
set_option maxRecDepth 100000
set_option maxHeartbeats 2000000
namespace Nw
open PySem PySem.Spec PyProof.Rows L2
/-! ### readings that hide the heap: what is new is told by its facts alone -/
theorem same_new {H : Hp} {p : Addr} {o : HO} (h : H p = none) : Same H (upd H p o) := fun b x e => by
  rw [upd_ne (ne_of_none e h)]
  exact e
theorem sqt {K : PySem.W.Frag} {H H' : Hp} {a : Addr} {xs : List V} (e : Same H H') (h : SqT K H a xs) : SqT K H' a xs := by
  rcases h with (h | ⟨o, h⟩) | h
  · exact .inl (.inl (e _ _ h))
  · exact .inl (.inr ⟨o, e _ _ h⟩)
  · exact .inr h
/-- a new object o at a place of its own -/
def New (H : Hp) (o : HO) (Q : VK) : Prop := ∀ p H2, H p = none → Same H H2 → H2 p = some o → (∀ b, b ≠ p → H2 b = H b) → Q (.ref p) H2
theorem New.to {H : Hp} {o : HO} {Q : VK} (h : New H o Q) : ∀ p, H p = none → Q (.ref p) (upd H p o) := fun p n => h p _ n (same_new n) upd_same fun b nb => upd_ne nb
section
variable {X : Cx} {e : Expr} {es : List Expr} {t t' : TE} {ta : TA} {pos : Pos}
theorem pe_weak (h : PE X e t) (i : ∀ σ H Q, t' σ H Q → t σ H Q) : PE X e t' := ⟨fun pins s σ H Q I q => h.run pins s σ H Q I (i σ H Q q)⟩
theorem op_weak {f : Value → Value → Sem Value} {r r' : R2} (h : OpR X f r) (i : ∀ x y H Q, r' x y H Q → r x y H Q) : OpR X f r' := fun pins s σ H x y v u Q I rx ry q => h pins s σ H x y v u Q I rx ry (i x y H Q q)
theorem call_weak {f : Value} {r r' : List V → Hp → VK → Prop} (h : CallR X f r) (i : ∀ xs H Q, r' xs H Q → r xs H Q) : CallR X f r' := fun pins s σ H xs us Q I rx q => h pins s σ H xs us Q I rx (i xs H Q q)
theorem mt_weak {id : String} {r r' : V → List V → Hp → VK → Prop} (h : MtR X id r) (i : ∀ x xs H Q, r' x xs H Q → r x xs H Q) : MtR X id r' := fun pins s σ H x xs v us Q I rx rs q => h pins s σ H x xs v us Q I rx rs (i x xs H Q q)
theorem sl_weak {r r' : V → Option Int → Option Int → Hp → VK → Prop} (h : SlR X r) (i : ∀ x lo hi H Q, r' x lo hi H Q → r x lo hi H Q) : SlR X r' := fun pins s σ H x v vl vu lo hi sl Q I rx a b c q => h pins s σ H x v vl vu lo hi sl Q I rx a b c (i x lo hi H Q q)
/-- what follows may be asked for less -/
def clA (t : TA) : TA := fun σ H R => ∃ R' : List V → Hp → Prop, (∀ xs H1, R' xs H1 → R xs H1) ∧ t σ H R'
theorem pa_cl (h : PA X es ta) : PA X es (clA ta) := ⟨fun ps pins s σ H Q I ⟨R', i, q⟩ => thn (h.run ps pins s σ H R' I q) fun us s1 ⟨vs, H1, I1, r1, q1⟩ => ⟨vs, H1, I1, r1, i vs H1 q1⟩⟩
def clE (t : TE) : TE := fun σ H R => ∃ R' : VK, (∀ v H1, R' v H1 → R v H1) ∧ t σ H R'
theorem pe_cl (h : PE X e t) : PE X e (clE t) := ⟨fun pins s σ H Q I ⟨R', i, q⟩ => thn (h.run pins s σ H R' I q) fun u s1 ⟨v, H1, I1, r1, q1⟩ => ⟨v, H1, I1, r1, i v H1 q1⟩⟩
def nLst (t : TA) : TE := fun σ H Q => t σ H fun xs H1 => xs.length ≤ sizeLine ∧ New H1 (.lst xs) Q
def nTup (t : TA) : TE := fun σ H Q => t σ H fun xs H1 => xs.length ≤ sizeLine ∧ New H1 (.tup xs) Q
theorem pe_lstN (h : PA X es ta) : PE X (.List es pos) (nLst ta) := pe_weak (pe_lst (pa_cl h)) fun _ _ _ q => ⟨_, fun _ _ z => ⟨z.1, z.2.to⟩, q⟩
theorem pe_tupN {x1} (h : PA X es ta) : PE X (.Tuple es x1 pos) (nTup ta) := pe_weak (pe_tup (pa_cl h)) fun _ _ _ q => ⟨_, fun _ _ z => ⟨z.1, z.2.to⟩, q⟩
/-- xs + ys (lists) -/
def rCatN : R2 := fun x y H Q => ∃ p q xs ys, x = .ref p ∧ y = .ref q ∧ H p = some (.lst xs) ∧ H q = some (.lst ys) ∧ xs.length + ys.length ≤ sizeLine ∧ New H (.lst (xs ++ ys)) Q
theorem op_catN : OpR X (binaryOp .Add) rCatN := op_weak op_cat fun x y H Q ⟨p, q, xs, ys, h1, h2, h3, h4, h5, h6⟩ => ⟨p, q, xs, ys, h1, h2, h3, h4, h5, h6.to⟩
/-- a tuple of xs, new or not -/
def ResT (H : Hp) (xs : List V) (Q : VK) : Prop := ∀ p H2, Same H H2 → H2 p = some (.tup xs) → Q (.ref p) H2
theorem call_list_ofN : CallR X (.type "list") (fun xs H Q => ∃ p ys, xs = [.ref p] ∧ (SqL X.K H p ys ∨ SqT X.K H p ys) ∧ New H (.lst ys) Q) := call_weak call_list_of fun _ _ _ ⟨p, ys, h1, h2, h3⟩ => ⟨p, ys, h1, h2, h3.to⟩
theorem call_tuple_ofN : CallR X (.type "tuple") (fun xs H Q => ∃ p ys, xs = [.ref p] ∧ SqL X.K H p ys ∧ New H (.tup ys) Q) := call_weak call_tuple_of fun _ _ _ ⟨p, ys, h1, h2, h3⟩ => ⟨p, ys, h1, .inl ⟨h2, h3.to⟩⟩
theorem sl_listN : SlR X (fun x lo hi H Q => ∃ a xs, x = .ref a ∧ SqL X.K H a xs ∧ New H (.lst (cutV xs lo hi)) Q) := sl_weak sl_list fun _ _ _ _ _ ⟨a, xs, h1, h2, h3⟩ => ⟨a, xs, h1, h2, h3.to⟩
end
/-! ### data by its values -/
theorem dp_bls {K : PySem.W.Frag} {H : Hp} : ∀ bs : List Bool, DpAll K H (bs.map V.bl) (bs.map PyData.bool)
  | [] => .nil
  | b :: r => .cons (.bl b) (dp_bls r)
theorem dp_ints {K : PySem.W.Frag} {H : Hp} : ∀ ns : List Int, DpAll K H (ns.map V.int) (ns.map PyData.int)
  | [] => .nil
  | b :: r => .cons (.int b) (dp_ints r)
/-- flat data: numbers, truths, None -/
def flatD : PyData → Bool
  | .none | .bool _ | .int _ => true
  | _ => false
theorem flat_lay : ∀ ds : List PyData, ds.all flatD = true → PyData.canLayAll0 ds = true
  | [], _ => rfl
  | d :: r, h => by
    rw [List.all_cons, Bool.and_eq_true] at h
    show (PyData.canLay0 d && PyData.canLayAll0 r) = true
    rw [flat_lay r h.2, Bool.and_true]
    cases d <;> first | rfl | exact Bool.noConfusion h.1
theorem flat_depth : ∀ ds : List PyData, ds.all flatD = true → PyData.depthAll ds ≤ 1
  | [], _ => by decide
  | d :: r, h => by
    rw [List.all_cons, Bool.and_eq_true] at h
    have ih := flat_depth r h.2
    have hd : PyData.depth d ≤ 1 := by
      cases d <;> first | decide | exact Bool.noConfusion h.1 | exact Nat.zero_le _ | exact Nat.le_refl _
    show Nat.max (PyData.depth d) (PyData.depthAll r) ≤ 1
    exact Nat.max_le.mpr ⟨hd, ih⟩
theorem shaped_list {ds : List PyData} (h : ds.all flatD = true) : SeqAt.shaped (.list ds) = true := by
  have e := flat_depth ds h
  have e2 : PyData.depth (.list ds) ≤ 64 := by
    show PyData.depthAll ds + 1 ≤ 64
    omega
  show (PyData.canLayAll0 ds && decide (PyData.depth (.list ds) ≤ 64)) = true
  rw [flat_lay ds h, decide_eq_true e2]
  rfl
theorem shaped_tuple {ds : List PyData} (h : ds.all flatD = true) : SeqAt.shaped (.tuple ds) = true := by
  have e := flat_depth ds h
  have e2 : PyData.depth (.tuple ds) ≤ 64 := by
    show PyData.depthAll ds + 1 ≤ 64
    omega
  show (PyData.canLayAll0 ds && decide (PyData.depth (.tuple ds) ≤ 64)) = true
  rw [flat_lay ds h, decide_eq_true e2]
  rfl
theorem flat_bls (bs : List Bool) : (bs.map PyData.bool).all flatD = true := by
  rw [List.all_map, List.all_eq_true]
  exact fun _ _ => rfl
theorem flat_ints (ns : List Int) : (ns.map PyData.int).all flatD = true := by
  rw [List.all_map, List.all_eq_true]
  exact fun _ _ => rfl
theorem eqv_self {d : PyData} (h : SeqAt.shaped d = true) : PyData.eqv d d = true := SeqAt.eqv_refl d (SeqAt.canLay_of_shaped h)
end Nw
namespace Nw
open PySem PySem.Spec PyProof.Rows L2
section
variable {X : Cx}
theorem cr_sortedN : CallR X (.builtin "sorted") (fun vs H Q => ∃ (a : Addr) (ns : List Int), vs = [V.ref a] ∧ SqL X.K H a (ns.map V.int) ∧ ∀ ns' : List Int, ns'.Perm ns → ns'.Pairwise (· ≤ ·) → New H (.lst (ns'.map V.int)) Q) :=
  call_weak cr_sortedI fun _ _ _ ⟨a, ns, h1, h2, h3⟩ => ⟨a, ns, h1, h2, fun ns' p hp hs np => (h3 ns' hp hs).to p np⟩
theorem cutV_all {xs : List V} {lo hi : Option Int} (h : HT.sIx xs.length 0 lo = 0 ∧ HT.sIx xs.length xs.length hi = xs.length) : cutV xs lo hi = xs := by
  unfold cutV
  rw [h.1, h.2]
  exact List.take_length
theorem sl_tupN : SlR X (fun x lo hi H Q => ∃ a xs, x = .ref a ∧ H a = some (.tup xs) ∧ ResT H (cutV xs lo hi) Q) := sl_weak sl_tupA fun _ lo hi H Q ⟨a, xs, h1, h2, h3⟩ =>
  ⟨a, xs, h1, .of h2, fun z => h3 a H (Same.refl H) (by rw [cutV_all z]; exact h2), fun _ p np => h3 p _ (same_new np) upd_same⟩
theorem op_catTN : OpR X (binaryOp .Add) (fun x y H Q => ∃ a b xs ys, x = .ref a ∧ y = .ref b ∧ H a = some (.tup xs) ∧ H b = some (.tup ys) ∧ xs.length + ys.length ≤ sizeLine ∧ ResT H (xs ++ ys) Q) :=
  op_weak op_catA fun _ _ H Q ⟨a, b, xs, ys, h1, h2, h3, h4, h5, h6⟩ => ⟨a, b, xs, ys, h1, h2, .of h3, .of h4, h5, fun z => h6 b H (Same.refl H) (by rw [z]; exact h4), fun _ z => h6 a H (Same.refl H) (by rw [z, List.append_nil]; exact h3), fun _ _ p np => h6 p _ (same_new np) upd_same⟩
theorem op_repTN : OpR X (binaryOp .Mult) (fun x y H Q => ∃ l k xs, x = .ref l ∧ y = .int k ∧ H l = some (.tup xs) ∧ xs ≠ [] ∧ 2 ≤ k ∧ k ≤ 1000 ∧ xs.length ≤ 1000 ∧ ResT H (List.replicate k.toNat xs).flatten Q) :=
  op_weak op_repT fun _ _ H Q ⟨l, k, xs, h1, h2, h3, h4, h5, h6, h7, h8⟩ => ⟨l, k, xs, h1, h2, .of h3, h4, h5, h6, h7, fun p np => h8 p _ (same_new np) upd_same⟩
/-! the same rules with the written part by its name (for comprehensions' blocks) -/
variable {K : PySem.W.Frag}
theorem ix_tupB (h : X.K = K) : IxR X (rIxT K) := by subst h; exact ix_tup
theorem ix_listB (h : X.K = K) : IxR X (rIxL K) := by subst h; exact ix_list
theorem op_in_seqB (h : X.K = K) : OpR X (compareOp .In) (rIn K false) := by subst h; exact op_in_seq
theorem op_notIn_seqB (h : X.K = K) : OpR X (compareOp .NotIn) (rIn K true) := by subst h; exact op_notIn_seq
theorem call_len_seqB (h : X.K = K) : CallR X (.builtin "len") (fun xs H Q => ∃ p ys, xs = [.ref p] ∧ (SqL K H p ys ∨ SqT K H p ys) ∧ Q (.int ys.length) H) := by subst h; exact call_len_seq
theorem call_isiB (h : X.K = K) : CallR X (.builtin "isinstance") (rIsi K) := by subst h; exact call_isi
theorem op_eqDB (h : X.K = K) (hu : X.A.units + 64 < cLine) : OpR X (compareOp .Eq) (rEqD K) := by subst h; exact op_eqD hu
theorem op_neDB (h : X.K = K) (hu : X.A.units + 64 < cLine) : OpR X (compareOp .NotEq) (rNeD K) := by subst h; exact op_neD hu
end
end Nw
namespace Ev1
open PySem PySem.Spec PyProof.Rows L2 Nw
/-! ### exceptions as values -/
/-- at a an exception of the class cls, its dict d -/
def ExV (cls : Value) (d : Option Addr) (a : Addr) : HO := .ext fun h => ∃ (oe : Obj) (vs : Array Value), h.get? a = some oe ∧ Zc cls d oe ∧ oe.data = .fields vs
/-- an exception that was made of the class cls, its dict d: it stands at a place of its own -/
def Made (H1 : Hp) (cls : Value) (d : Option Addr) (Q : VK) : Prop := ∀ a H3, H1 a = none → Same H1 H3 → H3 a = some (ExV cls d a) → Q (.ref a) H3
theorem pe_made {X : Cx} {e : Expr} {t : L2.St → Hp → XK → Prop} (m : PMk X e t) : PE X e (fun σ H Q => t σ H fun cls d H1 => Made H1 cls d Q) := by
  refine ⟨fun pins s σ H Q I h => thn (m pins s σ H _ I h) fun u s1 z => ?_⟩
  obtain ⟨a, oe, vs, sI, H1, cls, d, rfl, J, k, na, ha, hz, hd, _, ha1, os, ag, _, q⟩ := z
  have new : ObjOk X.prog X.w (upd H1 a (ExV cls d a)) s1.heap a (ExV cls d a) := ⟨⟨oe, vs, ha, hz, hd⟩, ⟨oe, ha⟩, fun h1 h2 ⟨o, v, y, r⟩ i => ⟨o, v, i o y, r⟩⟩
  exact ⟨.ref a, upd H1 a (ExV cls d a), J.call' (ch := []) os (Un.laidN k na ha1) (J.hok.laidN k ha1 new) ag (fun b y => absurd y (by simp)), rfl, q a _ ha1 (same_new ha1) upd_same⟩
/-- at a an exception of the class D, with the field at = y -/
def ExF (H : Hp) (a D : Addr) (y : V) : Prop := ∃ dx, H a = some (ExV (.ref D) (some dx) a) ∧ H dx = some (.xd [(("at" : Str), y)])
/-- at a an exception of the class D -/
def ExAt (H : Hp) (a D : Addr) : Prop := H a = some (ExO (.ref D) a) ∨ ∃ y, ExF H a D y
theorem ExF.same {H H' : Hp} {a D : Addr} {y : V} (h : ExF H a D y) (s : Same H H') : ExF H' a D y := by
  obtain ⟨dx, h1, h2⟩ := h
  exact ⟨dx, s _ _ h1, s _ _ h2⟩
theorem ExAt.same {H H' : Hp} {a D : Addr} (h : ExAt H a D) (s : Same H H') : ExAt H' a D := by
  rcases h with h | ⟨y, h⟩
  · exact .inl (s _ _ h)
  · exact .inr ⟨y, h.same s⟩
theorem notCls_of {o : Obj} {vs : Array Value} (hd : o.data = .fields vs) : PySem.W.notCls o = true := by
  unfold PySem.W.notCls
  rw [hd]
section
variable {X : Cx} {pins : List (Addr × Obj)} {σ : L2.St} {H : Hp} {s : Shared} {a D : Addr} {y : V}
theorem ExF.inst (I : Inv X pins σ H s) (h : ExF H a D y) : ∃ ox od u, PySem.W.InstAt s.heap a ox D (some od) ∧ PySem.W.lookIn "at" od = some (some u) ∧ RelV y u := by
  obtain ⟨dx, h1, h2⟩ := h
  have z1 : ObjOk X.prog X.w H s.heap a (.ext fun h => ∃ (oe : Obj) (vs : Array Value), h.get? a = some oe ∧ Zc (.ref D) (some dx) oe ∧ oe.data = .fields vs) := I.hok a _ h1
  obtain ⟨⟨oe, vs, ha, ⟨hc, hd⟩, hv⟩, _⟩ := z1
  have z2 : ObjOk X.prog X.w H s.heap dx (.xd [(("at" : Str), y)]) := I.hok dx _ h2
  obtain ⟨mA, hn, hr⟩ := z2
  obtain ⟨od, ho, hl⟩ := lookIn_ns hn
  have l : List.lookup ("at" : Str) [(("at" : Str), y)] = some y := by simp [List.lookup]
  obtain ⟨u, hu, ru⟩ := RelO.some_of (v := y) (o := mA "at") (by rw [← l]; exact hr "at")
  exact ⟨oe, od, u, ⟨ha, hc, notCls_of hv, by rw [hd]; exact ho⟩, by rw [hl, hu], ru⟩
theorem ExAt.inst (I : Inv X pins σ H s) (h : ExAt H a D) : ∃ ox od, PySem.W.InstAt s.heap a ox D od := by
  rcases h with h | ⟨y, h⟩
  · obtain ⟨⟨oe, vs, ha, ⟨hc, hd⟩, hv, _⟩, _⟩ := I.hok a _ h
    exact ⟨oe, none, ⟨ha, hc, notCls_of hv, by rw [hd]; exact trivial⟩⟩
  · obtain ⟨ox, od, _, J, _⟩ := h.inst I
    exact ⟨ox, some od, J⟩
end
/-- X(e), X an own class without own __init__ -/
def tExN (C : Addr) (te : TE) : TE := fun σ H Q => te σ H fun _ H1 => ∀ a H2, H1 a = none → Same H1 H2 → H2 a = some (ExO (.ref C) a) → Q (.ref a) H2
theorem pe_excN {X : Cx} {C : Addr} {bmB : List Value} {B newId initId : String} {x : Str} {e : Expr} {te : TE} {p pos : Pos} (F : ExcBaseFacts B newId initId bmB) (q : PySem.W.excIn X.K C bmB newId = true) (gC : X.mg x = some (.ref C)) (kC : PySem.W.keepIn X.K (.ref C) = true) (hg : Gl X x)
    (he : PE X e te) (hs : starEach [e] X.env = (false, eval e X.env) :: starEach [] X.env := by rfl) (hdb : (x == ("__debug__" : Str)) = false := by decide) : PE X (.Call (.Name x p) [e] [] pos) (tExN C te) :=
  pe_weak (pe_exc1 F q gC kC hg (pe_cl he) hs hdb) fun _ _ _ h => ⟨_, fun _ _ z a na => z a _ na (same_new na) upd_same, h⟩
/-- isinstance(e, c) of an exception -/
def rIsX (K : PySem.W.Frag) : List V → Hp → VK → Prop := fun xs H Q => ∃ (a D : Addr) (c : V) (cv : Value) (b : Bool), xs = [.ref a, c] ∧ ExAt H a D ∧ ExcC K D ∧ (∀ u, RelV c u → u = cv) ∧ PySem.W.kitOne K (.ref D) cv = some b ∧ Q (.bl b) H
theorem call_isX {X : Cx} : CallR X (.builtin "isinstance") (rIsX X.K) := by
  intro pins s σ H xs us Q I r h
  obtain ⟨a, D, c, cv, b, rfl, hE, C, hcv, e, q⟩ := h
  cases r with
  | cons rx rr =>
    cases rr with
    | cons rt rr =>
      cases rr
      cases rx
      have ec := hcv _ rt
      subst ec
      obtain ⟨ox, od, J⟩ := hE.inst I
      have cl : (PySem.W.clsIn X.K D).isSome = true := by
        obtain ⟨cd, hc, _⟩ := PySem.W.any_some C.hd
        rw [hc]
        rfl
      exact PySem.W.kia_one (PySem.W.kitx_exc cl C.hg C.hk C.hs C.ha C.hn C.ht C.hm) I.kIn J e (fun z => nomatch z) fun tk => ⟨.bl b, H, I.kept (t' := tk) fun _ _ z => z, rfl, q⟩
/-- e.at of an exception -/
def tAtX (K : PySem.W.Frag) (te : TE) : TE := fun σ H Q => te σ H fun x H1 => ∃ (a D : Addr) (y : V), x = .ref a ∧ ExF H1 a D y ∧ ExcC K D ∧ PySem.W.findIn K (.ref D) "at" = some none ∧ Q y H1
theorem pe_atX {X : Cx} {e : Expr} {te : TE} {pos : Pos} (he : PE X e te) (hb : attributeBase e "at" X.env (eval e X.env) = eval e X.env := by rfl) : PE X (.Attribute e "at" pos) (tAtX X.K te) := by
  refine ⟨fun pins s σ H Q I h => attr_of hb (thn (he.run pins s σ H _ I h) fun u s1 hh => ?_)⟩
  obtain ⟨x, H1, I1, rx, a, D, y, rfl, hE, C, nf, q⟩ := hh
  cases rx
  obtain ⟨ox, od, u, J, l, ru⟩ := hE.inst I1
  exact HandSPX.exc_get I1.kIn J C.hg C.hk C.hs (PySem.W.findObj_own C.hd nf rfl l) (handed_of ru) ⟨y, H1, I1.tok _, ru, q⟩
/-- the promise of «def __init__(self, at): self.at = at» -/
def spInit (K : PySem.W.Frag) : Sp := fun vs H Q _ => ∃ (a C : Addr) (y : V), vs = [.ref a, y] ∧ OexC K C ∧ PySem.W.findIn K (.ref C) "at" = some none ∧ H a = some (exo a C none) ∧
  ∀ dx, H dx = none → dx ≠ a → Q .non (upd (upd H dx (exd dx [(("at" : Str), y)])) a (exo a C (some dx)))
theorem del_new {H1 : Hp} {a dx : Addr} {o1 o2 o3 : HO} (na : H1 a = none) (ne : dx ≠ a) : del (upd (upd (upd H1 a o1) dx o2) a o3) a = upd H1 dx o2 := by
  funext b
  by_cases hb : b = a
  · subst hb
    rw [del_same, upd_ne (Ne.symm ne), na]
  · rw [del_ne hb, upd_ne hb]
    by_cases hd : b = dx
    · subst hd
      rw [upd_same, upd_same]
    · rw [upd_ne hd, upd_ne hd, upd_ne hb]
/-- what C(y) asks, C with that __init__: the exception and its field -/
theorem made_F {K : PySem.W.Frag} {C : Addr} {y : V} {H1 : Hp} {Q : VK} (T : OexC K C) (nf : PySem.W.findIn K (.ref C) "at" = some none) (h : ∀ a H2, H1 a = none → Same H1 H2 → ExF H2 a C y → Q (.ref a) H2) :
    [y].length ≤ 1000 ∧ ∀ a, H1 a = none → spInit K (.ref a :: ([y] ++ [])) (upd H1 a (exo a C none)) (fun v H2 => v = .non ∧ ∃ (d : Addr) (fs : List (Str × V)), H2 a = some (exo a C (some d)) ∧ H2 d = some (exd d fs) ∧ H1 d = none ∧
      Made (upd (del H2 a) d (.xd fs)) (Value.ref C) (some d) Q) (fun _ _ _ => False) := by
  refine ⟨by simp, fun a na => ⟨a, C, y, rfl, T, nf, upd_same, fun dx nd ne => ?_⟩⟩
  have nd1 : H1 dx = none := by
    rw [upd_ne ne] at nd
    exact nd
  refine ⟨rfl, dx, [(("at" : Str), y)], upd_same, by rw [upd_ne ne, upd_same], nd1, ?_⟩
  rw [del_new na ne, upd_upd]
  intro b H3 nb s3 e3
  have sd : Same H1 (upd H1 dx (.xd [(("at" : Str), y)])) := same_new nd1
  exact h b H3 (sd.free nb) (sd.trans s3) ⟨dx, e3, s3 _ _ upd_same⟩
end Ev1
namespace Gx
open PySem PySem.Spec PyProof.Rows L2 GxR
/-! ### any, all of a generator expression whose element is run by the layer's own rules -/
/-- the generator's frame running, awake under any | all -/
abbrev gCx (X : Cx) (ge : Expr) (s : Shared) (H : Hp) (cenv : Env) (it : Addr) (fp : List Addr) (pn : List (Addr × Obj)) : Cx :=
  { X with
    s_0 := s
    H_0 := H
    env := cenv
    outer := X.stack
    stack := cenv :: X.stack
    ex := fp
    fn := fun _ => false
    pn := pn
    xe := fun _ _ => False
    A := X.A.in1.in1.over (.compLoop ge 0 (.ref it) .none cenv) [] }
theorem room_gen {k : Nat} {X : Cx} {elt : Expr} {gs : List Comprehension} {scope : Scope} {pos : Pos} {s : Shared} {H : Hp} {cenv : Env} {it : Addr} {fp : List Addr} {pn : List (Addr × Obj)} (r : Room (k + 1) X.A) :
    Room k (gCx X (.GeneratorExp elt gs scope pos) s H cenv it fp pn).A := by
  refine ⟨r.hd, ?_, ?_⟩
  · have := r.dp
    show X.A.depth + 0 + 1 + 3 * k + 5 < recursionLimit
    omega
  · have := r.un
    show X.A.units + 1 + 1 + 0 + 3 + 16 * k + 200 < cLine
    omega
/-- gens, drawn and toks say nothing but that all are bare -/
theorem inv_gens {X : Cx} {pins : List (Addr × Obj)} {σ : L2.St} {H : Hp} {s s' : Shared} (I : Inv X pins σ H s) (hh : s'.heap = s.heap) (ho : s'.os = s.os) (hb : AllBare s'.gens) : Inv X pins σ H s' := by
  obtain ⟨h, g, d, t, o⟩ := s
  obtain ⟨h', g', d', t', o'⟩ := s'
  dsimp only at hh ho hb
  subst hh ho
  exact { ok := I.ok, os := I.os, bare := hb, base := I.base, loc := I.loc, cell := I.cell, free := I.free, freeC := I.freeC, pin := I.pin, hok := I.hok, len := I.len }
theorem bare_set {s : Shared} {g : Nat} {x : GenState} (h : AllBare s.gens) (hx : x.bare = true) : AllBare (s.setGen g x).gens := by
  intro y hy
  have hy' : y ∈ s.gens.setIfInBounds g x := hy
  obtain ⟨i, hi, e⟩ := Array.mem_iff_getElem.mp hy'
  by_cases hg : g = i
  · subst hg
    rw [Array.getElem_setIfInBounds_self] at e
    rw [← e]
    exact hx
  · rw [Array.getElem_setIfInBounds_ne (by simpa using hi) hg] at e
    rw [← e]
    exact h _ (Array.getElem_mem _)
section
variable {X : Cx} {pins : List (Addr × Obj)} {σ : L2.St} {H : Hp} {s : Shared}
/-- what the frame of the generator knows as it begins -/
theorem gen_start {ge : Expr} {scope : Scope} {own : List (Str × Nat)} {fp : List Addr} {it a : Addr} {code : Value} {go : Obj} {gs : Array GenState} {tk : Nat} {h5 : Heap} {m : Str → Option Value} (I : Inv X pins σ H s) (hc : X.calm = true) (ok : BlkOk X.N X.env.scope scope own) (hN : X.N.Nodup)
    (nc : ∀ y ∈ scope.names, y.2 ≠ .cell) (hfp : ∀ b ∈ fp, FpOk X pins H b ∧ b < s.heap.objs.size) (fr : (X.A.in1.in1.over (.compLoop ge 0 (.ref it) .none (genEnv scope (cloFrom X.env.cells scope.names []) s.heap.objs.size code builtinsNs X.env)) []).frames = some (genEnv scope (cloFrom X.env.cells scope.names []) s.heap.objs.size code builtinsNs X.env :: X.stack))
    (hg : AllBare gs) (kp : ∀ b o, s.heap.get? b = some o → h5.get? b = some o) (hns : h5.Ns s.heap.objs.size m) (ha : h5.get? a = some go) (ha1 : s.heap.objs.size < a) (hd : ∀ v, go.data ≠ .cell v) :
    Inv (gCx X ge s H (genEnv scope (cloFrom X.env.cells scope.names []) s.heap.objs.size code builtinsNs X.env) it fp [(a, go)]) [] (wipe σ (own.map (·.2))) H { s with gens := gs, toks := tk, heap := h5 } := by
  have cm : ∀ {y : Str} {c : Addr}, (cloFrom X.env.cells scope.names []).lookup y = some c → X.env.cells.lookup y = some c := fun {y c} e => by
    rcases cloFrom_mem (PySem.mem_of_lookup e) with z | ⟨h1, z⟩
    · cases z
    · have q : ∃ c', X.env.cells.lookup y = some c' := by
        rcases ok.free (y, .free) h1 rfl with k | k
        · exact I.ok.has y (.inl k)
        · exact I.ok.has y (.inr k)
      obtain ⟨c', q⟩ := q
      rw [q] at z
      rw [q, z]
      rfl
  have ch : ∀ {y : Str}, scope.names.lookup y = some .free → ∃ c, (cloFrom X.env.cells scope.names []).lookup y = some c := fun {y} e => mem_lookup (cloFrom_has (PySem.mem_of_lookup e))
  have noc : ∀ {y : Str}, scope.names.lookup y ≠ some .cell := fun {y} e => nc _ (PySem.mem_of_lookup e) rfl
  have stL : ∀ b ∈ frs X.stack, b < s.heap.objs.size := fun b hb => by
    obtain ⟨_, o, e, _⟩ := I.stack.mem hb
    exact Heap.lt_size e
  have okG : (gCx X ge s H (genEnv scope (cloFrom X.env.cells scope.names []) s.heap.objs.size code builtinsNs X.env) it fp [(a, go)]).Ok := {
    mod := I.ok.mod
    kind := ok.kind
    glob := I.ok.glob
    blt := rfl
    above := Nat.le_refl _
    inj := fun x y c h1 h2 => I.ok.inj x y c (cm h1) (cm h2)
    has := fun x h => h.elim (fun k => absurd k noc) fun k => ch k
    cab := fun x c h => Bool.noConfusion h
    hd := fun h => I.ok.hd h
    frames := fr
    stk := .inr ⟨rfl, rfl⟩
    exf := fun b hb => ⟨Nat.ne_of_lt (hfp b hb).2, fun x c e => (hfp b hb).1.2.2.2.2.1 x c (cm e)⟩
    bs := I.bs
    bsz := Nat.le_trans I.ok.bsz I.sz
    noex := fun b o e hb => by
      rcases (hfp b hb).1.2.2.2.1 with z | z
      · exact I.ok.noex b o e z
      · exact Nat.lt_irrefl _ (Nat.lt_of_lt_of_le (Heap.lt_size e) (Nat.le_trans I.ok.bsz z))
    exfs := fun b hb z => by
      rcases List.mem_cons.mp (I.stkSub b z) with y | y
      · exact (hfp b hb).1.2.1 y
      · exact (hfp b hb).1.2.2.1 y
    funs := I.stack
    frf := I.stkFree }
  refine { ok := okG, os := rfl, bare := hg, base := Un.kept kp, loc := ⟨m, hns, fun i x v e1 e2 e3 => ?_⟩, cell := fun x c e => ?_, free := I.hok.fresh (Nat.le_refl _), freeC := fun x c e => I.freeC x c (cm e), pin := fun p hp => ?_, hok := I.hok.kept kp, len := (wipe_length _ _).trans I.len }
  · obtain ⟨e2, hi⟩ := wipe_some e2
    have hf : scope.names.lookup x = some .free := by
      have no : ∀ k, scope.names.lookup x = some k → ¬ (k = .local ∨ k = .cell) := fun k hk hh => by
        rcases ok.own _ (PySem.mem_of_lookup hk) hh with z | z
        · obtain ⟨p, hp, hx⟩ := List.mem_map.mp z
          have q := ok.ix p hp
          have hx' : p.1 = x := hx
          rw [hx'] at q
          exact hi (List.mem_map.mpr ⟨p, hp, nodup_ix hN q e1⟩)
        · exact z (List.mem_of_getElem? e1)
      have e3 : Vis scope x := e3
      rcases e3 with k | k | k
      · exact absurd (.inl rfl) (no _ k)
      · exact absurd (.inr rfl) (no _ k)
      · exact k
    have hv := ok.free _ (PySem.mem_of_lookup hf) rfl
    obtain ⟨m0, _, hl⟩ := I.loc
    obtain ⟨u, ru, q⟩ := hl i x v e1 e2 (.inr hv)
    refine ⟨u, ru, .inr ⟨.inr hf, ?_⟩⟩
    rcases q with ⟨k, _⟩ | ⟨_, c, ec, z⟩
    · have k' : X.env.scope.names.lookup x = some .local := k
      rcases hv with y | y
      · have y' : X.env.scope.names.lookup x = some .cell := y
        rw [k'] at y'
        cases y'
      · have y' : X.env.scope.names.lookup x = some .free := y
        rw [k'] at y'
        cases y'
    · obtain ⟨c', e'⟩ := ch hf
      have e2 := cm e'
      rw [ec] at e2
      cases e2
      exact ⟨c, e', z.keeps kp⟩
  · obtain ⟨v, z⟩ := I.cell x c (cm e)
    exact ⟨v, z.keeps kp⟩
  · have hp' : p ∈ [(a, go)] ++ ([] : List (Addr × Obj)) := hp
    have e : p = (a, go) := by simpa using hp'
    subst e
    refine ⟨ha, I.hok.fresh (Nat.le_of_lt ha1), Nat.ne_of_gt ha1, fun z => ?_, hd⟩
    exact Nat.lt_irrefl _ (Nat.lt_trans (stL _ z) ha1)
end
/-- what a turn's way through the generator must reach. stopb: the truth at which any (true), all (false) stops -/
def GEndP (Y : Cx) (σw : L2.St) (stopb : Bool) (Q : VK) : Nat → Shared → Shared → Prop := fun _ _ s => ∃ H', Inv Y [] σw H' s ∧ Q (.bl (!stopb)) H'
def GProto (Y : Cx) (σw : L2.St) (fp : List Addr) (tn : Nat → Heap → Prop) (W : Nat → Nat → Hp → Prop) (stopb : Bool) (Q : VK) : Protocol := fun n _ v s kap => ∃ (k : Bool) (H' : Hp), v = .bool k ∧ Inv Y [] σw H' s ∧
  ((k = stopb ∧ Q (.bl stopb) H') ∨ (k = !stopb ∧ ∃ i m, m < n ∧ W i m H' ∧ ∀ s'' : Shared, s''.heap = s.heap → s''.os = s.os → AllBare s''.gens → kap (.send .none) s''))
section
variable {X : Cx} {elt tg iter : Expr} {ifs : List Expr} {scope : Scope} {gpos : Pos} {s4 : Shared} {H4 : Hp} {cenv : Env} {it : Addr} {fp : List Addr} {pn : List (Addr × Obj)} {J : It} {tn : Nat → Heap → Prop} {g : TG} {tt : TT} {te : TE} {own : List Nat} {σ : L2.St} {stopb : Bool} {Q : VK} {W : Nat → Nat → Hp → Prop}
/-- the turns of the generator's own loop -/
theorem gen_loop (hc : X.calm = true) (hco : cenv.scope.isCoroutine = false) (T : Turn X.prog X.w X.K tg J fp it tn) (hpn : ∀ p ∈ pn, ∀ b ∈ fp, p.1 ≠ b)
    (pg : PG (gCx X (.GeneratorExp elt [⟨tg, iter, ifs, 0⟩] scope gpos) s4 H4 cenv it fp pn) tg g) (pt : PTs (gCx X (.GeneratorExp elt [⟨tg, iter, ifs, 0⟩] scope gpos) s4 H4 cenv it fp pn) ifs tt) (pe : PE (gCx X (.GeneratorExp elt [⟨tg, iter, ifs, 0⟩] scope gpos) s4 H4 cenv it fp pn) elt te)
    (turn : ∀ i m H, W i m H → (J.stop i H ∧ Q (.bl (!stopb)) H) ∨ (J.go i H ∧ ∃ Nx : Hp → Prop, (∀ H', Nx H' → ∃ m', m' < m ∧ W (i + 1) m' H') ∧ ∀ x H', J.yld i H x H' → g x (wipe σ own) H' fun σ2 H2 => wipe σ2 own = wipe σ own ∧ tt σ2 H2 fun b H3 =>
      if b = true then te σ2 H3 fun y H4 => (y = .bl stopb ∧ Q (.bl stopb) H4) ∨ (y = .bl (!stopb) ∧ Nx H4) else Nx H3)) :
    ∀ (m n i : Nat) (s0 s : Shared) (H' : Hp), m < n → W i m H' → Inv (gCx X (.GeneratorExp elt [⟨tg, iter, ifs, 0⟩] scope gpos) s4 H4 cenv it fp pn) [] (wipe σ own) H' s → tn i s.heap → (∀ b ∈ fp, H' b = none) →
      Seg (model X.prog X.w) X.A.in1.in1 (fun n s0 r s1 => r = .ok .next ∧ GEndP (gCx X (.GeneratorExp elt [⟨tg, iter, ifs, 0⟩] scope gpos) s4 H4 cenv it fp pn) (wipe σ own) stopb Q n s0 s1)
        (GProto (gCx X (.GeneratorExp elt [⟨tg, iter, ifs, 0⟩] scope gpos) s4 H4 cenv it fp pn) (wipe σ own) fp tn W stopb Q) n s0
        (.compLoop (.GeneratorExp elt [⟨tg, iter, ifs, 0⟩] scope gpos) 0 (.ref it) .none cenv) ((model X.prog X.w).den (.compLoop (.GeneratorExp elt [⟨tg, iter, ifs, 0⟩] scope gpos) 0 (.ref it) .none cenv)) [] s := by
  intro m
  induction m using Nat.strongRecOn with
  | ind m ih =>
    intro n i s0 s H' hmn w I st nf
    have fpk : ∀ {σ' : L2.St} {H' : Hp} {s' : Shared}, Inv (gCx X (.GeneratorExp elt [⟨tg, iter, ifs, 0⟩] scope gpos) s4 H4 cenv it fp pn) [] σ' H' s' → (∀ b ∈ fp, H' b = none) → ∀ b ∈ fp, FpOk (gCx X (.GeneratorExp elt [⟨tg, iter, ifs, 0⟩] scope gpos) s4 H4 cenv it fp pn) [] H' b := fun {σ' H' s'} I' hn b hb =>
      ⟨hn b hb, (I'.ok.exf b hb).1, I'.ok.exfs b hb, .inl hb, (I'.ok.exf b hb).2, fun p hp => hpn p (by simpa using hp) b hb⟩
    show Seg _ _ _ _ n s0 _ ((compTurn (.GeneratorExp elt [⟨tg, iter, ifs, 0⟩] scope gpos) 0 (.ref it) .none cenv).onRaise (leaving cenv)) [] s
    rw [compTurn_gen, Sem.onRaise_eq_wrap]
    refine seg_bind_wrap (wpAny_standAt ?_)
    rcases turn i m H' w with ⟨stop, q⟩ | ⟨go, Nx, hNx, step⟩
    · refine seg_bind_wrap (thnF (T.done (gCx X (.GeneratorExp elt [⟨tg, iter, ifs, 0⟩] scope gpos) s4 H4 cenv it fp pn) rfl rfl rfl hc i [] s _ H' (fun _ _ => False) I (fpk I nf) st stop) fun r s1 z => ?_)
      obtain ⟨rfl, I1⟩ := z
      exact seg_end (.ok .next) ⟨rfl, H', I1, q⟩
    · refine seg_bind_wrap (thnF (T.item (gCx X (.GeneratorExp elt [⟨tg, iter, ifs, 0⟩] scope gpos) s4 H4 cenv it fp pn) rfl rfl rfl hc i [] s _ H' (fun _ _ => False) I (fpk I nf) st go) fun r s1 z => ?_)
      obtain ⟨u, rfl, z⟩ := z
      refine seg_bind_wrap (thnF z fun _ s2 z2 => ?_)
      obtain ⟨x, H2, I2, r2, y2, st2, n2⟩ := z2
      have P2 := I2.pinned (fpk I2 n2) (T.obj _ _ st2)
      refine seg_bind_wrap (thnF (pg.run _ s2 _ H2 x u _ P2 r2 (step x H2 y2)) fun _ s3 z3 => ?_)
      obtain ⟨σ3, H3, I3, hw, q3⟩ := z3
      refine seg_bind_wrap (thnF (pt.run _ s3 σ3 H3 _ I3 q3) fun b sb zb => ?_)
      obtain ⟨Hb, Ib, qb⟩ := zb
      have back : ∀ {s' : Shared} {H' : Hp}, Inv (gCx X (.GeneratorExp elt [⟨tg, iter, ifs, 0⟩] scope gpos) s4 H4 cenv it fp pn) ([] ++ pinsAt fp s2.heap) σ3 H' s' →
          Inv (gCx X (.GeneratorExp elt [⟨tg, iter, ifs, 0⟩] scope gpos) s4 H4 cenv it fp pn) [] (wipe σ own) H' s' ∧ tn (i + 1) s'.heap ∧ ∀ b ∈ fp, H' b = none := fun {s' H'} I' => by
        have pin' : ∀ b ∈ fp, ∀ o, s2.heap.get? b = some o → s'.heap.get? b = some o ∧ H' b = none := fun b hb o e =>
          have y := I'.pin (b, o) (List.mem_append_right _ (List.mem_append_right _ (mem_pinsAt hb e)))
          ⟨y.1, y.2.1⟩
        have hl : (wipe σ own).length = σ3.length := by
          rw [← hw, wipe_length]
        refine ⟨(I'.unpinned (pins := [])).weak hl (fun j v e => ?_), T.keep _ _ _ st2 (fun b hb o e => (pin' b hb o e).1), fun b hb => ?_⟩
        · rw [← hw] at e
          exact (wipe_some e).1
        · obtain ⟨o, e, _⟩ := T.obj _ _ st2 b hb
          exact (pin' b hb o e).2
      cases b with
      | false =>
        simp only [Bool.false_eq_true, if_false] at qb ⊢
        obtain ⟨m', hm, w'⟩ := hNx _ qb
        obtain ⟨I', st', n'⟩ := back Ib
        exact seg_again rfl (ih m' hm n (i + 1) s0 sb Hb (Nat.lt_trans hm hmn) w' I' st' n')
      | true =>
        simp only [if_true] at qb ⊢
        have hy : ∀ v, yieldOut cenv v = yieldValue v := fun v => by simp only [yieldOut, hco, Bool.false_eq_true, if_false]
        simp only [hy]
        rw [Sem.bind_eq_wrap', Sem.bind_eq_wrap', Sem.wrap_wrap, Sem.wrap_wrap]
        refine seg_wrap (thnF (pe.run _ sb σ3 Hb _ Ib qb) fun z sy zy => ?_)
        obtain ⟨v, Hy, Iy, ry, qy⟩ := zy
        obtain ⟨I', st', n'⟩ := back Iy
        obtain ⟨n1, rfl⟩ : ∃ n1, n = n1 + 1 := ⟨n - 1, by omega⟩
        refine seg_at (seg_yield rfl rfl rfl ?_)
        rcases qy with ⟨rfl, q⟩ | ⟨rfl, q⟩
        · cases ry
          exact ⟨stopb, Hy, rfl, I', .inl ⟨rfl, q⟩⟩
        · cases ry
          obtain ⟨m', hm, w'⟩ := hNx _ q
          refine ⟨!stopb, Hy, rfl, I', .inr ⟨rfl, i + 1, m', by omega, w', fun s'' hh ho hb => ?_⟩⟩
          exact seg_again rfl (ih m' hm n1 (i + 1) s'' s'' Hy (by omega) w' (inv_gens I' hh ho hb) (by rw [hh]; exact st') n')
/-- the start of the generator's code -/
theorem gen_begin {n : Nat} {s0 s : Shared} {R : GenEnd} {Y : Protocol} (T : Turn X.prog X.w X.K tg J fp it tn) (st : tn 0 s.heap)
    (loop : Seg (model X.prog X.w) X.A.in1.in1 R Y n s0 (.compLoop (.GeneratorExp elt [⟨tg, iter, ifs, 0⟩] scope gpos) 0 (.ref it) .none cenv) ((model X.prog X.w).den (.compLoop (.GeneratorExp elt [⟨tg, iter, ifs, 0⟩] scope gpos) 0 (.ref it) .none cenv)) [] s) :
    Seg (model X.prog X.w) X.A.in1.in1 R Y n s0 (.compStart (.GeneratorExp elt [⟨tg, iter, ifs, 0⟩] scope gpos) 0 (.ref it) .none cenv) ((model X.prog X.w).den (.compStart (.GeneratorExp elt [⟨tg, iter, ifs, 0⟩] scope gpos) 0 (.ref it) .none cenv)) [] s := by
  show Seg _ _ _ _ n s0 _ ((compStart (.GeneratorExp elt [⟨tg, iter, ifs, 0⟩] scope gpos) 0 (.ref it) .none cenv).onRaise (leaving cenv)) [] s
  unfold compStart
  rw [Sem.onRaise_eq_wrap]
  refine seg_bind_wrap (wpAny_askSetting ?_)
  split
  · exact seg_again rfl loop
  · refine seg_bind_wrap (wpAny_rule ?_)
    show Seg _ _ _ _ n s0 _ ((standAt iter.pos >>= _).wrap _ _ _ _) [] s
    refine seg_bind_wrap (wpAny_standAt (seg_bind_wrap ?_))
    exact T.self _ 0 s _ _ st (seg_again rfl loop)
end
/-- the generator at a, number gn, is asleep (or fresh), with n turns at most -/
def Asleep (X Y : Cx) (σw : L2.St) (fp : List Addr) (tn : Nat → Heap → Prop) (W : Nat → Nat → Hp → Prop) (stopb : Bool) (Q : VK) (gn n : Nat) (s : Shared) : Prop :=
  ∃ (gs : GenState) (H' : Hp), s.gens[gn]? = some gs ∧ Inv Y [] σw H' s ∧ ∀ s'' : Shared, s''.heap = s.heap → s''.os = s.os → AllBare s''.gens →
    gs.Goes (model X.prog X.w) X.A.in1.in1 (fun n s0 r s1 => r = .ok .next ∧ GEndP Y σw stopb Q n s0 s1) (GProto Y σw fp tn W stopb Q) n (.send .none) s''
section
variable {X Y : Cx} {σw : L2.St} {fp : List Addr} {tn : Nat → Heap → Prop} {W : Nat → Nat → Hp → Prop} {Q : VK} {gn : Nat} {a : Addr} {go : Obj} {R : Result → Shared → Prop}
theorem set_at {s : Shared} {x : GenState} (h : gn < s.gens.size) : (s.setGen gn x).gens[gn]? = some x := by
  show (s.gens.setIfInBounds gn x)[gn]? = some x
  rw [Array.getElem?_setIfInBounds_self_of_lt h]
/-- one waking of the generator -/
theorem wake {stopb : Bool} {n : Nat} {s : Shared} {Q' : Option Value → Shared → Prop} {E : Value → Shared → Prop} (hh : X.A.handled = none) (hroom : X.A.depth < recursionLimit) (hp : (a, go) ∈ Y.pn) (hgo : ∀ h : Heap, h.get? a = some go → h.IsGen a gn) (S : Asleep X Y σw fp tn W stopb Q gn n s)
    (stop : ∀ s' H', Inv Y [] σw H' s' → Q (.bl stopb) H' → Q' (some (.bool stopb)) s') (next : ∀ s' m, m < n → Asleep X Y σw fp tn W stopb Q gn m s' → Q' (some (.bool (!stopb))) s') (done : ∀ s' H', Inv Y [] σw H' s' → Q (.bl (!stopb)) H' → Q' none s') :
    wpAny (model X.prog X.w) X.A.in1 (pyNext (.ref a)) Q' E s := by
  obtain ⟨gs, H', hg, I, hG⟩ := S
  have hlt : gn < s.gens.size := by
    rcases Nat.lt_or_ge gn s.gens.size with z | z
    · exact z
    · rw [Array.getElem?_eq_none z] at hg
      cases hg
  have ig : s.heap.IsGen a gn := hgo _ (I.pin (a, go) (List.mem_append_left _ hp)).1
  refine GenW.wpAny_gsz (n := s.gens.size) (Nat.le_refl _) ?_
  refine wpAny_pyNext_genexpQ (A := X.A.in1) hh I.nolimit hroom ig hg (hG _ rfl rfl (bare_set I.bare rfl)) (fun v s1 gs' hb hv sz => ?_) (fun s1 hp1 h' hk sz => ?_)
  · obtain ⟨k, H1, rfl, I1, z⟩ := hv
    have sz1 : gn < s1.gens.size := by
      have e : (s1.setGen gn gs').gens.size = s1.gens.size := GenW.setGen_size _ _ _
      rw [e] at sz
      omega
    have I2 : Inv Y [] σw H1 (s1.setGen gn gs') := inv_gens I1 rfl rfl (bare_set I1.bare hb)
    rcases z with ⟨rfl, q⟩ | ⟨rfl, i, m, hm, w, kap⟩
    · exact stop _ H1 I2 q
    · cases n with
      | zero => omega
      | succ n1 =>
        refine next _ n1 (Nat.lt_succ_self _) ⟨gs', H1, set_at sz1, I2, fun s'' h1 h2 h3 => ?_⟩
        exact kap s'' h1 h2 h3
  · obtain ⟨H1, I1, q⟩ := hp1
    refine done _ H1 ?_ q
    have I2 : Inv Y [] σw H1 (s1.setGen gn .finished) := inv_gens I1 rfl rfl (bare_set I1.bare rfl)
    exact I2.kept (h' := h') (t' := s1.toks) fun b o e => hk b o e
theorem any_loop (hh : X.A.handled = none) (hroom : X.A.depth < recursionLimit) (hp : (a, go) ∈ Y.pn) (hgo : ∀ h : Heap, h.get? a = some go → h.IsGen a gn)
    (fin : ∀ s' H' b, Inv Y [] σw H' s' → Q (.bl b) H' → R (.ok (.ret (.bool b))) s') : ∀ (n : Nat) (s : Shared), Asleep X Y σw fp tn W true Q gn n s → codeAny (model X.prog X.w) X.A (.builtin "any.loop" ⟨[.ref a], []⟩) R s := by
  intro n
  induction n using Nat.strongRecOn with
  | ind n ih =>
    intro s S
    refine codeAny_builtin F.entry_any_loop ?_
    rw [Around.under_plainId F.plain_any_loop _]
    show wpAny _ X.A.in1 (pyNext (.ref a) >>= _) _ _ s
    refine wpAny_bind (wake hh hroom hp hgo S (fun s' H' I q => ?_) (fun s' m hm S' => ?_) (fun s' H' I q => ?_))
    · refine wpAny_bind (wpAny_holding (wpAny_truthy_bool (wpAny_bind (wpAny_letGo ?_))))
      simp only [if_true]
      exact wpAny_bind (wpAny_rule (wpAny_pure (fin s' H' true I q)))
    · refine wpAny_bind (wpAny_holding (wpAny_truthy_bool (wpAny_bind (wpAny_letGo ?_))))
      simp only [Bool.not_true, Bool.false_eq_true, if_false]
      exact wpAny_pure ⟨plainId_quiet F.plain_any_loop _, ih m hm s' S'⟩
    · exact wpAny_bind (wpAny_rule (wpAny_pure (fin s' H' false I q)))
theorem all_loop (hh : X.A.handled = none) (hroom : X.A.depth < recursionLimit) (hp : (a, go) ∈ Y.pn) (hgo : ∀ h : Heap, h.get? a = some go → h.IsGen a gn)
    (fin : ∀ s' H' b, Inv Y [] σw H' s' → Q (.bl b) H' → R (.ok (.ret (.bool b))) s') : ∀ (n : Nat) (s : Shared), Asleep X Y σw fp tn W false Q gn n s → codeAny (model X.prog X.w) X.A (.builtin "all.loop" ⟨[.ref a], []⟩) R s := by
  intro n
  induction n using Nat.strongRecOn with
  | ind n ih =>
    intro s S
    refine codeAny_builtin F.entry_all_loop ?_
    rw [Around.under_plainId F.plain_all_loop _]
    show wpAny _ X.A.in1 (pyNext (.ref a) >>= _) _ _ s
    refine wpAny_bind (wake hh hroom hp hgo S (fun s' H' I q => ?_) (fun s' m hm S' => ?_) (fun s' H' I q => ?_))
    · refine wpAny_bind (wpAny_holding (wpAny_truthy_bool (wpAny_bind (wpAny_letGo ?_))))
      simp only [Bool.false_eq_true, if_false]
      exact wpAny_bind (wpAny_rule (wpAny_pure (fin s' H' false I q)))
    · refine wpAny_bind (wpAny_holding (wpAny_truthy_bool (wpAny_bind (wpAny_letGo ?_))))
      simp only [Bool.not_false, if_true]
      exact wpAny_pure ⟨plainId_quiet F.plain_all_loop _, ih m hm s' S'⟩
    · exact wpAny_bind (wpAny_rule (wpAny_pure (fin s' H' true I q)))
end
/-- any(elt for target in iter if ..) (stopb true), all(..) (stopb false): W by the turn and a measure, Nx what a turn is to reach; P: the def's table of code objects -/
def tAA (P : Addr) (stopb : Bool) (wi : TI) (g : TG) (tt : TT) (te : TE) (vs : List Nat) : TE := fun σ H Q => wi σ H fun J H1 => TabG H1 P ∧ ∀ H2, Tabbed P H1 H2 → ∃ W : Nat → Nat → Hp → Prop, (∃ m, W 0 m H2) ∧
  ∀ i m H, W i m H → (J.stop i H ∧ Q (.bl (!stopb)) H) ∨ (J.go i H ∧ ∃ Nx : Hp → Prop, (∀ H', Nx H' → ∃ m', m' < m ∧ W (i + 1) m' H') ∧ ∀ x H', J.yld i H x H' → g x (wipe σ vs) H' fun σ2 H2 => wipe σ2 vs = wipe σ vs ∧ tt σ2 H2 fun b H3 =>
    if b = true then te σ2 H3 fun y H4 => (y = .bl stopb ∧ Q (.bl stopb) H4) ∨ (y = .bl (!stopb) ∧ Nx H4) else Nx H3)
/-- over a tuple that stays -/
theorem aa_tup {K : PySem.W.Frag} {a : Addr} {xs : List V} {g : TG} {tt : TT} {te : TE} {vs : List Nat} {σ : L2.St} {H1 : Hp} {stopb : Bool} {Q : VK} (Pv : Nat → Hp → Prop) (h0 : Pv 0 H1) (hl : ∀ i H, i ≤ xs.length → Pv i H → SqT K H a xs)
    (hs : ∀ i x H, xs[i]? = some x → Pv i H → g x (wipe σ vs) H fun σ2 H2 => wipe σ2 vs = wipe σ vs ∧ tt σ2 H2 fun b H3 => if b = true then te σ2 H3 fun y H4 => (y = .bl stopb ∧ Q (.bl stopb) H4) ∨ (y = .bl (!stopb) ∧ Pv (i + 1) H4) else Pv (i + 1) H3) (hd : ∀ H, Pv xs.length H → Q (.bl (!stopb)) H) :
    ∃ W : Nat → Nat → Hp → Prop, (∃ m, W 0 m H1) ∧ ∀ i m H, W i m H → ((Itt K a).stop i H ∧ Q (.bl (!stopb)) H) ∨ ((Itt K a).go i H ∧ ∃ Nx : Hp → Prop, (∀ H', Nx H' → ∃ m', m' < m ∧ W (i + 1) m' H') ∧ ∀ x H', (Itt K a).yld i H x H' → g x (wipe σ vs) H' fun σ2 H2 => wipe σ2 vs = wipe σ vs ∧ tt σ2 H2 fun b H3 =>
      if b = true then te σ2 H3 fun y H4 => (y = .bl stopb ∧ Q (.bl stopb) H4) ∨ (y = .bl (!stopb) ∧ Nx H4) else Nx H3) := by
  refine ⟨fun i m H => i + m = xs.length ∧ Pv i H, ⟨xs.length, Nat.zero_add _, h0⟩, fun i m H ⟨e, p⟩ => ?_⟩
  have sq := hl i H (by omega) p
  cases m with
  | zero =>
    have ei : i = xs.length := by omega
    subst ei
    exact .inl ⟨⟨xs, sq, Nat.le_refl _⟩, hd H p⟩
  | succ m =>
    have lt : i < xs.length := by omega
    refine .inr ⟨⟨xs, xs[i], sq, List.getElem?_eq_getElem lt⟩, Pv (i + 1), fun H' q => ⟨m, Nat.lt_succ_self m, by omega, q⟩, fun x H' y => ?_⟩
    obtain ⟨rfl, y⟩ := y
    exact hs i x _ (y xs sq) p
section
variable {X : Cx} {pins : List (Addr × Obj)} {σ : L2.St} {H : Hp} {s : Shared} {c P : Addr} {elt tg iter : Expr} {ifs : List Expr} {scope : Scope} {own : List (Str × Nat)} {gpos : Pos} {wi : TI} {g : TG} {tt : TT} {te : TE} {stopb : Bool} {k : Nat}
/-- the scope of a generator expression: no cells of its own -/
structure GSc (scope : Scope) : Prop where
  co : scope.isCoroutine = false
  nc : ∀ y ∈ scope.names, y.2 ≠ .cell
  dot : scope.names.lookup (".0" : Str) = some NameKind.local
theorem gen_make {Q : VK} {Q' : Value → Shared → Prop} (hr : Room k X.A) (hc : X.calm = true) (hN : X.N.Nodup) (TB : TabB X.base X.mg c P) (hcode : X.env.code = .ref c) (hi : PI X tg iter wi) (ok : BlkOk X.N X.env.scope scope own) (S : GSc scope)
    (hg : ∀ (s : Shared) (H : Hp) (C : Addr) (code : Value) (it : Addr) (fp : List Addr) (pn : List (Addr × Obj)), PG (gCx X (.GeneratorExp elt [⟨tg, iter, ifs, 0⟩] scope gpos) s H (genEnv scope (cloFrom X.env.cells scope.names []) C code builtinsNs X.env) it fp pn) tg g)
    (ht : ∀ (s : Shared) (H : Hp) (C : Addr) (code : Value) (it : Addr) (fp : List Addr) (pn : List (Addr × Obj)), PTs (gCx X (.GeneratorExp elt [⟨tg, iter, ifs, 0⟩] scope gpos) s H (genEnv scope (cloFrom X.env.cells scope.names []) C code builtinsNs X.env) it fp pn) ifs tt)
    (he : ∀ (s : Shared) (H : Hp) (C : Addr) (code : Value) (it : Addr) (fp : List Addr) (pn : List (Addr × Obj)), PE (gCx X (.GeneratorExp elt [⟨tg, iter, ifs, 0⟩] scope gpos) s H (genEnv scope (cloFrom X.env.cells scope.names []) C code builtinsNs X.env) it fp pn) elt te)
    (hs : ∀ x, genFold iter X.env x = pure x) (I : Inv X pins σ H s) (h : tAA P stopb wi g tt te (own.map (·.2)) σ H Q)
    (hQ : ∀ (a : Addr) (go : Obj) (gn n : Nat) (Y : Cx) (fp : List Addr) (tn : Nat → Heap → Prop) (W : Nat → Nat → Hp → Prop) (s5 : Shared), (a, go) ∈ Y.pn → (∀ h : Heap, h.get? a = some go → h.IsGen a gn) → (∀ s' H', Inv Y [] (wipe σ (own.map (·.2))) H' s' → Inv X pins σ H' s') → s5.heap.get? a = some go →
      Asleep X Y (wipe σ (own.map (·.2))) fp tn W stopb Q gn n s5 → Q' (.ref a) s5) :
    wpAny (model X.prog X.w) X.A (eval (.GeneratorExp elt [⟨tg, iter, ifs, 0⟩] scope gpos) X.env) Q' X.xe s := by
  have hfree : ∀ y ∈ scope.names, y.2 = .free → ∃ c, X.env.cells.lookup y.1 = some c := fun y hy e => by
    rcases ok.free y hy e with z | z
    · exact I.ok.has _ (.inl z)
    · exact I.ok.has _ (.inr z)
  refine wpAny_GeneratorExp_make S.co (closure_ok hfree) S.nc S.dot ok.kind (by have := hr.dp; omega) (thn (hi.run pins s σ H _ I h) fun xv s1 hx => thn hx fun itv s2 h2 => ?_) hs
  obtain ⟨it, fp, tn, J, H2, rfl, I2, T, st2, f2, ⟨ps, hP, hT⟩, q⟩ := h2
  have hPs : s2.heap.get? P = some { cls := .none, data := .fields ps } := I2.hok P _ hP
  have cd : PySem.W.CodeHd s2.heap c P := TB.code.keeps I2.bk
  have szf : ∀ b ∈ fp, b < s2.heap.objs.size := fun b hb => by
    obtain ⟨o, e, _⟩ := T.obj _ _ st2 b hb
    exact Heap.lt_size e
  have nP : ∀ b ∈ fp, b ≠ P := fun b hb z => by
    have e := (f2 b hb).1
    rw [z, hP] at e
    cases e
  refine ⟨I2.nolimit, ?_⟩
  have cont : ∀ (code : Value) (h3 : Heap) (tk : Nat) (more : Array Value), Heap.ExtBut P s2.heap h3 → s2.heap.objs.size ≤ h3.objs.size → h3.get? P = some { cls := .none, data := .fields (ps ++ more) } → TriplesOk (ps ++ more).toList →
      wpAny (model X.prog X.w) X.A (builtinsFor X.env.globals X.env.builtins) (fun bi s4 => ∀ h', h'.Ns s4.heap.objs.size (fun y => if y = ".0" then some (.ref it) else none) → Heap.SameBut s4.heap.objs.size (s4.heap.push { cls := .type "frame", data := .dict #[] }) h' →
        Q' (.ref h'.objs.size) { s4 with
          gens := s4.gens.push (.fresh (.compStart (.GeneratorExp elt [⟨tg, iter, ifs, 0⟩] scope gpos) 0 (.ref it) .none (genEnv scope (cloFrom X.env.cells scope.names []) s4.heap.objs.size code bi X.env))),
          toks := s4.toks + 1 + 1 + 1,
          heap := h'.push { cls := .type "generator", data := .fields #[.int s4.gens.size 0, .str "<genexpr>" (s4.toks + 1), .str (X.env.qual ++ "<genexpr>") (s4.toks + 1 + 1)] } }) X.xe { s2 with heap := h3, toks := tk } := by
    intro code h3 tk more hx hsz hP3 hT3
    obtain ⟨bm, ob, e1, e2, e3, e4, e5, e6, e7, e8⟩ := TB.bm
    have I3 : Inv X pins σ (upd H2 P (.tbl (ps ++ more))) { s2 with heap := h3, toks := tk } := inv_tab (g' := s2.gens) (d' := s2.drawn) (t' := tk) I2 hP (fun b o hb e => hx b o hb e) hP3 I2.bare
    have f3 : ∀ b ∈ fp, FpOk X pins (upd H2 P (.tbl (ps ++ more))) b ∧ b < h3.objs.size := fun b hb => ⟨⟨by rw [upd_ne (nP b hb)]; exact (f2 b hb).1, (f2 b hb).2⟩, Nat.lt_of_lt_of_le (szf b hb) hsz⟩
    have st3 : tn 0 h3 := T.keep _ _ _ st2 fun b hb o e => hx b o (nP b hb) e
    obtain ⟨W, ⟨m0, w0⟩, turn⟩ := q (upd H2 P (.tbl (ps ++ more))) ⟨⟨_, upd_same, hT3⟩, fun b hb => upd_ne hb⟩
    refine wpAny_builtinsFor (m := X.mg) (by rw [I3.ok.glob]; exact I3.mod.glob.keeps I3.bk) e1 e2 (hx _ _ e4 (I2.bk _ _ e5)) e6 e7 e8 ?_
    intro h' hn' hs'
    have hsz' : h'.objs.size = h3.objs.size + 1 := by
      rw [hs'.1]
      exact Heap.size_push ..
    have kp : ∀ b o, h3.get? b = some o → (h'.push { cls := .type "generator", data := .fields #[.int s2.gens.size 0, .str "<genexpr>" (tk + 1), .str (X.env.qual ++ "<genexpr>") (tk + 1 + 1)] }).get? b = some o := fun b o e =>
      Heap.get?_push_of_some _ (hs'.extBut b o (Nat.ne_of_lt (Heap.lt_size e)) (Heap.get?_push_of_some _ e))
    have st5 := T.keep _ _ _ st3 fun b hb o e => kp b o e
    have nf : ∀ b ∈ fp, (upd H2 P (.tbl (ps ++ more))) b = none := fun b hb => (f3 b hb).1.1
    have IG := gen_start (ge := .GeneratorExp elt [⟨tg, iter, ifs, 0⟩] scope gpos) (it := it) (code := code) (tk := tk + 1 + 1 + 1)
      (gs := s2.gens.push (.fresh (.compStart (.GeneratorExp elt [⟨tg, iter, ifs, 0⟩] scope gpos) 0 (.ref it) .none (genEnv scope (cloFrom X.env.cells scope.names []) h3.objs.size code builtinsNs X.env)))) I3 hc ok hN S.nc f3
      (by show pushEnvs [_] (pushEnvs [] X.A.frames) = _; rw [I.ok.frames]; rfl) (I2.bare.push rfl) kp (hn'.keeps fun b o e => Heap.get?_push_of_some _ e) (Heap.get?_push_size h' rfl) (show h3.objs.size < h'.objs.size by omega) (fun v z => by cases z)
    refine hQ h'.objs.size _ s2.gens.size (m0 + 1) _ fp tn W _ List.mem_cons_self (fun h0 e => ?_) (fun s' H' J' => ?_) (Heap.get?_push_size h' rfl) ⟨_, _, Array.getElem?_push_size .., IG, fun s'' h1 h2 h3' => ?_⟩
    · exact ⟨_, _, _, e, rfl, rfl, rfl⟩
    · exact I3.call' (ch := fp) J'.os J'.base J'.hok J'.bare fun b hb => ⟨(f3 b hb).1.2.2.2.1, (f3 b hb).1.2.1, (f3 b hb).1.2.2.2.2.1, (f3 b hb).1.2.2.2.2.2⟩
    · refine ⟨rfl, gen_begin T (by rw [h1]; exact st5) ?_⟩
      refine gen_loop hc S.co T (fun p hp b hb z => ?_) (hg _ _ _ _ _ _ _) (ht _ _ _ _ _ _ _) (he _ _ _ _ _ _ _) turn m0 (m0 + 1) 0 s'' s'' _ (Nat.lt_succ_self _) w0 (inv_gens IG h1 h2 h3') (by rw [h1]; exact st5) nf
      rw [List.mem_singleton.mp hp] at z
      have z1 := (f3 b hb).2
      rw [← z] at z1
      have z2 : h'.objs.size < h3.objs.size := z1
      omega
  cases hf : codeAmong gpos ps.toList with
  | none =>
    refine wpAny_genexprCodeX hcode (cd.code hPs hT) (cd.tab hPs) hf fun c' h' tk hx hge hlt hco' _ htab' _ => ?_
    have tr : TriplesOk (ps ++ #[rawInt gpos.line, rawInt gpos.col, Value.ref c']).toList := by
      obtain ⟨_, _, _, _, _, _, _, _, _, _, _, _, _, _, _, _, _, _, _, z, _⟩ := hco'
      exact z
    exact cont _ h' tk _ hx (Nat.le_trans hge (Nat.le_of_lt hlt)) htab'.2 tr
  | some cv =>
    refine wpAny_genexprCode_hit hcode (cd.code hPs hT) hf ?_
    exact cont cv s2.heap s2.toks #[] (Heap.ExtBut.refl _ _) (Nat.le_refl _) (by rw [Array.append_empty]; exact hPs) (by rw [Array.append_empty]; exact hT)
theorem pe_any {p pos : Pos} (hr : Room k X.A) (hb : Gl X "any") (hm : X.mg "any" = none) (hc : X.calm = true) (hN : X.N.Nodup) (TB : TabB X.base X.mg c P) (hcode : X.env.code = .ref c) (hi : PI X tg iter wi) (ok : BlkOk X.N X.env.scope scope own) (S : GSc scope)
    (hg : ∀ (s : Shared) (H : Hp) (C : Addr) (code : Value) (it : Addr) (fp : List Addr) (pn : List (Addr × Obj)), PG (gCx X (.GeneratorExp elt [⟨tg, iter, ifs, 0⟩] scope gpos) s H (genEnv scope (cloFrom X.env.cells scope.names []) C code builtinsNs X.env) it fp pn) tg g)
    (ht : ∀ (s : Shared) (H : Hp) (C : Addr) (code : Value) (it : Addr) (fp : List Addr) (pn : List (Addr × Obj)), PTs (gCx X (.GeneratorExp elt [⟨tg, iter, ifs, 0⟩] scope gpos) s H (genEnv scope (cloFrom X.env.cells scope.names []) C code builtinsNs X.env) it fp pn) ifs tt)
    (he : ∀ (s : Shared) (H : Hp) (C : Addr) (code : Value) (it : Addr) (fp : List Addr) (pn : List (Addr × Obj)), PE (gCx X (.GeneratorExp elt [⟨tg, iter, ifs, 0⟩] scope gpos) s H (genEnv scope (cloFrom X.env.cells scope.names []) C code builtinsNs X.env) it fp pn) elt te)
    (hs : ∀ x, genFold iter X.env x = pure x := by intro _; rfl)
    (hst : starEach [.GeneratorExp elt [⟨tg, iter, ifs, 0⟩] scope gpos] X.env = (false, eval (.GeneratorExp elt [⟨tg, iter, ifs, 0⟩] scope gpos) X.env) :: starEach [] X.env := by rfl) :
    PE X (.Call (.Name "any" p) [.GeneratorExp elt [⟨tg, iter, ifs, 0⟩] scope gpos] [] pos) (tAA P true wi g tt te (own.map (·.2))) := by
  refine ⟨fun pins s σ H Q I h => wpAny_Call_Name_kw (ld_blt I hb hm boot_any (PyProof.Rows.callWith_builtin1 ?_ hst (by rfl)))⟩
  rw [hst]
  refine Calls.spliced_cons (gen_make hr hc hN TB hcode hi ok S hg ht he hs I h fun a go gn n Y fp tn W s5 h1 h2 h3 h4 SL => Calls.spliced_nil ?_)
  refine call_function_tree F.kind_any F.plain_any F.entry_any (F.args_any1 _) ?_
  unfold Builtin.«any»
  refine wpAny_bind (m := oneArg "any" _) (wpAny_pure (wpAny_bind (wpAny_pyIter_gen (h2 _ h4) (wpAny_pure ⟨plainId_quiet F.plain_any_loop _, ?_⟩))))
  exact any_loop (I.ok.hd hc) hr.depth h1 h2 (fun s' H' b J q => ⟨.bl b, H', h3 s' H' J, rfl, q⟩) n s5 SL
theorem pe_all {p pos : Pos} (hr : Room k X.A) (hb : Gl X "all") (hm : X.mg "all" = none) (hc : X.calm = true) (hN : X.N.Nodup) (TB : TabB X.base X.mg c P) (hcode : X.env.code = .ref c) (hi : PI X tg iter wi) (ok : BlkOk X.N X.env.scope scope own) (S : GSc scope)
    (hg : ∀ (s : Shared) (H : Hp) (C : Addr) (code : Value) (it : Addr) (fp : List Addr) (pn : List (Addr × Obj)), PG (gCx X (.GeneratorExp elt [⟨tg, iter, ifs, 0⟩] scope gpos) s H (genEnv scope (cloFrom X.env.cells scope.names []) C code builtinsNs X.env) it fp pn) tg g)
    (ht : ∀ (s : Shared) (H : Hp) (C : Addr) (code : Value) (it : Addr) (fp : List Addr) (pn : List (Addr × Obj)), PTs (gCx X (.GeneratorExp elt [⟨tg, iter, ifs, 0⟩] scope gpos) s H (genEnv scope (cloFrom X.env.cells scope.names []) C code builtinsNs X.env) it fp pn) ifs tt)
    (he : ∀ (s : Shared) (H : Hp) (C : Addr) (code : Value) (it : Addr) (fp : List Addr) (pn : List (Addr × Obj)), PE (gCx X (.GeneratorExp elt [⟨tg, iter, ifs, 0⟩] scope gpos) s H (genEnv scope (cloFrom X.env.cells scope.names []) C code builtinsNs X.env) it fp pn) elt te)
    (hs : ∀ x, genFold iter X.env x = pure x := by intro _; rfl)
    (hst : starEach [.GeneratorExp elt [⟨tg, iter, ifs, 0⟩] scope gpos] X.env = (false, eval (.GeneratorExp elt [⟨tg, iter, ifs, 0⟩] scope gpos) X.env) :: starEach [] X.env := by rfl) :
    PE X (.Call (.Name "all" p) [.GeneratorExp elt [⟨tg, iter, ifs, 0⟩] scope gpos] [] pos) (tAA P false wi g tt te (own.map (·.2))) := by
  refine ⟨fun pins s σ H Q I h => wpAny_Call_Name_kw (ld_blt I hb hm (show bootBuiltins "all" = some (.builtin "all") by decide +kernel) (PyProof.Rows.callWith_builtin1 ?_ hst (by rfl)))⟩
  rw [hst]
  refine Calls.spliced_cons (gen_make hr hc hN TB hcode hi ok S hg ht he hs I h fun a go gn n Y fp tn W s5 h1 h2 h3 h4 SL => Calls.spliced_nil ?_)
  refine call_function_tree F.kind_all F.plain_all F.entry_all (F.args_all1 _) ?_
  unfold Builtin.«all»
  refine wpAny_bind (m := oneArg "all" _) (wpAny_pure (wpAny_bind (wpAny_pyIter_gen (h2 _ h4) (wpAny_pure ⟨plainId_quiet F.plain_all_loop _, ?_⟩))))
  exact all_loop (I.ok.hd hc) hr.depth h1 h2 (fun s' H' b J q => ⟨.bl b, H', h3 s' H' J, rfl, q⟩) n s5 SL
end
end Gx
namespace Dr
open PySem PySem.Spec PyProof.Rows L2
/-! ### the drawing of numbers: smixed, sdraw, sopen -/
def topS (i : Nat) : Stmt := PySem.Challenge.pw_sparecut_k54_tellings_spared.main.body.getD i (.Pass ⟨0, 0, 0, 0⟩)
abbrev sFre : Stmt := topS 18
abbrev sDrw : Stmt := topS 19
abbrev sOpn : Stmt := topS 17
theorem scFre : FnScope ["pen", "at", "cell", "one", "two", "mixed", "other"] ["pen"] (defScope sFre) := ⟨rfl, rfl, rfl, by decide +kernel, rfl, by decide +kernel, by decide +kernel⟩
theorem scDrw : FnScope ["pen", "many", "found"] ["pen", "many"] (defScope sDrw) := ⟨rfl, rfl, rfl, by decide +kernel, rfl, by decide +kernel, by decide +kernel⟩
theorem scOpn : FnScope ["script"] ["script"] (defScope sOpn) := ⟨rfl, rfl, rfl, by decide +kernel, rfl, by decide +kernel, by decide +kernel⟩
/-- the built-ins that stand as they stood -/
structure Zp (mg : Str → Option Value) : Prop where
  z_len : mg "len" = none
  z_list : mg "list" = none
/-- what lies at f: cells (at c), a place, a rest; at most B cells were taken -/
def Feed (H : Hp) (f c : Addr) (B : Nat) : Prop := ∃ (ns : List Int) (n : Nat) (r : Int),
  H f = some (.lst [.ref c, .int n, .int r]) ∧ H c = some (.lst (ns.map V.int)) ∧ ns.length ≤ 60 ∧ n ≤ B
/-- all but f is as it was -/
def But (f : Addr) (H H' : Hp) : Prop := ∀ b, b ≠ f → H' b = H b
theorem But.refl (f : Addr) (H : Hp) : But f H H := fun _ _ => rfl
theorem But.trans {f : Addr} {H H1 H2 : Hp} (a : But f H H1) (b : But f H1 H2) : But f H H2 := fun x n => (b x n).trans (a x n)
theorem Feed.mono {H : Hp} {f c : Addr} {B B' : Nat} (h : Feed H f c B) (l : B ≤ B') : Feed H f c B' := by
  obtain ⟨ns, n, r, h1, h2, h3, h4⟩ := h
  exact ⟨ns, n, r, h1, h2, h3, Nat.le_trans h4 l⟩
theorem Feed.same {H H' : Hp} {f c : Addr} {B : Nat} (h : Feed H f c B) (s : Same H H') : Feed H' f c B := by
  obtain ⟨ns, n, r, h1, h2, h3, h4⟩ := h
  exact ⟨ns, n, r, s _ _ h1, s _ _ h2, h3, h4⟩
theorem Feed.upd {H : Hp} {f c D : Addr} {B : Nat} {o : HO} (h : Feed H f c B) (nf : D ≠ f) (nc : D ≠ c) : Feed (upd H D o) f c B := by
  obtain ⟨ns, n, r, h1, h2, h3, h4⟩ := h
  exact ⟨ns, n, r, by rw [upd_ne (Ne.symm nf)]; exact h1, by rw [upd_ne (Ne.symm nc)]; exact h2, h3, h4⟩
theorem Feed.nf {H : Hp} {f c D : Addr} {B : Nat} (h : Feed H f c B) (n : H D = none) : D ≠ f := by
  obtain ⟨_, _, _, h1, _⟩ := h
  exact Ne.symm (ne_of_none h1 n)
theorem Feed.nc {H : Hp} {f c D : Addr} {B : Nat} (h : Feed H f c B) (n : H D = none) : D ≠ c := by
  obtain ⟨_, _, _, _, h2, _⟩ := h
  exact Ne.symm (ne_of_none h2 n)
theorem feed_ne {H : Hp} {f c : Addr} {ns : List Int} {a : V} {as : List V} (h1 : H f = some (.lst (.ref c :: as))) (h2 : H c = some (.lst (ns.map V.int))) : c ≠ f := by
  intro e
  rw [e, h1] at h2
  have z := HO.lst.inj (Option.some.inj h2)
  cases ns with
  | nil => cases z
  | cons x r => cases z
section
variable {P : Program} {w : World} {K : PySem.W.Frag} {mg : Str → Option Value} {base : Heap}
/-- sopen(script) -/
def spOpn (K : PySem.W.Frag) : Sp := fun vs H Q _ => ∃ (a : Addr) (ns : List Int), vs = [.ref a] ∧ SqL K H a (ns.map V.int) ∧ ∀ (f c : Addr) (H' : Hp), H f = none → H c = none → Same H H' → Feed H' f c 0 → Q (.ref f) H'
theorem cut60 (ns : List Int) : cutV (ns.map V.int) none (some 60) = (ns.take 60).map V.int := by
  unfold cutV
  rw [HT.sIx_none, show HT.sIx (ns.map V.int).length (ns.map V.int).length (some 60) = min 60 (ns.map V.int).length from HT.sIx_nat _ _ 60]
  rw [List.drop_zero, Nat.sub_zero, List.map_take, List.length_map]
  by_cases h : ns.length ≤ 60
  · rw [Nat.min_eq_right h, List.take_of_length_le (by rw [List.length_map]; exact Nat.le_refl _), List.take_of_length_le (by rw [List.length_map]; exact h)]
  · rw [Nat.min_eq_left (by omega)]
theorem same_upd {H : Hp} {p : Addr} {o : HO} (h : H p = none) : Same H (upd H p o) := fun b x e => by
  rw [upd_ne (ne_of_none e h)]
  exact e
theorem ok_opn {f : Addr} {fd : FuncData} {k : Nat} (F : Fun K "_law_e_pen" "_law_e_pen" sOpn f fd) (ml : mg "list" = none) : FnOk P w K mg base CX0 (k + 1) f fd ["script"] (spOpn K) := by
  refine F.ok scOpn (fun vs H Q E h => ?_) (fun cdv A outer s H vs Q E hr h => ?_)
  · obtain ⟨a, ns, rfl, _⟩ := h
    rfl
  · obtain ⟨a, ns, rfl, hS, q⟩ := h
    refine ⟨_, pss_one (ps_ret (pe_lst (pa_cons (pe_callTy call_list_of (by rfl) ml (by decide +kernel) (pa_cons (pe_slice sl_list (pv 0) po_none (po_some pe_int)) pa_nil)) (pa_cons pe_int (pa_cons pe_int pa_nil))))), ?_⟩
    refine ⟨.ref a, rfl, 60, rfl, a, _, rfl, hS, fun c nc => ?_⟩
    refine ⟨c, _, rfl, .inl (.of upd_same), fun d nd => ?_⟩
    refine ⟨by show 3 ≤ sizeLine; decide, fun p np => ?_⟩
    have s1 : Same H (upd H c (.lst (cutV (ns.map V.int) none (some 60)))) := same_upd nc
    have s2 := s1.trans (same_upd (o := .lst (cutV (ns.map V.int) none (some 60))) nd)
    have s3 := s2.trans (same_upd (o := .lst [.ref d, .int 0, .int 0]) np)
    refine q p d _ (s2.free np) (s1.free nd) s3 ⟨ns.take 60, 0, 0, upd_same, ?_, ?_, Nat.le_refl _⟩
    · have ndp : d ≠ p := ne_of_none (upd_same (H := upd H c (.lst (cutV (ns.map V.int) none (some 60)))) (a := d) (o := .lst (cutV (ns.map V.int) none (some 60)))) np
      rw [upd_ne ndp, upd_same, cut60]
    · rw [List.length_take]
      omega
end
end Dr
namespace Kp
open PySem PySem.Spec PyProof.Rows L2 GxR Nw Dr
/-! ### what a call leaves as it was: all but the feed (F) and the tables of code objects -/
structure Ke (F : Addr → Prop) (H H' : Hp) : Prop where
  keep : ∀ b o, H b = some o → (∀ ps, o ≠ .tbl ps) → ¬ F b → H' b = some o
  tabs : ∀ P, TabG H P → TabG H' P
  tups : ∀ b xs, H b = some (.tup xs) → H' b = some (.tup xs)
abbrev Nof : Addr → Prop := fun _ => False
variable {F G : Addr → Prop} {H H1 H2 H' : Hp} {f c P : Addr} {B : Nat}
theorem Ke.refl (F : Addr → Prop) (H : Hp) : Ke F H H := ⟨fun _ _ h _ _ => h, fun _ h => h, fun _ _ h => h⟩
theorem Ke.trans (a : Ke F H H1) (b : Ke F H1 H2) : Ke F H H2 := ⟨fun x o h n m => b.keep x o (a.keep x o h n m) n m, fun Q h => b.tabs Q (a.tabs Q h), fun x xs h => b.tups x xs (a.tups x xs h)⟩
theorem Ke.mono (a : Ke F H H1) (h : ∀ b, F b → G b) : Ke G H H1 := ⟨fun x o e n m => a.keep x o e n fun z => m (h x z), a.tabs, a.tups⟩
theorem Ke.all (a : Ke Nof H H1) : Ke F H H1 := a.mono fun _ z => z.elim
theorem Ke.same (s : Same H H1) : Ke F H H1 := ⟨fun b o e _ _ => s b o e, fun Q ⟨ps, h, t⟩ => ⟨ps, s _ _ h, t⟩, fun b xs e => s _ _ e⟩
theorem Ke.lst {a : Addr} {xs : List V} (k : Ke F H H1) (h : H a = some (.lst xs)) (n : ¬ F a) : H1 a = some (.lst xs) := k.keep a _ h (fun ps z => by cases z) n
theorem Ke.tabbed (t : TabG H P) (x : Tabbed P H H1) : Ke F H H1 := by
  obtain ⟨ps, hP, _⟩ := t
  have nP : ∀ b o, H b = some o → (∀ qs, o ≠ .tbl qs) → b ≠ P := fun b o e n z => by
    rw [z, hP] at e
    exact n ps (Option.some.inj e).symm
  refine ⟨fun b o e n _ => (x.2 b (nP b o e n)).trans e, fun Q hQ => ?_, fun b xs e => (x.2 b (nP b _ e fun qs z => by cases z)).trans e⟩
  by_cases hq : Q = P
  · rw [hq]
    exact x.1
  · obtain ⟨qs, h1, h2⟩ := hQ
    exact ⟨qs, (x.2 Q hq).trans h1, h2⟩
theorem Ke.but (h : Feed H f c B) (b : But f H H1) : Ke (· = f) H H1 := by
  obtain ⟨ns, n, r, h1, _⟩ := h
  refine ⟨fun x o e _ m => (b x m).trans e, fun Q ⟨qs, e, t⟩ => ⟨qs, (b Q fun z => ?_).trans e, t⟩, fun x xs e => (b x fun z => ?_).trans e⟩
  · rw [z, h1] at e
    cases e
  · rw [z, h1] at e
    cases e
/-- a write to an object of ours that was new behind H -/
theorem Ke.upd {p : Addr} {o : HO} (k : Ke F H H1) (n : H p = none) : Ke F H (upd H1 p o) := by
  refine ⟨fun b x e t m => ?_, fun Q hQ => ?_, fun b xs e => ?_⟩
  · rw [upd_ne (ne_of_none e n)]
    exact k.keep b x e t m
  · obtain ⟨ps, e, t⟩ := hQ
    obtain ⟨qs, e2, t2⟩ := k.tabs Q ⟨ps, e, t⟩
    exact ⟨qs, by rw [upd_ne (ne_of_none e n)]; exact e2, t2⟩
  · rw [upd_ne (ne_of_none e n)]
    exact k.tups b xs e
theorem Ke.feed (k : Ke Nof H H1) (h : Feed H f c B) : Feed H1 f c B := by
  obtain ⟨ns, n, r, h1, h2, h3, h4⟩ := h
  exact ⟨ns, n, r, k.lst h1 (fun z => z), k.lst h2 (fun z => z), h3, h4⟩
/-- p holds nothing that H knows (but a table, perhaps) -/
def Frs (H : Hp) (p : Addr) : Prop := ∀ b o, H b = some o → (∀ ps, o ≠ .tbl ps) → b ≠ p
theorem Frs.of {p : Addr} (h : H p = none) : Frs H p := fun b o e _ => ne_of_none e h
theorem Frs.ke {p : Addr} (k : Ke (· = f) H H1) (hF : Feed H1 f c B) (h : Frs H1 p) : Frs H p := fun b o e n => by
  by_cases hb : b = f
  · obtain ⟨_, _, _, h1, _⟩ := hF
    rw [hb]
    exact h f _ h1 fun ps z => by cases z
  · exact h b o (k.keep b o e n hb) n
theorem Frs.ke0 {p : Addr} (k : Ke Nof H H1) (h : Frs H1 p) : Frs H p := fun b o e n => h b o (k.keep b o e n fun z => z) n
theorem Ke.write {p : Addr} {xs : List V} {o : HO} (k : Ke F H H1) (fr : Frs H p) (h1 : H1 p = some (.lst xs)) : Ke F H (L2.upd H1 p o) := by
  refine ⟨fun b x e t m => ?_, fun Q hQ => ?_, fun b ys e => ?_⟩
  · rw [upd_ne (fr b x e t)]
    exact k.keep b x e t m
  · obtain ⟨qs, e2, t2⟩ := k.tabs Q hQ
    have n : Q ≠ p := fun z => by
      rw [z, h1] at e2
      cases e2
    exact ⟨qs, by rw [upd_ne n]; exact e2, t2⟩
  · rw [upd_ne (fr b _ e fun ps z => by cases z)]
    exact k.tups b ys e
/-- whole numbers in a tuple, truths in a tuple -/
def TupI (H : Hp) (v : V) (ns : List Int) : Prop := ∃ a, v = .ref a ∧ H a = some (.tup (ns.map V.int))
def TupB (H : Hp) (v : V) (bs : List Bool) : Prop := ∃ a, v = .ref a ∧ H a = some (.tup (bs.map V.bl))
def LstI (H : Hp) (v : V) (ns : List Int) : Prop := ∃ a, v = .ref a ∧ H a = some (.lst (ns.map V.int))
/-- a tuple of claims -/
def Bk (H : Hp) (v : V) (css : List (List Int)) : Prop := ∃ a vs, v = .ref a ∧ H a = some (.tup vs) ∧ vs.length = css.length ∧ ∀ (i : Nat) (x : V) (cs : List Int), vs[i]? = some x → css[i]? = some cs → TupI H x cs
theorem TupI.ke {v : V} {ns : List Int} (h : TupI H v ns) (k : Ke F H H1) : TupI H1 v ns := by
  obtain ⟨a, e, h⟩ := h
  exact ⟨a, e, k.tups _ _ h⟩
theorem TupB.ke {v : V} {ns : List Bool} (h : TupB H v ns) (k : Ke F H H1) : TupB H1 v ns := by
  obtain ⟨a, e, h⟩ := h
  exact ⟨a, e, k.tups _ _ h⟩
theorem Bk.ke {v : V} {css : List (List Int)} (h : Bk H v css) (k : Ke F H H1) : Bk H1 v css := by
  obtain ⟨a, vs, e, h, l, t⟩ := h
  exact ⟨a, vs, e, k.tups _ _ h, l, fun i x cs h1 h2 => (t i x cs h1 h2).ke k⟩
/-! ### claims -/
def rising : List Int → Bool
  | a :: b :: r => decide (a < b) && rising (b :: r)
  | _ => true
structure IsCl (cs : List Int) : Prop where
  up : cs.Pairwise (· < ·)
  says : ∀ k ∈ cs, k ≠ 0 ∧ -8 ≤ k ∧ k ≤ 8
  opp : ∀ k ∈ cs, -k ∉ cs
  len : cs.length ≤ 8
theorem IsCl.nil : IsCl [] := { up := .nil, says := fun _ h => (nomatch h), opp := fun _ h => (nomatch h), len := by decide }
end Kp
namespace Dr
open PySem PySem.Spec PyProof.Rows L2 Nw Kp
theorem pick7 (n : Nat) : ∃ one : Int, 2147483500 < one ∧ one < 2147483648 ∧ atI [V.int 2147483647, V.int 2147483629, V.int 2147483587, V.int 2147483579, V.int 2147483563, V.int 2147483549, V.int 2147483543] ((n : Int) % 7) = some (.int one) := by
  have h : (n : Int) % 7 = 0 ∨ (n : Int) % 7 = 1 ∨ (n : Int) % 7 = 2 ∨ (n : Int) % 7 = 3 ∨ (n : Int) % 7 = 4 ∨ (n : Int) % 7 = 5 ∨ (n : Int) % 7 = 6 := by omega
  rcases h with h | h | h | h | h | h | h <;> rw [h] <;> exact ⟨_, by decide, by decide, rfl⟩
theorem pick5 (n : Nat) : ∃ two : Int, 2147483390 < two ∧ two < 2147483648 ∧ atI [V.int 2147483497, V.int 2147483489, V.int 2147483477, V.int 2147483423, V.int 2147483399] ((n : Int) % 5) = some (.int two) := by
  have h : (n : Int) % 5 = 0 ∨ (n : Int) % 5 = 1 ∨ (n : Int) % 5 = 2 ∨ (n : Int) % 5 = 3 ∨ (n : Int) % 5 = 4 := by omega
  rcases h with h | h | h | h | h <;> rw [h] <;> exact ⟨_, by decide, by decide, rfl⟩
section
variable {P : Program} {w : World} {K : PySem.W.Frag} {mg : Str → Option Value} {base : Heap}
/-- fresh(pen): any number -/
def spFre : Sp := fun vs H Q _ => ∃ (f c : Addr) (B : Nat), vs = [.ref f] ∧ Feed H f c B ∧ B ≤ 2 ^ 28 ∧ ∀ (r : Int) (H' : Hp), Feed H' f c (B + 1) → Ke (· = f) H H' → Q (.int r) H'
set_option exponentiation.threshold 4000 in
theorem ok_fre {f : Addr} {fd : FuncData} {k : Nat} (F : Fun K "_law_e_fresh" "_law_e_fresh" sFre f fd) (T : Zp mg) : FnOk P w K mg base CX0 (k + 1) f fd ["pen"] spFre := by
  refine F.ok scFre (fun vs H Q E h => ?_) (fun cdv A outer s H vs Q E hr h => ?_)
  · obtain ⟨f, c, B, rfl, _⟩ := h
    rfl
  · obtain ⟨f, c, B, rfl, hF, hB, q⟩ := h
    obtain ⟨ns, n, r, h1, h2, h3, h4⟩ := id hF
    have hcf : c ≠ f := feed_ne (a := .non) h1 h2
    have hS : SqL K H f [.ref c, .int n, .int r] := .of h1
    have n28 : n ≤ 268435456 := Nat.le_trans h4 hB
    refine ⟨_, (pss_cons (ps_set (i := 1) scFre.nd rfl (.inl rfl) (pe_ix ix_list (pv 0) pe_int (fun _ _ => rfl)))
      (Evl.pss_cut (ps_asg (pe_op op_add (pv 1) pe_int) (pg_sub (pv 0) pe_int set_list))
      (pss_cons (ps_set (i := 2) scFre.nd rfl (.inl rfl) pe_int)
      (Evl.pss_cut (ps_if (pt_cmpR (op_neD hr.units) (pe_ix ix_list (pv 0) pe_int (fun _ _ => rfl)) (pe_lstN pa_nil) (nomark _)) (pss_one (ps_set (i := 2) scFre.nd rfl (.inl rfl) (pe_op op_fdiv (pe_ix ix_list (pe_ix ix_list (pv 0) pe_int (fun _ _ => rfl)) (pe_op op_mod (pe_op op_mul (pv 1) pe_int) (pe_callB call_len_seq (by rfl) T.z_len (by decide +kernel) (pa_cons (pe_ix ix_list (pv 0) pe_int (fun _ _ => rfl)) pa_nil))) (fun _ _ => rfl)) (pe_op op_add pe_int (pe_op op_fdiv (pv 1) (pe_callB call_len_seq (by rfl) T.z_len (by decide +kernel) (pa_cons (pe_ix ix_list (pv 0) pe_int (fun _ _ => rfl)) pa_nil))))))) pss_nil)
      (Evl.pss_cut (ps_if (pt_cmpR op_lt (pv 1) (pe_callB call_len_seq (by rfl) T.z_len (by decide +kernel) (pa_cons (pe_ix ix_list (pv 0) pe_int (fun _ _ => rfl)) pa_nil)) (nomark _)) (pss_one (ps_set (i := 2) scFre.nd rfl (.inl rfl) (pe_ix ix_list (pe_ix ix_list (pv 0) pe_int (fun _ _ => rfl)) (pv 1) (fun _ _ => rfl)))) pss_nil)
      (pss_cons (ps_if (pt_cmpR op_ge (pv 2) (pe_op op_pow pe_int pe_int) (nomark _)) (pss_one (ps_ret (pv 2))) pss_nil)
      (Evl.pss_cut (ps_set (i := 3) scFre.nd rfl (.inl rfl) (pe_ix ix_list (pe_lstN (pa_cons pe_int (pa_cons pe_int (pa_cons pe_int (pa_cons pe_int (pa_cons pe_int (pa_cons pe_int (pa_cons pe_int pa_nil)))))))) (pe_op op_mod (pv 1) pe_int) (fun _ _ => rfl)))
      (Evl.pss_cut (ps_set (i := 4) scFre.nd rfl (.inl rfl) (pe_ix ix_list (pe_lstN (pa_cons pe_int (pa_cons pe_int (pa_cons pe_int (pa_cons pe_int (pa_cons pe_int pa_nil)))))) (pe_op op_mod (pv 1) pe_int) (fun _ _ => rfl)))
      (Evl.pss_cut (ps_set (i := 5) scFre.nd rfl (.inl rfl) (pe_op op_mod (pe_op op_pow (pe_op op_add (pe_op op_add (pe_op op_mod (pv 2) (pv 3)) (pe_op op_mul pe_int (pv 1))) pe_int) pe_int) (pv 3)))
      (Evl.pss_cut (ps_set (i := 6) scFre.nd rfl (.inl rfl) (pe_op op_mod (pe_op op_pow (pe_op op_add (pe_op op_add (pv 5) (pe_op op_mod (pv 2) (pv 4))) (pe_op op_mul (pv 1) (pv 1))) pe_int) (pv 4)))
      (pss_one (ps_ret (pe_op op_add (pe_op op_mul (pe_op op_add (pv 5) pe_int) (pv 4)) (pv 6)))))))))))))), ?_⟩
    refine ⟨.ref f, rfl, f, _, 1, _, rfl, rfl, hS, rfl, ?_⟩
    -- pen[1] = at + 1
    refine Evl.q_cut (M := fun σ' H' => σ' = [some (.ref f), some (.int n), none, none, none, none, none] ∧ H' f = some (.lst [.ref c, .int ((n + 1 : Nat) : Int), .int r]) ∧ H' c = some (.lst (ns.map V.int)) ∧ Ke (· = f) H H') ?_ ?_
    · refine ⟨_, rfl, _, _, rfl, rfl, _, rfl, f, _, 1, 1, rfl, rfl, h1, rfl, rfl, upd_same, by rw [upd_ne hcf]; exact h2, .but hF fun b nb => upd_ne nb⟩
    rintro σ' H1 ⟨rfl, f1, c1, k1⟩
    have F1 : Feed H1 f c (B + 1) := ⟨ns, n + 1, r, f1, c1, h3, by omega⟩
    have hS1 : SqL K H1 f [.ref c, .int ((n + 1 : Nat) : Int), .int r] := .of f1
    have hC1 : SqL K H1 c (ns.map V.int) := .of c1
    -- cell
    refine Evl.q_cut (M := fun σ' H' => ∃ z : Int, σ' = [some (.ref f), some (.int n), some (.int z), none, none, none, none] ∧ Same H1 H') ?_ ?_
    · refine ⟨.ref f, rfl, f, _, 0, _, rfl, rfl, hS1, rfl, Nat.zero_le _, fun p H2 np s2 hp _ => ?_⟩
      have hS2 : SqL K H2 f [.ref c, .int ((n + 1 : Nat) : Int), .int r] := .of (s2 _ _ f1)
      have hC2 : SqL K H2 c (ns.map V.int) := .of (s2 _ _ c1)
      refine ⟨_, _, .lst hC2 (dp_ints ns), .lst (.of hp) .nil, shaped_list (flat_ints _), shaped_list rfl, _, rfl, ite2 (fun e => ?_) (fun e => ?_)⟩
      · have l0 : 0 < ns.length := by
          cases ns with
          | nil => exact absurd e (by decide)
          | cons a b => exact Nat.succ_pos _
        have l1 : n * 7 % ns.length < ns.length := Nat.mod_lt _ l0
        refine ⟨.ref f, rfl, f, _, 0, _, rfl, rfl, hS2, rfl, _, rfl, _, _, rfl, rfl, .inr ⟨by decide, by decide⟩, .ref f, rfl, f, _, 0, _, rfl, rfl, hS2, rfl, c, _, rfl, .inl hC2, _, _, rfl, rfl, ?_, c, _, _, .int (ns[n * 7 % ns.length]), rfl, rfl, hC2, ?_, ?_⟩
        · show (0 : Int) < ((ns.map V.int).length : Int)
          rw [List.length_map]
          omega
        · refine at_of (j := n * 7 % ns.length) ?_ ?_
          · rw [List.length_map, Int.natCast_emod, Int.natCast_mul]
            rfl
          · rw [List.getElem?_map, List.getElem?_eq_getElem l1]
            rfl
        · refine ⟨_, rfl, .ref f, rfl, f, _, 0, _, rfl, rfl, hS2, rfl, c, _, rfl, .inl hC2, _, _, rfl, rfl, ⟨?_, ?_⟩, _, _, rfl, rfl, _, _, rfl, rfl, ⟨?_, ?_⟩, _, rfl, s2⟩
          · show (0 : Int) < ((ns.map V.int).length : Int)
            rw [List.length_map]
            omega
          · show ((ns.map V.int).length : Int) < 1073741824
            rw [List.length_map]
            omega
          · show (0 : Int) < 1 + (n : Int) / ((ns.map V.int).length : Int)
            have : (0 : Int) ≤ (n : Int) / ((ns.map V.int).length : Int) := Int.ediv_nonneg (by omega) (by omega)
            omega
          · show 1 + (n : Int) / ((ns.map V.int).length : Int) < 1073741824
            have : (n : Int) / ((ns.map V.int).length : Int) ≤ n := Int.ediv_le_self _ (by omega)
            omega
      · exact ⟨_, rfl, s2⟩
    rintro σ' H2 ⟨z, rfl, s2⟩
    have hS2 : SqL K H2 f [.ref c, .int ((n + 1 : Nat) : Int), .int r] := .of (s2 _ _ f1)
    have hC2 : SqL K H2 c (ns.map V.int) := .of (s2 _ _ c1)
    refine Evl.q_cut (M := fun σ' H' => ∃ z : Int, σ' = [some (.ref f), some (.int n), some (.int z), none, none, none, none] ∧ H' = H2) ?_ ?_
    · refine ⟨_, rfl, .ref f, rfl, f, _, 0, _, rfl, rfl, hS2, rfl, c, _, rfl, .inl hC2, _, _, rfl, rfl, _, rfl, ite2 (fun e => ?_) (fun e => ?_)⟩
      · have l1 : n < ns.length := by
          have e : (n : Int) < ((ns.map V.int).length : Int) := of_decide_eq_true e
          rw [List.length_map] at e
          omega
        refine ⟨.ref f, rfl, f, _, 0, _, rfl, rfl, hS2, rfl, _, rfl, c, _, _, .int (ns[n]), rfl, rfl, hC2, ?_, _, rfl, rfl⟩
        refine at_of (j := n) rfl ?_
        rw [List.getElem?_map, List.getElem?_eq_getElem l1]
        rfl
      · exact ⟨_, rfl, rfl⟩
    clear z
    rintro σ' H' ⟨z, rfl, rfl⟩
    have F2 := F1.same s2
    have k2 : Ke (· = f) H H' := k1.trans (.same s2)
    refine ⟨_, rfl, _, _, rfl, rfl, ⟨by decide, by decide, by decide⟩, _, _, rfl, rfl, _, rfl, ite2 (fun e => ⟨_, rfl, q z H' F2 k2⟩) (fun e => ?_)⟩
    -- one
    obtain ⟨one, o1, o2, ha⟩ := pick7 n
    refine Evl.q_cut (M := fun σ' H2 => σ' = [some (.ref f), some (.int n), some (.int z), some (.int one), none, none, none] ∧ Same H' H2) ?_ ?_
    · refine ⟨by show 7 ≤ sizeLine; decide, fun p H3 np s3 hp _ => ?_⟩
      exact ⟨_, rfl, _, _, rfl, rfl, by show (0 : Int) < 7; decide, p, _, _, .int one, rfl, rfl, .of hp, ha, rfl, s3⟩
    rintro σ' H3 ⟨rfl, s3⟩
    obtain ⟨two, t1, t2, hb⟩ := pick5 n
    refine Evl.q_cut (M := fun σ' H2 => σ' = [some (.ref f), some (.int n), some (.int z), some (.int one), some (.int two), none, none] ∧ Same H' H2) ?_ ?_
    · refine ⟨by show 5 ≤ sizeLine; decide, fun p H4 np s4 hp _ => ?_⟩
      exact ⟨_, rfl, _, _, rfl, rfl, by show (0 : Int) < 5; decide, p, _, _, .int two, rfl, rfl, .of hp, hb, rfl, s3.trans s4⟩
    rintro σ' H4 ⟨rfl, s4⟩
    have z1 : 0 ≤ z % one := Int.emod_nonneg _ (by omega)
    have z2 : z % one < one := Int.emod_lt_of_pos _ (by omega)
    have z3 : 0 ≤ z % two := Int.emod_nonneg _ (by omega)
    have z4 : z % two < two := Int.emod_lt_of_pos _ (by omega)
    refine Evl.q_cut (M := fun σ' H2 => ∃ mx : Int, σ' = [some (.ref f), some (.int n), some (.int z), some (.int one), some (.int two), some (.int mx), none] ∧ H2 = H4 ∧ 0 ≤ mx ∧ mx < one) ?_ ?_
    · refine ⟨_, rfl, _, rfl, _, _, rfl, rfl, (by show (0 : Int) < one; omega), _, rfl, _, _, rfl, rfl, .inl ⟨by decide, by decide⟩, _, _, rfl, rfl, _, _, rfl, rfl, _, _, rfl, rfl, ⟨by decide, by decide, ?_⟩, _, rfl, _, _, rfl, rfl, (by show (0 : Int) < one; omega), _, rfl, rfl, Int.emod_nonneg _ (by omega), Int.emod_lt_of_pos _ (by omega)⟩
      show (z % one + 31 * (n : Int) + 5).natAbs < 18446744073709551616
      omega
    rintro σ' H5 ⟨mx, rfl, rfl, m1, m2⟩
    refine Evl.q_cut (M := fun σ' H2 => ∃ ot : Int, σ' = [some (.ref f), some (.int n), some (.int z), some (.int one), some (.int two), some (.int mx), some (.int ot)] ∧ H2 = H5) ?_ ?_
    · refine ⟨_, rfl, _, rfl, _, rfl, _, _, rfl, rfl, (by show (0 : Int) < two; omega), _, _, rfl, rfl, _, rfl, _, rfl, _, _, rfl, rfl, .inl ⟨by omega, by omega⟩, _, _, rfl, rfl, _, _, rfl, rfl, ⟨by decide, by decide, ?_⟩, _, rfl, _, _, rfl, rfl, (by show (0 : Int) < two; omega), _, rfl, rfl⟩
      show (mx + z % two + (n : Int) * (n : Int)).natAbs < 18446744073709551616
      have : (n : Int) * (n : Int) ≤ 268435456 * 268435456 := Int.mul_le_mul (by omega) (by omega) (by omega) (by omega)
      have : 0 ≤ (n : Int) * (n : Int) := Int.mul_nonneg (by omega) (by omega)
      omega
    rintro σ' H6 ⟨ot, rfl, rfl⟩
    exact ⟨_, rfl, _, _, rfl, rfl, _, rfl, _, _, rfl, rfl, .inl ⟨by omega, by omega⟩, _, rfl, _, _, rfl, rfl, q _ _ (F2.same s4) (k2.trans (.same s4))⟩
/-- take(pen, many): any number from 0 to many - 1 -/
def spDrw : Sp := fun vs H Q _ => ∃ (f c : Addr) (m : Int) (B : Nat), vs = [.ref f, .int m] ∧ 0 < m ∧ m < 2 ^ 29 ∧ Feed H f c B ∧ B ≤ 2 ^ 28 ∧
  ∀ (d : Int) (H' : Hp), 0 ≤ d → d < m → Feed H' f c (B + 1) → Ke (· = f) H H' → Q (.int d) H'
theorem ok_drw {f fM : Addr} {fd fdM : FuncData} {k : Nat} (F : Fun K "_law_e_take" "_law_e_take" sDrw f fd) (FM : Fun K "_law_e_fresh" "_law_e_fresh" sFre fM fdM) (bM : Binds K fdM ["pen"] []) (gM : mg "_law_e_fresh" = some (.ref fM)) (T : Zp mg) :
    FnOk P w K mg base CX0 (k + 2) f fd ["pen", "many"] spDrw := by
  have GM : FnOk P w K mg base CX0 1 fM fdM ["pen"] spFre := ok_fre FM T
  refine F.ok scDrw (fun vs H Q E h => ?_) (fun cdv A outer s H vs Q E hr h => ?_)
  · obtain ⟨f, c, m, B, rfl, _⟩ := h
    rfl
  · obtain ⟨f, c, m, B, rfl, m0, m1, hF, hB, q⟩ := h
    have hr1 : Room 1 _ := hr.mono (by omega)
    obtain ⟨ns, n, r, h1, h2, h3, h4⟩ := id hF
    have hcf : c ≠ f := feed_ne (a := .non) h1 h2
    have hS : SqL K H f [.ref c, .int n, .int r] := .of h1
    refine ⟨_, (Evl.pss_cut (ps_if (pt_cmpR op_lt (pe_ix ix_list (pv 0) pe_int (fun _ _ => rfl)) (pv 1) (nomark _)) (pss_one (ps_asg (pe_call GM hr1 (by rfl) gM FM.kp bM .nil pass0 (pa_cons (pv 0) pa_nil)) (pg_sub (pv 0) pe_int set_list))) pss_nil)
      (pss_cons (ps_set (i := 2) scDrw.nd rfl (.inl rfl) (pe_op op_mod (pe_ix ix_list (pv 0) pe_int (fun _ _ => rfl)) (pv 1)))
      (pss_cons (ps_asg (pe_op op_fdiv (pe_ix ix_list (pv 0) pe_int (fun _ _ => rfl)) (pv 1)) (pg_sub (pv 0) pe_int set_list))
      (pss_one (ps_ret (pv 2)))))), ?_⟩
    refine Evl.q_cut (M := fun σ' H' => σ' = [some (.ref f), some (.int m), none] ∧ Feed H' f c (B + 1) ∧ Ke (· = f) H H') ?_ ?_
    · refine ⟨.ref f, rfl, f, _, 2, _, rfl, rfl, hS, rfl, .int m, rfl, _, _, rfl, rfl, _, rfl, ite2 (fun e => ?_) (fun e => ?_)⟩
      · refine ⟨_, rfl, f, c, B, rfl, hF, hB, fun r2 H2 F2 k2 => ?_⟩
        obtain ⟨ns2, n2, r3, e1, e2, e3, e4⟩ := id F2
        have hcf2 : c ≠ f := feed_ne (a := .non) e1 e2
        refine ⟨_, rfl, f, _, 2, 2, rfl, rfl, e1, rfl, rfl, ⟨ns2, n2, r2, upd_same, by rw [upd_ne hcf2]; exact e2, e3, e4⟩, k2.trans (.but F2 fun b nb => upd_ne nb)⟩
      · exact ⟨rfl, hF.mono (by omega), .refl _ _⟩
    rintro σ' H' ⟨rfl, F1, k1⟩
    obtain ⟨ns2, n2, r3, e1, e2, e3, e4⟩ := id F1
    have hcf2 : c ≠ f := feed_ne (a := .non) e1 e2
    have hS1 : SqL K H' f [.ref c, .int n2, .int r3] := .of e1
    refine ⟨.ref f, rfl, f, _, 2, _, rfl, rfl, hS1, rfl, .int m, rfl, _, _, rfl, rfl, m0, ?_⟩
    refine ⟨.ref f, rfl, f, _, 2, _, rfl, rfl, hS1, rfl, .int m, rfl, _, _, rfl, rfl, ⟨m0, by omega⟩, .ref f, rfl, f, _, 2, 2, rfl, rfl, e1, rfl, ?_⟩
    exact ⟨_, rfl, q (r3 % m) _ (Int.emod_nonneg _ (by omega)) (Int.emod_lt_of_pos _ m0) ⟨ns2, n2, r3 / m, upd_same, by rw [upd_ne hcf2]; exact e2, e3, e4⟩ (k1.trans (.but F1 fun b nb => upd_ne nb))⟩
end
end Dr
namespace Nw
open PySem PySem.Spec PyProof.Rows L2
theorem prg_cl {X : Cx} {e : Expr} {te : L2.St → Hp → (Int → Int → Hp → Prop) → Prop} (he : PRg X e te) : PRg X e (fun σ H Q => ∃ R : Int → Int → Hp → Prop, (∀ a b H1, R a b H1 → Q a b H1) ∧ te σ H R) := by
  intro pins s σ H Q I ⟨R, i, q⟩
  refine thn (he pins s σ H R I q) fun x s1 ⟨r, a, b, t, u, v, H1, ex, hr, I1, z⟩ => ⟨r, a, b, t, u, v, H1, ex, hr, I1, i a b H1 z⟩
theorem pe_listRgN {X : Cx} {e : Expr} {te : L2.St → Hp → (Int → Int → Hp → Prop) → Prop} {p pos : Pos} (hc : X.calm = true) (hg : Gl X "list") (hm : X.mg "list" = none) (he : PRg X e te) (na : starEach [e] X.env = (false, eval e X.env) :: starEach [] X.env := by rfl) :
    PE X (.Call (.Name "list" p) [e] [] pos) (fun σ H Q => te σ H fun a b H1 => RgOk a b ∧ New H1 (.lst (rgV a b)) Q) :=
  pe_weak (pe_listRg hc hg hm (prg_cl he) na) fun _ _ _ q => ⟨_, fun _ _ _ z => ⟨z.1, z.2.to⟩, q⟩
end Nw
namespace Cl
open PySem PySem.Spec PyProof.Rows L2 GxR Nw Dr Kp
abbrev sClm : Stmt := topS 21
abbrev sBok : Stmt := topS 22
theorem scClm : FnScope ["pen", "most", "wide", "things", "found", "turn", "thing"] ["pen", "most", "wide"] (defScope sClm) := ⟨rfl, rfl, rfl, by decide +kernel, rfl, by decide +kernel, by decide +kernel⟩
theorem scBok : FnScope ["pen", "most", "many", "wide", "found", "turn", "claim"] ["pen", "most"] (defScope sBok) := ⟨rfl, rfl, rfl, by decide +kernel, rfl, by decide +kernel, by decide +kernel⟩
/-- the built-ins that stand as they stood -/
structure Zs (mg : Str → Option Value) : Prop where
  z_len : mg "len" = none
  z_list : mg "list" = none
  z_range : mg "range" = none
  z_min : mg "min" = none
  z_tuple : mg "tuple" = none
  z_sorted : mg "sorted" = none
/-- things: numbers from 1 to 8, none twice -/
structure Thg (ks : List Int) : Prop where
  nd : ks.Nodup
  one : ∀ k ∈ ks, 1 ≤ k ∧ k ≤ 8
  len : ks.length ≤ 8
theorem perm_pop : ∀ {l : List Int} {d : Nat} {y : Int}, l[d]? = some y → (y :: l.eraseIdx d).Perm l
  | [], _, _, h => by simp at h
  | a :: r, 0, y, h => by
    have e : a = y := Option.some.inj h
    subst e
    exact .refl _
  | a :: r, d + 1, y, h => by
    have ih := perm_pop (l := r) (d := d) (y := y) h
    exact (List.Perm.swap a y _).trans (.cons a ih)
theorem erase_len {l : List Int} {d : Nat} (h : d < l.length) : (l.eraseIdx d).length = l.length - 1 := List.length_eraseIdx_of_lt h
theorem erase_map : ∀ (l : List Int) (d : Nat), (l.map V.int).eraseIdx d = (l.eraseIdx d).map V.int
  | [], _ => rfl
  | _ :: _, 0 => rfl
  | a :: r, d + 1 => congrArg (V.int a :: ·) (erase_map r d)
theorem ix_seq {d : Int} {n : Nat} (h0 : 0 ≤ d) (h1 : d < (n : Int)) : seqIndex? d n = some d.toNat := by
  have e : ixN n d = some d.toNat := by
    unfold ixN
    rw [if_pos h0, if_pos h1]
  exact (ixN_seq e).1
theorem abs_nd : ∀ {l : List Int}, (l.map fun s => (s.natAbs : Int)).Nodup → l.Nodup ∧ ∀ k ∈ l, k ≠ 0 → -k ∉ l := fun {l} h => by
  refine ⟨(List.pairwise_map.mp h).imp (fun {a b} z e => z (by rw [e])), fun k hk h0 hn => ?_⟩
  have inj : ∀ a ∈ l, ∀ b ∈ l, (a.natAbs : Int) = b.natAbs → a = b := fun a ha b hb e => by
    obtain ⟨i, hi, ei⟩ := List.getElem_of_mem ha
    obtain ⟨j, hj, ej⟩ := List.getElem_of_mem hb
    have hij : (l.map fun s => (s.natAbs : Int))[i]'(by rw [List.length_map]; exact hi) = (l.map fun s => (s.natAbs : Int))[j]'(by rw [List.length_map]; exact hj) := by
      rw [List.getElem_map, List.getElem_map, ei, ej]
      exact e
    have := (List.getElem_inj h).mp hij
    subst this
    rw [← ei, ← ej]
  have := inj k hk (-k) hn (by omega)
  omega
theorem cl_of {says left ks ns : List Int} (T : Thg ks) (pm : ((says.map fun s => (s.natAbs : Int)) ++ left).Perm ks) (pn : ns.Perm says) (so : ns.Pairwise (· ≤ ·)) : IsCl ns ∧ ∀ s ∈ ns, (s.natAbs : Int) ∈ ks := by
  have nd := (List.nodup_append.mp (pm.nodup_iff.mpr T.nd)).1
  obtain ⟨n1, n2⟩ := abs_nd nd
  have mem : ∀ s ∈ ns, (s.natAbs : Int) ∈ ks := fun s hs => pm.mem_iff.mp (List.mem_append_left _ (List.mem_map.mpr ⟨s, pn.mem_iff.mp hs, rfl⟩))
  have nn : ns.Nodup := pn.nodup_iff.mpr n1
  have bd : ∀ s ∈ ns, s ≠ 0 ∧ -8 ≤ s ∧ s ≤ 8 := fun s hs => by
    have := T.one _ (mem s hs)
    omega
  refine ⟨⟨?_, bd, fun k hk hn => n2 k (pn.mem_iff.mp hk) (bd k hk).1 (pn.mem_iff.mp hn), ?_⟩, mem⟩
  · have := List.Pairwise.and so nn
    exact this.imp fun {a b} h => by
      obtain ⟨h1, h2⟩ := h
      omega
  · have l1 := pn.length_eq
    have l2 := pm.length_eq
    rw [List.length_append, List.length_map] at l2
    have := T.len
    omega
/-- a list of claims as it grows -/
def Ls (H : Hp) (L : Addr) (css : List (List Int)) : Prop := ∃ vs, H L = some (.lst vs) ∧ vs.length = css.length ∧ ∀ (i : Nat) (x : V) (cs : List Int), vs[i]? = some x → css[i]? = some cs → TupI H x cs
theorem ix_append {α β : Type} {R : α → β → Prop} {vs : List α} {ys : List β} {v : α} {y : β} (l : vs.length = ys.length) (h : ∀ (i : Nat) (x : α) (z : β), vs[i]? = some x → ys[i]? = some z → R x z) (r : R v y) :
    ∀ (i : Nat) (x : α) (z : β), (vs ++ [v])[i]? = some x → (ys ++ [y])[i]? = some z → R x z := by
  intro i x z h1 h2
  by_cases hi : i < vs.length
  · rw [List.getElem?_append_left hi] at h1
    rw [List.getElem?_append_left (by omega)] at h2
    exact h i x z h1 h2
  · have e : i = vs.length := by
      have := (List.getElem?_eq_some_iff.mp h1).1
      rw [List.length_append, List.length_singleton] at this
      omega
    subst e
    rw [List.getElem?_append_right (Nat.le_refl _), Nat.sub_self] at h1
    rw [List.getElem?_append_right (by omega), show vs.length - ys.length = 0 by omega] at h2
    cases h1
    cases h2
    exact r

theorem rg_ints (a b : Int) : rgV a b = ((List.range (b - a).toNat).map fun i => a + ((i : Nat) : Int)).map V.int := by
  unfold rgV
  rw [List.map_map]
  rfl
theorem rg_thg {m : Int} (h0 : 0 ≤ m) (h8 : m ≤ 8) : Thg ((List.range (m + 1 - 1).toNat).map fun i => (1 : Int) + ((i : Nat) : Int)) := by
  refine ⟨?_, fun k hk => ?_, ?_⟩
  · refine List.pairwise_map.mpr (List.Pairwise.imp (fun {a b} z e => z ?_) List.nodup_range)
    omega
  · obtain ⟨i, hi, rfl⟩ := List.mem_map.mp hk
    have := List.mem_range.mp hi
    omega
  · rw [List.length_map, List.length_range]
    omega
section
variable {P : Program} {w : World} {K : PySem.W.Frag} {mg : Str → Option Value} {base : Heap} {fD fM : Addr} {fdD fdM : FuncData}
/-- claim(pen, most, wide) -/
def spClm : Sp := fun vs H Q _ => ∃ (f c : Addr) (mo wi : Int) (B : Nat), vs = [.ref f, .int mo, .int wi] ∧ 1 ≤ mo ∧ mo ≤ 8 ∧ 0 ≤ wi ∧ wi ≤ 8 ∧ Feed H f c B ∧ B ≤ 2 ^ 27 ∧
  ∀ (cs : List Int) (p : Addr) (H' : Hp), Feed H' f c (B + 20) → Ke (· = f) H H' → Frs H p → H' p = some (.tup (cs.map V.int)) → IsCl cs → (∀ s ∈ cs, (s.natAbs : Int) ≤ mo) → (cs.length : Int) ≤ wi → Q (.ref p) H'
theorem ok_clm {f : Addr} {fd : FuncData} {k : Nat} (F : Fun K "_law_e_claim" "_law_e_claim" sClm f fd) (T : Zs mg) (FD : Fun K "_law_e_take" "_law_e_take" sDrw fD fdD) (bD : Binds K fdD ["pen", "many"] []) (gD : mg "_law_e_take" = some (.ref fD)) (GD : FnOk P w K mg base CX0 2 fD fdD ["pen", "many"] spDrw) :
    FnOk P w K mg base CX0 (k + 3) f fd ["pen", "most", "wide"] spClm := by
  refine F.ok scClm (fun vs H Q E h => ?_) (fun cdv A outer s H vs Q E hr h => ?_)
  · obtain ⟨f, c, mo, wi, B, rfl, _⟩ := h
    rfl
  · obtain ⟨f, c, mo, wi, B, rfl, m1, m8, w0, w8, hF, hB, q⟩ := h
    have hr2 : Room 2 _ := hr.mono (by omega)
    refine ⟨_, (Evl.pss_cut (ps_set (i := 3) scClm.nd rfl (.inl rfl) (pe_listRgN rfl (by rfl) T.z_list (prg_2 (by rfl) T.z_range pe_int (pe_op op_add (pv 1) pe_int))))
      (pss_cons (ps_set (i := 4) scClm.nd rfl (.inl rfl) (pe_lstN pa_nil))
      (Evl.pss_cut (ps_for PassesOwn.never rfl (pi_range1 (by rfl) T.z_range (pa_cons (pe_callB (call_min2 rfl) (by rfl) T.z_min (by decide +kernel) (pa_cons (pv 1) (pa_cons (pe_call GD hr2 (by rfl) gD FD.kp bD .nil pass0 (pa_cons (pv 0) (pa_cons (pe_op op_add (pv 2) pe_int) pa_nil))) pa_nil))) pa_nil)) (pg_name (i := 5) scClm.nd rfl (.inl rfl)) (pss_cons (ps_set (i := 6) scClm.nd rfl (.inl rfl) (pe_bm PySem.F.plainAttrs_list PySem.F.slot_list_pop PySem.F.type_list_pop mt_popAt (pv 3) (pa_cons (pe_call GD hr2 (by rfl) gD FD.kp bD .nil pass0 (pa_cons (pv 0) (pa_cons (pe_callB call_len_seq (by rfl) T.z_len (by decide +kernel) (pa_cons (pv 3) pa_nil)) pa_nil))) pa_nil)))
      (pss_one (ps_expr (pe_bm PySem.F.plainAttrs_list PySem.F.slot_list_append PySem.F.type_list_append mt_append (pv 4) (pa_cons (pe_ix ix_list (pe_lstN (pa_cons (pv 6) (pa_cons (pe_op op_sub pe_int (pv 6)) pa_nil))) (pe_call GD hr2 (by rfl) gD FD.kp bD .nil pass0 (pa_cons (pv 0) (pa_cons pe_int pa_nil))) (fun _ _ => rfl)) pa_nil))))))
      (pss_one (ps_ret (pe_callTy call_tuple_ofN (by rfl) T.z_tuple (by decide +kernel) (pa_cons (pe_callB cr_sortedN (by rfl) T.z_sorted (by decide +kernel) (pa_cons (pv 4) pa_nil)) pa_nil))))))), ?_⟩
    have Tk := rg_thg (by omega : 0 ≤ mo) m8
    have mk : ∀ k ∈ ((List.range (mo + 1 - 1).toNat).map fun i => (1 : Int) + ((i : Nat) : Int)), k ≤ mo := fun k hk => by
      obtain ⟨i, hi, rfl⟩ := List.mem_map.mp hk
      have := List.mem_range.mp hi
      omega
    have lk : (((List.range (mo + 1 - 1).toNat).map fun i => (1 : Int) + ((i : Nat) : Int)).length : Int) = mo := by
      rw [List.length_map, List.length_range]
      omega
    have rg := rg_ints 1 (mo + 1)
    generalize ((List.range (mo + 1 - 1).toNat).map fun i => (1 : Int) + ((i : Nat) : Int)) = ks at Tk mk lk rg
    -- things
    refine Evl.q_cut (M := fun σ' H' => ∃ L, σ' = [some (.ref f), some (.int mo), some (.int wi), some (.ref L), none, none, none] ∧ H L = none ∧ Same H H' ∧ H' L = some (.lst (ks.map V.int))) ?_ ?_
    · exact ⟨_, rfl, _, _, rfl, rfl, 1, mo + 1, rfl, rfl, .of_le (by omega) (by omega) (by omega) (by omega), fun L H1 nL s1 hL _ => ⟨L, rfl, nL, s1, rg ▸ hL⟩⟩
    rintro σ' H1 ⟨L, rfl, nL, s1, hL⟩
    refine ⟨Nat.zero_le _, fun S H2 nS s2 hS _ => ?_⟩
    have F2 : Feed H2 f c B := hF.same (s1.trans s2)
    have nLf : L ≠ f := hF.nf nL
    have nLc : L ≠ c := hF.nc nL
    have nSL : S ≠ L := Ne.symm (ne_of_none hL nS)
    have nSf : S ≠ f := (hF.same s1).nf nS
    have nSc : S ≠ c := (hF.same s1).nc nS
    have frL : Frs H L := .of nL
    have frS : Frs H S := .of (s1.free nS)
    have hL2 : H2 L = some (.lst (ks.map V.int)) := s2 _ _ hL
    -- the loop
    refine Evl.q_cut (M := fun σ' H' => ∃ (y5 y6 : Option V) (left says : List Int), σ' = [some (.ref f), some (.int mo), some (.int wi), some (.ref L), some (.ref S), y5, y6] ∧ Feed H' f c (B + 20) ∧ Ke (· = f) H H' ∧ H' S = some (.lst (says.map V.int)) ∧ (says.length : Int) ≤ wi ∧ ((says.map fun s => (s.natAbs : Int)) ++ left).Perm ks) ?_ ?_
    · refine ⟨_, rfl, _, rfl, _, rfl, _, _, rfl, rfl, f, c, _, B, rfl, by omega, by omega, F2, by omega, fun d H3 d0 d1 F3 b3 => ?_⟩
      refine ⟨_, _, rfl, ?_⟩
      generalize hn : (if d < mo then d else mo) = n
      have n0 : 0 ≤ n ∧ n ≤ wi ∧ n ≤ mo := by
        split at hn <;> omega
      have tl := Tk.len
      have hL3 : H3 L = some (.lst (ks.map V.int)) := b3.lst hL2 nLf
      have hS3 : H3 S = some (.lst (([] : List Int).map V.int)) := b3.lst hS nSf
      have k3 : Ke (· = f) H H3 := (Ke.same (s1.trans s2)).trans b3
      refine ⟨n, rfl, by omega, by omega, for_range (Pv := fun i σ H' => ∃ (y5 y6 : Option V) (left says : List Int), σ = [some (.ref f), some (.int mo), some (.int wi), some (.ref L), some (.ref S), y5, y6] ∧ Feed H' f c (B + 1 + 2 * i) ∧ Ke (· = f) H H' ∧ H' L = some (.lst (left.map V.int)) ∧ H' S = some (.lst (says.map V.int)) ∧
        left.length = ks.length - i ∧ says.length = i ∧ ((says.map fun s => (s.natAbs : Int)) ++ left).Perm ks) ?_ ?_ ?_⟩
      · exact ⟨none, none, ks, [], rfl, F3, k3, hL3, hS3, rfl, rfl, .refl _⟩
      · rintro i σ H' hi ⟨y5, y6, left, says, rfl, F4, k4, hL4, hS4, ll, ls, pm⟩
        have hi : i < n.toNat := hi
        refine ⟨_, rfl, .inl ⟨rfl, _, .of hL4⟩, _, rfl, _, rfl, L, _, rfl, .inl (.of hL4), f, c, _, B + 1 + 2 * i, rfl, ?_, ?_, F4, by omega, fun d H5 d0 d1 F5 b5 => ?_⟩
        · rw [List.length_map]
          omega
        · rw [List.length_map]
          omega
        rw [List.length_map] at d1
        have dl : d.toNat < left.length := by omega
        have hL5 : H5 L = some (.lst (left.map V.int)) := b5.lst hL4 nLf
        have hS5 : H5 S = some (.lst (says.map V.int)) := b5.lst hS4 nSf
        have k5 : Ke (· = f) H H5 := k4.trans b5
        refine ⟨L, _, d, d.toNat, .int left[d.toNat], rfl, rfl, hL5, by omega, by omega, by rw [List.length_map]; exact ix_seq d0 d1, by rw [List.getElem?_map, List.getElem?_eq_getElem dl]; rfl, ?_⟩
        have pp := perm_pop (List.getElem?_eq_getElem dl)
        have y1 := Tk.one left[d.toNat] (pm.mem_iff.mp (List.mem_append_right _ (List.getElem_mem dl)))
        generalize left[d.toNat] = y at pp y1
        have F6 : Feed (upd H5 L (.lst ((left.map V.int).eraseIdx d.toNat))) f c (B + 1 + 2 * i + 1) := F5.upd nLf nLc
        have k6 : Ke (· = f) H (upd H5 L (.lst ((left.map V.int).eraseIdx d.toNat))) := k5.write frL hL5
        have hL6 : (upd H5 L (.lst ((left.map V.int).eraseIdx d.toNat))) L = some (.lst ((left.eraseIdx d.toNat).map V.int)) := by rw [upd_same, erase_map]
        have hS6 : (upd H5 L (.lst ((left.map V.int).eraseIdx d.toNat))) S = some (.lst (says.map V.int)) := by rw [upd_ne nSL]; exact hS5
        generalize (upd H5 L (.lst ((left.map V.int).eraseIdx d.toNat))) = H6 at F6 k6 hL6 hS6 ⊢
        -- found.append([thing, 0 - thing][..])
        refine ⟨_, rfl, .inl ⟨rfl, _, .of hS6⟩, _, rfl, _, rfl, _, _, rfl, rfl, by show 2 ≤ sizeLine; decide, fun p H7 np s7 hp _ => ?_⟩
        refine ⟨_, rfl, f, c, 2, B + 1 + 2 * i + 1, rfl, by decide, by decide, F6.same s7, by omega, fun e H8 e0 e1 F8 b8 => ?_⟩
        have npf : p ≠ f := F6.nf np
        have hp8 := b8.lst hp npf
        have hS8 : H8 S = some (.lst (says.map V.int)) := b8.lst (s7 _ _ hS6) nSf
        have hL8 : H8 L = some (.lst ((left.eraseIdx d.toNat).map V.int)) := b8.lst (s7 _ _ hL6) nLf
        have k8 : Ke (· = f) H H8 := (k6.trans (.same s7)).trans b8
        have two : e = 0 ∨ e = 1 := by omega
        have go : ∀ z : Int, (z.natAbs : Int) = y → ((says ++ [z]).map (fun s => (s.natAbs : Int)) ++ left.eraseIdx d.toNat).Perm ks := fun z hz => by
          refine List.Perm.trans ?_ pm
          rw [List.map_append, List.append_assoc, List.map_singleton, hz]
          exact (List.Perm.refl _).append pp
        rcases two with rfl | rfl
        · refine ⟨p, _, 0, .int y, rfl, rfl, .of hp8, rfl, S, _, _, rfl, rfl, hS8, by rw [List.length_map]; exact small1000 (by omega), ?_⟩
          refine ⟨_, _, left.eraseIdx d.toNat, says ++ [y], rfl, (F8.upd nSf nSc).mono (by omega), k8.write frS hS8, by rw [upd_ne (Ne.symm nSL)]; exact hL8, by rw [upd_same, List.map_append]; rfl, by rw [erase_len dl]; omega, by rw [List.length_append, ls]; rfl, go y (by omega)⟩
        · refine ⟨p, _, 1, .int (0 - y), rfl, rfl, .of hp8, rfl, S, _, _, rfl, rfl, hS8, by rw [List.length_map]; exact small1000 (by omega), ?_⟩
          refine ⟨_, _, left.eraseIdx d.toNat, says ++ [0 - y], rfl, (F8.upd nSf nSc).mono (by omega), k8.write frS hS8, by rw [upd_ne (Ne.symm nSL)]; exact hL8, by rw [upd_same, List.map_append]; rfl, by rw [erase_len dl]; omega, by rw [List.length_append, ls]; rfl, go (0 - y) (by omega)⟩
      · rintro σ H' ⟨y5, y6, left, says, rfl, F4, k4, hL4, hS4, ll, ls, pm⟩
        exact ⟨y5, y6, left, says, rfl, F4.mono (by omega), k4, hS4, by omega, pm⟩
    rintro σ' H3 ⟨y5, y6, left, says, rfl, F3, k3, hS3, ls, pm⟩
    refine ⟨_, rfl, S, says, rfl, .of hS3, fun ns pn so p H4 np s4 hp _ => ?_⟩
    refine ⟨p, _, rfl, .of hp, fun p2 H5 np2 s5 hp2 _ => ?_⟩
    obtain ⟨h1, h2⟩ := cl_of Tk pm pn so
    refine q ns p2 H5 (F3.same (s4.trans s5)) (k3.trans (.same (s4.trans s5))) (.ke k3 F3 (.of (s4.free np2))) hp2 h1 (fun s hs => mk _ (h2 s hs)) ?_
    rw [pn.length_eq]
    exact ls
/-- the claim cs is of the things 1 to m -/
def Of (m : Int) (cs : List Int) : Prop := IsCl cs ∧ ∀ s ∈ cs, (s.natAbs : Int) ≤ m
theorem of_one {m k0 : Int} (h1 : 1 ≤ k0) (h2 : k0 ≤ m) (h8 : m ≤ 8) : Of m [k0] := by
  refine ⟨⟨.cons (fun _ h => (nomatch h)) .nil, fun k hk => ?_, fun k hk hn => ?_, by show 1 ≤ 8; decide⟩, fun s hs => ?_⟩
  · rw [List.mem_singleton.mp hk]
    omega
  · rw [List.mem_singleton.mp hk] at hn
    have := List.mem_singleton.mp hn
    omega
  · rw [List.mem_singleton.mp hs]
    omega
/-- book(pen, most) -/
def spBok : Sp := fun vs H Q _ => ∃ (f c : Addr) (m : Int) (B : Nat), vs = [.ref f, .int m] ∧ 1 ≤ m ∧ m ≤ 8 ∧ Feed H f c B ∧ B ≤ 2 ^ 26 ∧
  ∀ (css : List (List Int)) (p : Addr) (H' : Hp), Feed H' f c (B + 500) → Ke (· = f) H H' → Frs H p → Bk H' (.ref p) css → (∀ cs ∈ css, Of m cs) → 1 ≤ css.length → css.length ≤ 16 → Q (.ref p) H'
theorem ok_bok {f fC : Addr} {fd fdC : FuncData} {k : Nat} (F : Fun K "_law_e_book" "_law_e_book" sBok f fd) (T : Zs mg) (FD : Fun K "_law_e_take" "_law_e_take" sDrw fD fdD) (bD : Binds K fdD ["pen", "many"] []) (gD : mg "_law_e_take" = some (.ref fD)) (GD : FnOk P w K mg base CX0 2 fD fdD ["pen", "many"] spDrw)
    (FC : Fun K "_law_e_claim" "_law_e_claim" sClm fC fdC) (bC : Binds K fdC ["pen", "most", "wide"] []) (gC : mg "_law_e_claim" = some (.ref fC)) (GC : FnOk P w K mg base CX0 3 fC fdC ["pen", "most", "wide"] spClm) :
    FnOk P w K mg base CX0 (k + 4) f fd ["pen", "most"] spBok := by
  refine F.ok scBok (fun vs H Q E h => ?_) (fun cdv A outer s H vs Q E hr h => ?_)
  · obtain ⟨f, c, m, B, rfl, _⟩ := h
    rfl
  · obtain ⟨f, c, m, B, rfl, m0, m8, hF, hB, q⟩ := h
    have hr2 : Room 2 _ := hr.mono (by omega)
    have hr3 : Room 3 _ := hr.mono (by omega)
    refine ⟨_, (Evl.pss_cut (ps_set (i := 2) scBok.nd rfl (.inl rfl) (pe_ix ix_list (pe_lstN (pa_cons pe_int (pa_cons pe_int (pa_cons pe_int (pa_cons pe_int pa_nil))))) (pe_call GD hr2 (by rfl) gD FD.kp bD .nil pass0 (pa_cons (pv 0) (pa_cons pe_int pa_nil))) (fun _ _ => rfl)))
      (Evl.pss_cut (ps_set (i := 3) scBok.nd rfl (.inl rfl) (pe_ix ix_list (pe_lstN (pa_cons pe_int (pa_cons pe_int (pa_cons pe_int (pa_cons pe_int (pa_cons pe_int pa_nil)))))) (pe_call GD hr2 (by rfl) gD FD.kp bD .nil pass0 (pa_cons (pv 0) (pa_cons pe_int pa_nil))) (fun _ _ => rfl)))
      (pss_cons (ps_set (i := 4) scBok.nd rfl (.inl rfl) (pe_lstN pa_nil))
      (Evl.pss_cut (ps_for PassesOwn.never rfl (pi_range1 (by rfl) T.z_range (pa_cons (pe_op op_add pe_int (pe_call GD hr2 (by rfl) gD FD.kp bD .nil pass0 (pa_cons (pv 0) (pa_cons (pv 2) pa_nil)))) pa_nil)) (pg_name (i := 5) scBok.nd rfl (.inl rfl)) (Evl.pss_cut (ps_set (i := 6) scBok.nd rfl (.inl rfl) (pe_call GC hr3 (by rfl) gC FC.kp bC .nil pass0 (pa_cons (pv 0) (pa_cons (pv 1) (pa_cons (pv 3) pa_nil)))))
      (Evl.pss_cut (ps_if (PW.pt (pw_and (pt_cmpR (op_eqD hr.units) (pv 6) (pe_tupN pa_nil) (nomark _)) (pw_and1 (pt_cmpR op_gt (pe_call GD hr2 (by rfl) gD FD.kp bD .nil pass0 (pa_cons (pv 0) (pa_cons pe_int pa_nil))) pe_int (nomark _))))) (pss_one (ps_set (i := 6) scBok.nd rfl (.inl rfl) (pe_tupN (pa_cons (pe_op op_add pe_int (pe_call GD hr2 (by rfl) gD FD.kp bD .nil pass0 (pa_cons (pv 0) (pa_cons (pv 1) pa_nil)))) pa_nil)))) pss_nil)
      (pss_one (ps_expr (pe_bm PySem.F.plainAttrs_list PySem.F.slot_list_append PySem.F.type_list_append mt_append (pv 4) (pa_cons (pv 6) pa_nil)))))))
      (pss_one (ps_ret (pe_callTy call_tuple_ofN (by rfl) T.z_tuple (by decide +kernel) (pa_cons (pv 4) pa_nil)))))))), ?_⟩
    -- many
    refine Evl.q_cut (M := fun σ' H' => ∃ ma : Int, σ' = [some (.ref f), some (.int m), some (.int ma), none, none, none, none] ∧ 1 ≤ ma ∧ ma ≤ 16 ∧ Feed H' f c (B + 1) ∧ Ke (· = f) H H') ?_ ?_
    · refine ⟨by show 4 ≤ sizeLine; decide, fun p4 H4 np4 s4 hp4 _ => ⟨_, rfl, f, c, 4, _, rfl, by decide, by decide, hF.same s4, by omega, fun e H5 e0 e1 F5 b5 => ?_⟩⟩
      have pk : ∃ mm : Int, 1 ≤ mm ∧ mm ≤ 16 ∧ atI [V.int 4, V.int 8, V.int 12, V.int 16] e = some (.int mm) := by
        have four : e = 0 ∨ e = 1 ∨ e = 2 ∨ e = 3 := by omega
        rcases four with rfl | rfl | rfl | rfl <;> exact ⟨_, by decide, by decide, rfl⟩
      obtain ⟨mm, mm0, mm1, ha⟩ := pk
      exact ⟨p4, _, e, .int mm, rfl, rfl, .of (b5.lst hp4 (hF.nf np4)), ha, mm, rfl, mm0, mm1, F5, (Ke.same s4).trans b5⟩
    rintro σ' H1 ⟨ma, rfl, ma1, ma16, F1, k1⟩
    -- wide
    refine Evl.q_cut (M := fun σ' H' => ∃ wi : Int, σ' = [some (.ref f), some (.int m), some (.int ma), some (.int wi), none, none, none] ∧ 0 ≤ wi ∧ wi ≤ 8 ∧ Feed H' f c (B + 2) ∧ Ke (· = f) H H') ?_ ?_
    · refine ⟨by show 5 ≤ sizeLine; decide, fun p4 H4 np4 s4 hp4 _ => ⟨_, rfl, f, c, 5, _, rfl, by decide, by decide, F1.same s4, by omega, fun e H5 e0 e1 F5 b5 => ?_⟩⟩
      have pk : ∃ mm : Int, 0 ≤ mm ∧ mm ≤ 8 ∧ atI [V.int 2, V.int 3, V.int 3, V.int 4, V.int 8] e = some (.int mm) := by
        have four : e = 0 ∨ e = 1 ∨ e = 2 ∨ e = 3 ∨ e = 4 := by omega
        rcases four with rfl | rfl | rfl | rfl | rfl <;> exact ⟨_, by decide, by decide, rfl⟩
      obtain ⟨mm, mm0, mm1, ha⟩ := pk
      exact ⟨p4, _, e, .int mm, rfl, rfl, .of (b5.lst hp4 (F1.nf np4)), ha, mm, rfl, mm0, mm1, F5, k1.trans ((Ke.same s4).trans b5)⟩
    rintro σ' H2 ⟨wi, rfl, wi0, wi8, F2, k2⟩
    refine ⟨Nat.zero_le _, fun L H1 nL s1 hL _ => ?_⟩
    have nLf : L ≠ f := F2.nf nL
    have nLc : L ≠ c := F2.nc nL
    have frL : Frs H L := .ke k2 F2 (.of nL)
    have frL2 : Frs H2 L := .of nL
    refine Evl.q_cut (M := fun σ' H' => ∃ (y4 y5 : Option V) (css : List (List Int)), σ' = [some (.ref f), some (.int m), some (.int ma), some (.int wi), some (.ref L), y4, y5] ∧ Feed H' f c (B + 500) ∧ Ke (· = f) H2 H' ∧ Ls H' L css ∧ (∀ cs ∈ css, Of m cs) ∧ 1 ≤ css.length ∧ css.length ≤ 16) ?_ ?_
    · have F1 : Feed H1 f c (B + 2) := F2.same s1
      refine ⟨_, rfl, _, rfl, f, c, _, B + 2, rfl, by omega, by omega, F1, by omega, fun d H2' d0 d1 F2' b2 => ?_⟩
      refine ⟨_, _, rfl, rfl, 1 + d, rfl, by omega, by omega, for_range (Pv := fun i σ H' => ∃ (y4 y5 : Option V) (css : List (List Int)), σ = [some (.ref f), some (.int m), some (.int ma), some (.int wi), some (.ref L), y4, y5] ∧ Feed H' f c (B + 3 + 30 * i) ∧ Ke (· = f) H2 H' ∧ Ls H' L css ∧ (∀ cs ∈ css, Of m cs) ∧ css.length = i) ?_ ?_ ?_⟩
      · exact ⟨none, none, [], rfl, F2', (Ke.same s1).trans b2, ⟨[], b2.lst hL nLf, rfl, fun i x cs h => by simp at h⟩, fun cs h => (nomatch h), rfl⟩
      · rintro i σ H3 hi ⟨y4, y5, css, rfl, F3, k3, ⟨vs, hL3, lv, hv⟩, oc, lc⟩
        have hi : i < (1 + d).toNat := hi
        refine Evl.q_cut (M := fun σ' H' => ∃ (p : Addr) (cs : List Int), σ' = [some (.ref f), some (.int m), some (.int ma), some (.int wi), some (.ref L), some (.int (0 + (i : Int))), some (.ref p)] ∧ Feed H' f c (B + 3 + 30 * i + 21) ∧ Ke (· = f) H3 H' ∧ H' p = some (.tup (cs.map V.int)) ∧ Of m cs) ?_ ?_
        · refine ⟨_, rfl, _, rfl, _, rfl, f, c, m, wi, _, rfl, m0, m8, wi0, wi8, F3, by omega, fun cs p H6 F6 k6 _ hp h1 h2 _ => ?_⟩
          exact ⟨p, cs, rfl, F6.mono (by omega), k6, hp, h1, h2⟩
        rintro σ' H4 ⟨p, cs, rfl, F4, k4, hp, hc⟩
        -- if claim == () and ..
        refine Evl.q_cut (M := fun σ' H' => ∃ (p : Addr) (cs : List Int), σ' = [some (.ref f), some (.int m), some (.int ma), some (.int wi), some (.ref L), some (.int (0 + (i : Int))), some (.ref p)] ∧ Feed H' f c (B + 3 + 30 * i + 23) ∧ Ke (· = f) H3 H' ∧ H' p = some (.tup (cs.map V.int)) ∧ Of m cs) ?_ ?_
        · refine ⟨_, rfl, Nat.zero_le _, fun p5 H5 np5 s5 hp5 _ => ?_⟩
          have F5 := F4.same s5
          have k5 : Ke (· = f) H3 H5 := k4.trans (.same s5)
          refine ⟨_, _, .tup (.of (s5 _ _ hp)) (dp_ints cs), .tup (.of hp5) .nil, shaped_tuple (flat_ints _), shaped_tuple rfl, _, rfl, ite2 (fun e => ?_) (fun e => ?_)⟩
          · refine ⟨_, rfl, f, c, 8, _, rfl, by decide, by decide, F5, by omega, fun g H6 g0 g1 F6 b6 => ?_⟩
            have k6 : Ke (· = f) H3 H6 := k5.trans b6
            refine ⟨_, _, rfl, rfl, _, rfl, ite2 (fun e => ?_) (fun e => ?_)⟩
            · refine ⟨_, rfl, _, rfl, f, c, m, _, rfl, by omega, by omega, F6, by omega, fun g H7 g0 g1 F7 b7 => ?_⟩
              refine ⟨_, _, rfl, rfl, by show 1 ≤ sizeLine; decide, fun p8 H8 np8 s8 hp8 _ => ?_⟩
              exact ⟨p8, [1 + g], rfl, (F7.same s8).mono (by omega), (k6.trans b7).trans (.same s8), hp8, of_one (by omega) (by omega) m8⟩
            · exact ⟨p, cs, rfl, F6.mono (by omega), k6, b6.tups _ _ (s5 _ _ hp), hc⟩
          · exact ⟨p, cs, rfl, F5.mono (by omega), k5, s5 _ _ hp, hc⟩
        rintro σ' H5 ⟨p, cs, rfl, F5, k5, hp, hc⟩
        -- found.append(claim)
        have hL5 : H5 L = some (.lst vs) := k5.lst hL3 nLf
        refine ⟨_, rfl, .inl ⟨rfl, _, .of hL5⟩, _, rfl, L, _, _, rfl, rfl, hL5, small1000 (by omega), ?_⟩
        have k6 : Ke (· = f) H2 (upd H5 L (.lst (vs ++ [.ref p]))) := (k3.trans k5).write frL2 hL5
        have tp : ∀ {x : V} {ds : List Int}, TupI H5 x ds → TupI (upd H5 L (.lst (vs ++ [.ref p]))) x ds := fun {x ds} ⟨a, e, h⟩ => ⟨a, e, by
          have n : a ≠ L := fun z => by
            rw [z, hL5] at h
            cases h
          rw [upd_ne n]
          exact h⟩
        refine ⟨_, _, css ++ [cs], rfl, (F5.upd nLf nLc).mono (by omega), k6, ⟨vs ++ [.ref p], upd_same, by rw [List.length_append, List.length_append, lv]; rfl, ix_append lv (fun i x ds h1 h2 => tp ((hv i x ds h1 h2).ke k5)) (tp ⟨p, rfl, hp⟩)⟩, fun ds hd => ?_, by rw [List.length_append, lc]; rfl⟩
        rcases List.mem_append.mp hd with z | z
        · exact oc ds z
        · rw [List.mem_singleton.mp z]
          exact hc
      · rintro σ H3 ⟨y4, y5, css, rfl, F3, k3, ls, oc, lc⟩
        have lc' : css.length = (1 + d).toNat := lc
        exact ⟨y4, y5, css, rfl, F3.mono (by omega), k3, ls, oc, by omega, by omega⟩
    rintro σ' H3 ⟨y4, y5, css, rfl, F3, k3, ⟨vs, hL2, lv, hv⟩, oc, l1, l2⟩
    refine ⟨_, rfl, L, vs, rfl, .of hL2, fun p H4 np s4 hp _ => ?_⟩
    have k4 : Ke (· = f) H3 H4 := .same s4
    exact q css p H4 (F3.same s4) (k2.trans (k3.trans k4)) (.ke k2 F2 (.ke k3 F3 (.of np))) ⟨p, vs, rfl, hp, lv, fun i x cs h1 h2 => (hv i x cs h1 h2).ke k4⟩ oc l1 l2
end
end Cl
namespace Fo
open PySem PySem.Spec PyProof.Rows L2 GxR Nw Dr Kp
/-! ### what held says force: falls and stands do not hang on the order of the steps -/
theorem in_ints (k : Int) : ∀ cs : List Int, inV (.int k) (cs.map V.int) = true ↔ k ∈ cs
  | [] => by
    constructor
    · intro h
      cases h
    · intro h
      cases h
  | c :: r => by
    have ih := in_ints k r
    show (eqV (.int c) (.int k) || inV (.int k) (r.map V.int)) = true ↔ _
    rw [Bool.or_eq_true, ih, List.mem_cons]
    have e : eqV (.int c) (.int k) = true ↔ k = c := by
      show (c == k) = true ↔ k = c
      rw [beq_iff_eq]
      exact eq_comm
    rw [e]
/-- what is left of a claim where these are held -/
def left (cs held : List Int) : List Int := cs.filter fun s => !inV (.int (-s)) (held.map V.int)
theorem mem_left {cs held : List Int} {x : Int} : x ∈ left cs held ↔ x ∈ cs ∧ -x ∉ held := by
  unfold left
  rw [List.mem_filter, Bool.not_eq_true', Bool.eq_false_iff]
  exact ⟨fun ⟨a, b⟩ => ⟨a, fun z => b ((in_ints _ _).mpr z)⟩, fun ⟨a, b⟩ => ⟨a, fun z => b ((in_ints _ _).mp z)⟩⟩
theorem left_nil {cs held : List Int} : left cs held = [] ↔ ∀ y ∈ cs, -y ∈ held := by
  constructor
  · intro h y hy
    exact Classical.byContradiction fun z => by
      have := mem_left.mpr ⟨hy, z⟩
      rw [h] at this
      exact nomatch this
  · intro h
    exact List.eq_nil_iff_forall_not_mem.mpr fun x hx => (mem_left.mp hx).2 (h x (mem_left.mp hx).1)
/-- says: none twice, from -8 to 8 -/
structure Sy (cs : List Int) : Prop where
  nd : cs.Nodup
  bd : ∀ s ∈ cs, -8 ≤ s ∧ s ≤ 8
theorem sub_len : ∀ {xs L : List Int}, xs.Nodup → (∀ x ∈ xs, x ∈ L) → xs.length ≤ L.length
  | [], _, _, _ => Nat.zero_le _
  | x :: r, L, nd, h => by
    obtain ⟨n1, n2⟩ := List.nodup_cons.mp nd
    have m := h x List.mem_cons_self
    have ih := sub_len (xs := r) (L := L.erase x) n2 fun y hy => (List.mem_erase_of_ne fun e => n1 (by rw [← e]; exact hy)).mpr (h y (List.mem_cons_of_mem _ hy))
    rw [List.length_erase_of_mem m] at ih
    have := List.length_pos_of_mem m
    rw [List.length_cons]
    omega
theorem Sy.len {cs : List Int} (h : Sy cs) : cs.length ≤ 17 := by
  have := sub_len (L := (List.range 17).map fun i => ((i : Nat) : Int) - 8) h.nd fun x hx => List.mem_map.mpr ⟨(x + 8).toNat, List.mem_range.mpr (by have := h.bd x hx; omega), by have := h.bd x hx; omega⟩
  rw [List.length_map, List.length_range] at this
  exact this
theorem Sy.of {cs : List Int} (h : IsCl cs) : Sy cs := ⟨h.up.imp fun {a b} z => by omega, fun s hs => (h.says s hs).2⟩
/-- the claim forces x -/
def Forces (cs held : List Int) (x : Int) : Prop := left cs held = [x] ∧ x ∉ held
inductive Der (css : List (List Int)) (says : List Int) : Int → Prop where
  | base {s : Int} : s ∈ says → Der css says s
  | step {cs : List Int} {x : Int} : cs ∈ css → x ∈ cs → (∀ y ∈ cs, y ≠ x → Der css says (-y)) → Der css says x
def Fall (css : List (List Int)) (says : List Int) : Prop := ∃ cs ∈ css, ∀ y ∈ cs, Der css says (-y)
def Stand (css : List (List Int)) (held : List Int) : Prop := ∀ cs ∈ css, left cs held ≠ [] ∧ ∀ x, ¬ Forces cs held x
variable {css : List (List Int)} {says held cs : List Int} {x : Int}
theorem Forces.mem (h : Forces cs held x) : x ∈ cs := (mem_left.mp (by rw [h.1]; exact List.mem_singleton.mpr rfl : x ∈ left cs held)).1
theorem der_of (d : ∀ y ∈ held, Der css says y) (hc : cs ∈ css) (h : Forces cs held x) : Der css says x :=
  .step hc h.mem fun y hy ne => d _ (Classical.byContradiction fun z => ne (by
    have := mem_left.mpr ⟨hy, z⟩
    rw [h.1] at this
    exact List.mem_singleton.mp this))
theorem fall_of (d : ∀ y ∈ held, Der css says y) (hc : cs ∈ css) (h : left cs held = []) : Fall css says := ⟨cs, hc, fun y hy => d _ (left_nil.mp h y hy)⟩
theorem one_of : ∀ {l : List Int} {x : Int}, l.Nodup → (∀ y ∈ l, y = x) → l ≠ [] → l = [x]
  | [], _, _, _, h => absurd rfl h
  | [a], x, _, h, _ => by rw [h a List.mem_cons_self]
  | a :: b :: r, x, nd, h, _ => by
    have e1 := h a List.mem_cons_self
    have e2 := h b (List.mem_cons_of_mem _ List.mem_cons_self)
    exact absurd (e1.trans e2.symm) (List.nodup_cons.mp nd |>.1 |> fun n e => n (e ▸ List.mem_cons_self))
theorem Stand.der (S : Stand css held) (nd : ∀ cs ∈ css, cs.Nodup) (b : ∀ s ∈ says, s ∈ held) {x : Int} (d : Der css says x) : x ∈ held := by
  induction d with
  | base h => exact b _ h
  | @step cs x hc hx _ ih =>
    obtain ⟨s1, s2⟩ := S cs hc
    have e := one_of (l := left cs held) (x := x) ((nd cs hc).filter _) (fun y hy => Classical.byContradiction fun z => (mem_left.mp hy).2 (ih y (mem_left.mp hy).1 z)) s1
    exact Classical.byContradiction fun z => s2 x ⟨e, z⟩
theorem Stand.no (S : Stand css held) (nd : ∀ cs ∈ css, cs.Nodup) (b : ∀ s ∈ says, s ∈ held) : ¬ Fall css says := fun ⟨cs, hc, h⟩ => (S cs hc).1 (left_nil.mpr fun y hy => S.der nd b (h y hy))
/-- steps, one behind the other -/
def StepsOk (css : List (List Int)) (says : List Int) (steps : List (Nat × Int)) : Prop := ∀ (i : Nat) (s : Nat × Int), steps[i]? = some s → ∃ cs, css[s.1]? = some cs ∧ Forces cs (says ++ (steps.take i).map (·.2)) s.2
theorem StepsOk.nil : StepsOk css says [] := fun i s h => by simp at h
theorem StepsOk.snoc {steps : List (Nat × Int)} {n : Nat} (h : StepsOk css says steps) (hc : css[n]? = some cs) (f : Forces cs (says ++ steps.map (·.2)) x) : StepsOk css says (steps ++ [(n, x)]) := by
  intro i s hs
  by_cases hi : i < steps.length
  · rw [List.getElem?_append_left hi] at hs
    rw [List.take_append_of_le_length (Nat.le_of_lt hi)]
    exact h i s hs
  · have e : i = steps.length := by
      have := (List.getElem?_eq_some_iff.mp hs).1
      rw [List.length_append, List.length_singleton] at this
      omega
    subst e
    rw [List.getElem?_append_right (Nat.le_refl _), Nat.sub_self] at hs
    cases hs
    rw [List.take_append_of_le_length (Nat.le_refl _), List.take_length]
    exact ⟨cs, hc, f⟩
theorem StepsOk.der {steps : List (Nat × Int)} (h : StepsOk css says steps) : ∀ n, ∀ y ∈ says ++ (steps.take n).map (·.2), Der css says y
  | 0, y, hy => .base (by simpa using hy)
  | n + 1, y, hy => by
    have ih := StepsOk.der h n
    cases e : steps[n]? with
    | none =>
      rw [List.take_add_one, e] at hy
      exact ih y (by simpa using hy)
    | some s =>
      rw [List.take_add_one, e, List.map_append, ← List.append_assoc] at hy
      rcases List.mem_append.mp hy with z | z
      · exact ih y z
      · obtain ⟨cs, hc, f⟩ := h n s e
        have : y = s.2 := by simpa using z
        rw [this]
        exact der_of ih (List.mem_of_getElem? hc) f
theorem StepsOk.all {steps : List (Nat × Int)} (h : StepsOk css says steps) : ∀ y ∈ says ++ steps.map (·.2), Der css says y := by
  have := h.der steps.length
  rw [List.take_length] at this
  exact this
theorem sy_snoc (h : Sy held) (hc : Sy cs) (f : Forces cs held x) : Sy (held ++ [x]) := by
  refine ⟨List.nodup_append.mpr ⟨h.nd, by simp, fun a ha b hb e => f.2 (by rw [← List.mem_singleton.mp hb, ← e]; exact ha)⟩, fun s hs => ?_⟩
  rcases List.mem_append.mp hs with z | z
  · exact h.bd s z
  · rw [List.mem_singleton.mp z]
    exact hc.bd x f.mem
end Fo
namespace Se
open PySem PySem.Spec PyProof.Rows L2 GxR Nw Dr Kp
/-- a def of the text whose code object stands at c -/
structure FunC (K : PySem.W.Frag) (x qual : Str) (st : Stmt) (f c : Addr) (fd : FuncData) : Prop where
  ex : ∃ (oc : Value) (od : Option Addr) (kV doc pm : Value) (an : Option Addr) (ct : Value) (osl : Array (Option Value)), fd = PySem.W.fnOf x qual (defArgs st) (defBody st) (defScope st) .none kV doc pm an (.ref c) ct ∧ K.lookup f = some ⟨oc, od, .func fd, osl⟩ ∧ PySem.W.codeIn K (.ref c) qual = true
  kp : PySem.W.keepIn K (.ref f) = true
section
variable {P : Program} {w : World} {K : PySem.W.Frag} {mg : Str → Option Value} {base : Heap}
theorem FunC.fn {x qual : Str} {st : Stmt} {f c : Addr} {fd : FuncData} (F : FunC K x qual st f c fd) : Fun K x qual st f fd := by
  obtain ⟨oc, od, kV, doc, pm, an, ct, osl, e, l, cd⟩ := F.ex
  exact ⟨⟨oc, od, kV, doc, pm, an, .ref c, ct, osl, e, l, cd⟩, F.kp⟩
theorem FunC.ok {x qual : Str} {st : Stmt} {f c : Addr} {fd : FuncData} {N ps : List Str} {k : Nat} {sp : Sp} (F : FunC K x qual st f c fd) (S : FnScope N ps (defScope st)) (len : ∀ vs H Q E, sp vs H Q E → vs.length = ps.length)
    (body : ∀ (A : Around) (outer : List Env) (s : Shared) (H : Hp) (vs : List V) (Q : VK) (E : XK), Room k (A.deeper (envOfC qual (defScope st) s.heap.objs.size f (.ref c))) → sp vs H Q E →
      ∃ t, PSs (cxOf CX0 P w K mg base N qual (defScope st) f (.ref c) A outer s H E).nox (defBody st) t ∧ t { nx := fun _ H' => Q .non H', rt := Q } (start N vs) H) : FnOk P w K mg base CX0 (k + 1) f fd ps sp := by
  obtain ⟨oc, od, kV, doc, pm, an, ct, osl, rfl, lk, hcd⟩ := F.ex
  refine fn_of lk hcd S len fun A outer s H vs Q E hr hsp => ?_
  obtain ⟨t, h, q⟩ := body A outer s H vs Q E hr hsp
  exact ⟨t, h.nox, q⟩
end
end Se
namespace Sl
open PySem PySem.Spec PyProof.Rows L2
theorem filter_take {α : Type} {f : α → Bool} {l : List α} {i : Nat} {x : α} (h : l[i]? = some x) : (l.take (i + 1)).filter f = (l.take i).filter f ++ (if f x = true then [x] else []) := by
  rw [List.take_add_one, h, List.filter_append]
  congr 1
  show List.filter f [x] = _
  cases e : f x with
  | true => rw [List.filter_cons_of_pos e]; rfl
  | false => rw [List.filter_cons_of_neg (by rw [e]; decide)]; rfl
theorem filter_all {α : Type} (f : α → Bool) (l : List α) : decide (V.int ((l.filter (fun x => !f x)).length : Int) = V.int 0) = l.all f := by
  cases e : l.all f with
  | true =>
    have z : l.filter (fun x => !f x) = [] := List.filter_eq_nil_iff.mpr fun x hx h => by
      have := List.all_eq_true.mp e x hx
      rw [this] at h
      cases h
    rw [z]
    rfl
  | false =>
    obtain ⟨x, hx, h⟩ := List.all_eq_false.mp e
    have := List.length_pos_of_mem (List.mem_filter (p := fun x => !f x).mpr ⟨hx, (by cases g : f x with | true => exact absurd g h | false => rfl : (!f x) = true)⟩)
    exact decide_eq_false fun z => by
      have := V.int.inj z
      omega
end Sl
namespace PySem
/-! ### enumerate(a tuple) -/
set_option maxHeartbeats 2000000 in
theorem en_new (t : Addr) (its : Array Value) : Meets (Builtin.«enumerate.__new__» ⟨[.type "enumerate", .ref t], []⟩) (fun _ R s => s.heap.IsTuple t its ∧
    R (.ok (.ret (.ref (s.heap.push { cls := .type "tuple_iterator", data := .fields #[.ref t, .int 0 0] }).objs.size))) { s with heap := (s.heap.push { cls := .type "tuple_iterator", data := .fields #[.ref t, .int 0 0] }).push { cls := .type "enumerate", data := .fields #[.none, .bool false, .ref s.heap.objs.size, rawInt 0, .none, .none] } }) :=
  .of_wp fun prog w A R s z => by
    obtain ⟨hp, g, d, tk, os⟩ := s
    obtain ⟨ht, z⟩ := z
    have hsub := sub_enumerate
    have go : ∀ {A' : Around} {E : Value → Shared → Prop} {Q : Value → Shared → Prop}, Q (.ref hp.objs.size) ⟨hp.push { cls := .type "tuple_iterator", data := .fields #[.ref t, .int 0 0] }, g, d, tk, os⟩ → wpAny (model prog w) A' (pyIter (.ref t)) Q E ⟨hp, g, d, tk, os⟩ := fun q => wpAny_pyIter_tuple (s := ⟨hp, g, d, tk, os⟩) ht q
    wp_walk using go
    refine wpAny_stack_any fun st => wpAny_pure ?_
    split
    · rename_i c _ _ _ _ _
      cases (c == Value.type "enumerate") <;> (wp_walk using go; exact ⟨_, rfl, z⟩)
    · wp_walk using go; exact ⟨_, rfl, z⟩
theorem en_call {prog : Program} {w : World} {A : Around} {E : Value → Shared → Prop} {s : Shared} {t : Addr} {its : Array Value} {Q : Value → Shared → Prop} (ht : s.heap.IsTuple t its)
    (h : ∀ h', IsEnum h' (s.heap.objs.size + 1) s.heap.objs.size 0 .none → h'.IsTupleIter s.heap.objs.size t 0 → (∀ b o, s.heap.get? b = some o → h'.get? b = some o) → Q (.ref (s.heap.objs.size + 1)) { s with heap := h' }) :
    wpAny (model prog w) A (call (.type "enumerate") [.ref t]) Q E s := by
  refine callType_new F.called_enumerate (by decide) (F.typeCall_enumerate_1 _) (F.newCall_enumerate_1 _) (fun obj => F.args_object_init_2 obj _) F.entry_enumerate_new (en_new t its) ⟨ht, ?_⟩
  have hz : (s.heap.push { cls := .type "tuple_iterator", data := .fields #[.ref t, .int 0 0] }).objs.size = s.heap.objs.size + 1 := Heap.size_push ..
  show _ ∧ _
  rw [hz]
  have e1 := Heap.get?_push_size (s.heap.push { cls := .type "tuple_iterator", data := .fields #[.ref t, .int 0 0] }) (o := { cls := .type "enumerate", data := .fields #[.none, .bool false, .ref s.heap.objs.size, rawInt 0, .none, .none] }) rfl
  rw [hz] at e1
  exact ⟨⟨_, e1, rfl⟩, h _ e1 ⟨_, Heap.get?_push_of_some _ (Heap.get?_push_size _ rfl), rfl, rfl⟩ fun b o x => Heap.get?_push_of_some _ (Heap.get?_push_of_some _ x)⟩
end PySem
namespace En
open PySem PySem.Spec PyProof.Rows L2
theorem apart {h : Heap} {a e it : Addr} {vs : Array Value} {i : Nat} {old : Value} {c : Int} (p : h.IsTuple a vs) (hit : h.IsTupleIter it a i) (he : IsEnum h e it c old) : a ≠ it ∧ a ≠ e := by
  obtain ⟨o, e1, c1, _⟩ := p
  obtain ⟨o2, e2, c2, _⟩ := hit
  refine ⟨fun z => ?_, fun z => ?_⟩
  · rw [z, e2] at e1
    cases e1
    rw [c2] at c1
    simp at c1
  · have he : h.get? e = some _ := he
    rw [z, he] at e1
    cases e1
    simp at c1
/-- the tuple at a, each item in a new pair -/
def ItE (K : PySem.W.Frag) (a : Addr) : It :=
  ⟨fun i H => ∃ (xs : List V) (x : V), SqT K H a xs ∧ xs[i]? = some x, fun i H v H' => ∃ T x, v = .ref T ∧ H T = none ∧ H' = upd H T (.tup [.int (i : Nat), x]) ∧ ∀ xs, SqT K H a xs → xs[i]? = some x, fun i H => ∃ xs : List V, SqT K H a xs ∧ xs.length = i⟩
theorem turn {P : Program} {w : World} {K : PySem.W.Frag} {elts : List Expr} {kk : Nat} {tpos : Pos} (a e it : Addr) :
    Turn P w K (.Tuple elts kk tpos) (ItE K a) [e, it] e (fun i h => (∃ old, IsEnum h e it ((i : Nat) : Int) old) ∧ h.IsTupleIter it a i ∧ e ≠ it) where
  mem := by simp
  obj := fun i h st b hb => by
    obtain ⟨⟨old, he⟩, ⟨o, ho, _, hd⟩, _⟩ := st
    simp only [List.mem_cons, List.not_mem_nil, or_false] at hb
    rcases hb with rfl | rfl
    · exact ⟨_, he, fun v q => nomatch q⟩
    · exact ⟨o, ho, fun v q => by rw [hd] at q; cases q⟩
  keep := fun i h h' st k => let ⟨⟨old, he⟩, hi, ne⟩ := st; ⟨⟨old, k e (by simp) _ he⟩, hi.at fun o q => k it (by simp) o q, ne⟩
  item := by
    intro X hP hw hK hc i pins s σ H E I hf st hg
    subst hP hw hK
    obtain ⟨⟨old, he⟩, hit, ne⟩ := st
    obtain ⟨xs, x, hq, hx⟩ := hg
    obtain ⟨its, rv, p, hz⟩ := I.tuple hq
    have p : s.heap.IsTuple a its.toArray := p
    obtain ⟨u, hu, ru⟩ := rv.get hx
    obtain ⟨n1, n2⟩ := apart p hit he
    have le := Heap.lt_size he
    have li : it < s.heap.objs.size := by obtain ⟨_, q, _⟩ := hit; exact Heap.lt_size q
    have lt : i < its.toArray.size := by
      have := (List.getElem?_eq_some_iff.mp hu).1
      simpa using this
    refine wpAny_pyNext_enum_itemD (Draws.tuple (A := X.A.in1) (I.ok.hd hc) it a n1 its.toArray) he ⟨hit, p⟩ lt ne (by simp [ne, Ne.symm n2]) fun x' h1 tk q1 q2 q3 q4 q5 q6 => ?_
    obtain rfl : x' = u := by
      have q1 : its.toArray[i]? = some x' := q1
      rw [List.getElem?_toArray, hu] at q1
      exact (Option.some.inj q1).symm
    refine ⟨_, rfl, wpAny_letOwnedTupleGo_enum (s := { s with heap := h1, toks := tk + 1 }) q2 fun h2 he2 sb => ?_⟩
    have hT : h2.get? s.heap.objs.size = some { cls := .type "tuple", data := .seq #[.int i tk, x'] } := (sb.2 _ (Nat.ne_of_gt le)).trans q4
    have I1 : Inv X pins σ (upd H s.heap.objs.size (.tup [.int (i : Nat), x])) { s with heap := h2, toks := tk + 1 } :=
      I.turnedNew (ch := [e, it]) (fun b ob hb q => (sb.2 b (fun z => hb (by simp [z]))).trans (q6 b ob (fun z => hb (by simp [z])) (fun z => hb (by simp [z])) q)) hf (Nat.le_refl _)
        ⟨by show 2 ≤ sizeLine; decide, [.int i tk, x'], .cons ⟨_, rfl⟩ (.cons ru .nil), ⟨_, hT, rfl, _, rfl⟩⟩
    refine ⟨.ref s.heap.objs.size, _, I1, rfl, ⟨_, x, rfl, I.hok.fresh (Nat.le_refl _), rfl, fun ys hy => by rw [I.tuple_inj hy hq]; exact hx⟩, ⟨⟨x', ?_⟩, q3.1.at fun o q => (sb.2 it (Ne.symm ne)).trans q, ne⟩, fun b hb => ?_⟩
    · rw [show ((i + 1 : Nat) : Int) = (i : Int) + 1 by omega]
      exact he2
    · have lb : b < s.heap.objs.size := by
        have hb' : b = e ∨ b = it := by simpa using hb
        rcases hb' with z | z <;> rw [z] <;> assumption
      rw [upd_ne (Nat.ne_of_lt lb)]
      exact (hf b hb).1
  done := by
    intro X hP hw hK hc i pins s σ H E I hf st hg
    subst hP hw hK
    obtain ⟨⟨old, he⟩, hit, ne⟩ := st
    obtain ⟨xs, hq, hx⟩ := hg
    obtain ⟨its, rv, p, hz⟩ := I.tuple hq
    have p : s.heap.IsTuple a its.toArray := p
    obtain ⟨n1, n2⟩ := apart p hit he
    obtain ⟨f0, f1, f2, f3, f4, f5⟩ := hf it (by simp)
    have e1 : its.toArray.size = i := by
      have := rv.length
      rw [List.size_toArray]
      omega
    exact wpAny_pyNext_enum_endD (Draws.tuple (A := X.A.in1) (I.ok.hd hc) it a n1 its.toArray) he ⟨by rw [e1]; exact hit, p⟩ fun h1 eb => ⟨rfl, I.turned (t' := s.toks) (fun b o hb q => eb b o hb q) f0 f1 f3 f4 f5⟩
  self := fun A i s Q E st h => let ⟨⟨_, he⟩, _⟩ := st; wpAny_pyIter_enum he h
def iEn (K : PySem.W.Frag) (ta : TA) : TI := fun σ H R => ta σ H fun vs H1 => ∃ a xs, vs = [.ref a] ∧ SqT K H1 a xs ∧ R (ItE K a) H1
end En
theorem L2.pi_enumT {X : L2.Cx} {e : PySem.Expr} {ta : L2.TA} {p pos tpos : PySem.Pos} {elts : List PySem.Expr} {kk : Nat} (hg : L2.Gl X "enumerate") (hm : X.mg "enumerate" = none) (ha : L2.PA X [e] ta) (hs : PySem.starEach [e] X.env = [(false, PySem.eval e X.env)] := by rfl) :
    L2.PI X (.Tuple elts kk tpos) (.Call (.Name "enumerate" p) [e] [] pos) (En.iEn X.K ta) := by
  open PySem PySem.Spec PyProof.Rows L2 in
  refine ⟨fun pins s σ H R I h => Call_ (ld_blt I hg hm boot_enumerate (PyProof.Rows.callWith_type1 (thn (ha.run pos pins s σ H _ I h) fun us s1 ⟨vs, H1, I1, r1, a, xs, ex, hq, q⟩ => ?_) hs rfl))⟩
  subst ex
  cases r1 with
  | cons r rr =>
    cases rr
    cases r
    obtain ⟨its, rv, pt, hz⟩ := I1.tuple hq
    refine PySem.en_call (its := its.toArray) pt fun h1 he hit hk => PySem.wpAny_pyIter_enum he ?_
    refine ⟨s1.heap.objs.size + 1, [s1.heap.objs.size + 1, s1.heap.objs.size], _, _, H1, rfl, I1.kept (t' := s1.toks) hk, En.turn a (s1.heap.objs.size + 1) s1.heap.objs.size, ⟨⟨.none, he⟩, hit, Nat.succ_ne_self _⟩, fun b hb => ?_, q⟩
    have le : s1.heap.objs.size ≤ b := by
      have hb' : b = s1.heap.objs.size + 1 ∨ b = s1.heap.objs.size := by simpa using hb
      rcases hb' with z | z <;> rw [z]
      · exact Nat.le_succ _
      · exact Nat.le_refl _
    exact I1.fpOk le (I1.hok.fresh le)
namespace En
open PySem PySem.Spec PyProof.Rows L2
theorem for_en {K : PySem.W.Frag} {a : Addr} {xs : List V} {g : TG} {tb : TS} {D : Ends} {σ : L2.St} {H : Hp} (Pv : Nat → L2.St → Hp → Prop) (h0 : Pv 0 σ H) (hl : ∀ i σ H, i ≤ xs.length → Pv i σ H → SqT K H a xs)
    (hs : ∀ i x σ H T, xs[i]? = some x → Pv i σ H → H T = none → g (.ref T) σ (upd H T (.tup [.int (i : Nat), x])) fun σ2 H2 => tb { D with nx := Pv (i + 1), ct := Pv (i + 1), bk := D.nx } σ2 H2) (hd : ∀ σ H, Pv xs.length σ H → D.nx σ H) :
    ∃ W : Nat → Nat → L2.St → Hp → Prop, (∃ m, W 0 m σ H) ∧ ∀ i m σ H, W i m σ H →
      ((ItE K a).stop i H ∧ D.nx σ H) ∨ ((ItE K a).go i H ∧ ∃ N : L2.St → Hp → Prop, (∀ σ' H', N σ' H' → ∃ m', m' < m ∧ W (i + 1) m' σ' H') ∧ ∀ x H', (ItE K a).yld i H x H' → g x σ H' fun σ2 H2 => tb { D with nx := N, ct := N, bk := D.nx } σ2 H2) := by
  refine ⟨fun i m σ H => i + m = xs.length ∧ Pv i σ H, ⟨xs.length, Nat.zero_add _, h0⟩, fun i m σ H ⟨e, p⟩ => ?_⟩
  have sq := hl i σ H (by omega) p
  cases m with
  | zero =>
    obtain rfl : i = xs.length := by omega
    exact .inl ⟨⟨xs, sq, rfl⟩, hd σ H p⟩
  | succ m =>
    have hx := List.getElem?_eq_getElem (show i < xs.length by omega)
    refine .inr ⟨⟨xs, _, sq, hx⟩, Pv (i + 1), fun σ' H' q => ⟨m, Nat.lt_succ_self m, by omega, q⟩, ?_⟩
    rintro y H' ⟨T, x, rfl, nT, rfl, hy⟩
    exact hs i x σ H T (hy xs sq) p nT
theorem lc_en {K : PySem.W.Frag} {a : Addr} {xs : List V} {g : TG} {tt : TT} {te : TE} {vs : List Nat} {σ : L2.St} {H1 : Hp} {D : Addr} {Qd : Hp → Prop} (Pv : Nat → Hp → Prop) (h0 : Pv 0 (upd H1 D (.lst []))) (hl : ∀ i H, i ≤ xs.length → Pv i H → SqT K H a xs)
    (hs : ∀ i x H T, xs[i]? = some x → Pv i H → H T = none → g (.ref T) (wipe σ vs) (upd H T (.tup [.int (i : Nat), x])) fun σ2 H2 => wipe σ2 vs = wipe σ vs ∧ tt σ2 H2 fun b H3 => if b = true then te σ2 H3 fun y H4 => ∃ acc, H4 D = some (.lst acc) ∧ acc.length < sizeLine ∧ Pv (i + 1) (upd H4 D (.lst (acc ++ [y]))) else Pv (i + 1) H3) (hd : ∀ H, Pv xs.length H → Qd H) :
    ∃ W : Nat → Nat → Hp → Prop, (∃ m, W 0 m (upd H1 D (.lst []))) ∧ ∀ i m H, W i m H →
      ((ItE K a).stop i H ∧ Qd H) ∨ ((ItE K a).go i H ∧ ∃ Nx : Hp → Prop, (∀ H', Nx H' → ∃ m', m' < m ∧ W (i + 1) m' H') ∧ ∀ x H', (ItE K a).yld i H x H' → g x (wipe σ vs) H' fun σ2 H2 => wipe σ2 vs = wipe σ vs ∧ tt σ2 H2 fun b H3 =>
        if b = true then te σ2 H3 fun y H4 => ∃ acc, H4 D = some (.lst acc) ∧ acc.length < sizeLine ∧ Nx (upd H4 D (.lst (acc ++ [y]))) else Nx H3) := by
  refine ⟨fun i m H => i + m = xs.length ∧ Pv i H, ⟨xs.length, Nat.zero_add _, h0⟩, fun i m H ⟨e, p⟩ => ?_⟩
  have sq := hl i H (by omega) p
  cases m with
  | zero =>
    obtain rfl : i = xs.length := by omega
    exact .inl ⟨⟨xs, sq, rfl⟩, hd H p⟩
  | succ m =>
    have hx := List.getElem?_eq_getElem (show i < xs.length by omega)
    refine .inr ⟨⟨xs, _, sq, hx⟩, Pv (i + 1), fun H' q => ⟨m, Nat.lt_succ_self m, by omega, q⟩, ?_⟩
    rintro y H' ⟨T, x, rfl, nT, rfl, hy⟩
    exact hs i x H T (hy xs sq) p nT
end En
namespace Fo
open PySem PySem.Spec PyProof.Rows L2 GxR Nw Dr Kp Se Cl En
abbrev sFal : Stmt := topS 4
abbrev nFal : List Str := ["claim", "held", "say"]
theorem scFal : FnScope nFal ["claim", "held"] (defScope sFal) := ⟨rfl, rfl, rfl, by decide +kernel, rfl, by decide +kernel, by decide +kernel⟩
abbrev sFsy : Stmt := topS 5
abbrev nFsy : List Str := ["claim", "held", "left", "say"]
theorem scFsy : FnScope nFsy ["claim", "held"] (defScope sFsy) := ⟨rfl, rfl, rfl, by decide +kernel, rfl, by decide +kernel, by decide +kernel⟩
abbrev sFfa : Stmt := topS 6
theorem scFfa : FnScope ["claims", "held", "number", "claim"] ["claims", "held"] (defScope sFfa) := ⟨rfl, rfl, rfl, by decide +kernel, rfl, by decide +kernel, by decide +kernel⟩
abbrev sFst : Stmt := topS 7
theorem scFst : FnScope ["claims", "held", "number", "claim", "say"] ["claims", "held"] (defScope sFst) := ⟨rfl, rfl, rfl, by decide +kernel, rfl, by decide +kernel, by decide +kernel⟩
abbrev sFod : Stmt := topS 8
theorem scFod : FnScope ["claims", "says", "held", "steps", "number", "step"] ["claims", "says"] (defScope sFod) := ⟨rfl, rfl, rfl, by decide +kernel, rfl, by decide +kernel, by decide +kernel⟩
/-- the built-ins that stand as they stood -/
structure Zf (mg : Str → Option Value) : Prop where
  z_len : mg "len" = none
  z_list : mg "list" = none
  z_all : mg "all" = none
  z_enumerate : mg "enumerate" = none
theorem ints_flat (cs : List Int) : (cs.map V.int).all flatV = true := by
  rw [List.all_map, List.all_eq_true]
  exact fun _ _ => rfl
theorem at_int {ks : List Int} {i : Nat} {x : V} (hx : (ks.map V.int)[i]? = some x) : ∃ z, ks[i]? = some z ∧ x = V.int z := by
  rw [List.getElem?_map] at hx
  cases e : ks[i]? with
  | none =>
    rw [e] at hx
    cases hx
  | some z =>
    rw [e] at hx
    exact ⟨z, rfl, (Option.some.inj hx).symm⟩
theorem bk_at {H : Hp} {a : Addr} {vs : List V} {css : List (List Int)} {i : Nat} {x : V} (l : vs.length = css.length) (h : ∀ (i : Nat) (x : V) (cs : List Int), vs[i]? = some x → css[i]? = some cs → TupI H x cs) (hx : vs[i]? = some x) : ∃ cs, css[i]? = some cs ∧ TupI H x cs := by
  have li := (List.getElem?_eq_some_iff.mp hx).1
  have e := List.getElem?_eq_getElem (show i < css.length by omega)
  exact ⟨_, e, h i x _ hx e⟩
section
variable {P : Program} {w : World} {K : PySem.W.Frag} {mg : Str → Option Value} {base : Heap}
/-- falls(claim, held) -/
def spFal (Po : Addr) : Sp := fun vs H Q _ => ∃ (v : V) (a : Addr) (cs held : List Int), vs = [v, .ref a] ∧ TupI H v cs ∧ H a = some (.lst (held.map V.int)) ∧ TabG H Po ∧
  ∀ H' b, Ke Nof H H' → (b = true ↔ left cs held = []) → Q (.bl b) H'
theorem ok_fal {f c Po : Addr} {fd : FuncData} {k : Nat} (F : FunC K "falls" "falls" sFal f c fd) (T : Zf mg) (TB : TabB base mg c Po) : FnOk P w K mg base CX0 (k + 3) f fd ["claim", "held"] (spFal Po) := by
  refine F.ok scFal (fun vs H Q E h => ?_) (fun A outer s H vs Q E hr h => ?_)
  · obtain ⟨v, a, cs, held, rfl, _⟩ := h
    rfl
  · obtain ⟨v, b, cs, held, rfl, ⟨a, rfl, ha⟩, hb, tg, q⟩ := h
    refine ⟨_, (pss_one (ps_ret (Gx.pe_all hr (by rfl) T.z_all rfl scFal.nd TB rfl (pi_tup (pv 0)) (own := [("say", 2)]) (g := gName 2) (tt := tYes) (blkOk_by (N := nFal) (sc := defScope sFal) (by decide +kernel)) ⟨rfl, by decide +kernel, rfl⟩ (fun _ _ _ _ _ _ _ => pg_name (i := 2) scFal.nd rfl (.inl rfl)) (fun _ _ _ _ _ _ _ => pts_nil) (fun _ _ _ _ _ _ _ => (pe_cmpR (op_in_seqB (K := K) rfl) (pe_un un_neg (pv 2)) (pv 1) (by rfl)))))), ?_⟩
    refine ⟨_, rfl, a, rfl, ⟨_, .of ha⟩, tg, fun H1 tb => ?_⟩
    have k1 : Ke Nof H H1 := .tabbed tg tb
    refine Gx.aa_tup (xs := cs.map V.int) (Pv := fun i H' => Ke Nof H H' ∧ ∀ s ∈ cs.take i, -s ∈ held) ⟨k1, fun s hs => by simp at hs⟩ (fun i H' _ p => .of (p.1.tups _ _ ha)) ?_ ?_
    · rintro i x H' hx ⟨k2, p⟩
      obtain ⟨z, hz, rfl⟩ := at_int hx
      refine ⟨rfl, _, rfl, _, rfl, _, rfl, b, _, rfl, .inl (.of (k2.lst hb fun z => z)), rfl, ints_flat held, ?_⟩
      cases e : inV (.int (-z)) (held.map V.int) with
      | false =>
        refine .inl ⟨rfl, q H' false k2 ⟨fun y => (nomatch y), fun y => ?_⟩⟩
        have := left_nil.mp y z (List.mem_of_getElem? hz)
        rw [(in_ints _ _).mpr this] at e
        cases e
      | true =>
        refine .inr ⟨rfl, k2, fun s hs => ?_⟩
        rw [List.take_add_one, hz] at hs
        rcases List.mem_append.mp hs with y | y
        · exact p s y
        · have : s = z := by simpa using y
          rw [this]
          exact (in_ints _ _).mp e
    · rintro H' ⟨k2, p⟩
      rw [List.length_map, List.take_length] at p
      exact q H' true k2 ⟨fun _ => left_nil.mpr p, fun _ => rfl⟩
/-- forced_say(claim, held) -/
def spFsy : Sp := fun vs H Q _ => ∃ (v : V) (a : Addr) (cs held : List Int), vs = [v, .ref a] ∧ TupI H v cs ∧ H a = some (.lst (held.map V.int)) ∧ cs.length ≤ 20 ∧
  (∀ H' x, Same H H' → Forces cs held x → Q (.int x) H') ∧ ∀ H', Same H H' → (∀ x, ¬ Forces cs held x) → Q .non H'
theorem ok_fsy {f : Addr} {fd : FuncData} {k : Nat} (F : Fun K "forced_say" "forced_say" sFsy f fd) (T : Zf mg) : FnOk P w K mg base CX0 (k + 1) f fd ["claim", "held"] spFsy := by
  refine F.ok scFsy (fun vs H Q E h => ?_) (fun cdv A outer s H vs Q E hr h => ?_)
  · obtain ⟨v, a, cs, held, rfl, _⟩ := h
    rfl
  · obtain ⟨v, b, cs, held, rfl, ⟨a, rfl, ha⟩, hb, lc, q1, q2⟩ := h
    refine ⟨_, (Evl.pss_cut (ps_setLc (i := 2) (own := [("say", 3)]) (g := (gName 3))  rfl scFsy.nd rfl rfl (sw_true rfl rfl rfl (by decide +kernel)) (pi_tup (pv 0)) (blkOk_by (N := nFsy) (sc := defScope sFsy) (by decide +kernel)) (fun _ _ _ _ _ => (pg_name (i := 3) scFsy.nd rfl (.inl rfl))) (fun _ _ _ _ _ => (pts_one (pt_cmpR (op_notIn_seqB (K := K) rfl) (pe_un un_neg (pv 3)) (pv 1) (by rfl)))) (fun _ _ _ _ _ => (pv 3)))
      (pss_cons (ps_if (PW.pt (pw_and (pt_cmpR op_eq (pe_callB call_len_seq (by rfl) T.z_len (by decide +kernel) (pa_cons (pv 2) pa_nil)) pe_int (nomark _)) (pw_and1 (pt_cmpR op_notIn_seq (pe_ix ix_list (pv 2) pe_int (fun _ _ => rfl)) (pv 1) (by rfl))))) (pss_one (ps_ret (pe_ix ix_list (pv 2) pe_int (fun _ _ => rfl)))) pss_nil)
      (pss_one (ps_ret pe_non)))), ?_⟩
    refine Evl.q_cut (M := fun σ' H' => ∃ D, σ' = [some (.ref a), some (.ref b), some (.ref D), none] ∧ Same H H' ∧ H' D = some (.lst ((left cs held).map V.int))) ?_ ?_
    · refine ⟨_, rfl, a, rfl, ⟨_, .of ha⟩, fun D nD => ?_⟩
      refine lc_tup (xs := cs.map V.int) (Pv := fun i H' => Same H H' ∧ H' D = some (.lst (((cs.take i).filter fun s => !inV (.int (-s)) (held.map V.int)).map V.int))) ⟨same_new nD, upd_same⟩ (fun i H' _ p => .of (p.1 _ _ ha)) ?_ ?_
      · rintro i x H' hx ⟨s1, hD⟩
        obtain ⟨z, hz, rfl⟩ := at_int hx
        have ft := Sl.filter_take (f := fun s => !inV (.int (-s)) (held.map V.int)) hz
        refine ⟨rfl, _, rfl, _, rfl, _, rfl, b, _, rfl, .inl (.of (s1 _ _ hb)), rfl, ints_flat held, _, rfl, ite2 (fun y1 => ?_) (fun y1 => ?_)⟩
        · have y1 : (!inV (.int (-z)) (held.map V.int)) = true := y1
          refine ⟨_, rfl, _, hD, ?_, fun c o y => ?_, ?_⟩
          · rw [List.length_map]
            exact small1000 (Nat.le_trans (List.length_filter_le _ _) (by rw [List.length_take]; omega))
          · rw [upd_ne (ne_of_none y nD)]
            exact s1 _ _ y
          · rw [upd_same, ft, if_pos y1, List.map_append]
            rfl
        · have y1 : ¬ (!inV (.int (-z)) (held.map V.int)) = true := y1
          refine ⟨s1, ?_⟩
          rw [ft, if_neg y1, List.append_nil]
          exact hD
      · rintro H' ⟨s1, hD⟩
        rw [List.length_map, List.take_length] at hD
        exact ⟨D, rfl, s1, hD⟩
    rintro σ' H1 ⟨D, rfl, s1, hD⟩
    have hb1 := s1 _ _ hb
    refine ⟨_, rfl, D, _, rfl, .inl (.of hD), rfl, _, rfl, ite2 (fun e => ?_) (fun e => ?_)⟩
    · have l1 : (left cs held).length = 1 := by
        have := V.int.inj (of_decide_eq_true e)
        rw [List.length_map] at this
        omega
      obtain ⟨x, hx⟩ := List.length_eq_one_iff.mp l1
      rw [hx] at hD
      refine ⟨_, rfl, D, _, 0, .int x, rfl, rfl, .of hD, rfl, _, rfl, b, _, rfl, .inl (.of hb1), rfl, ints_flat held, _, rfl, ite2 (fun e2 => ?_) (fun e2 => ?_)⟩
      · have e2 : (!inV (.int x) (held.map V.int)) = true := e2
        refine ⟨_, rfl, D, _, 0, .int x, rfl, rfl, .of hD, rfl, q1 H1 x s1 ⟨hx, fun z => ?_⟩⟩
        rw [(in_ints _ _).mpr z] at e2
        cases e2
      · have e2 : ¬ (!inV (.int x) (held.map V.int)) = true := e2
        refine q2 H1 s1 fun y ⟨h1, h2⟩ => ?_
        rw [hx] at h1
        cases h1
        cases z : inV (.int x) (held.map V.int) with
        | true => exact h2 ((in_ints _ _).mp z)
        | false =>
          rw [z] at e2
          exact e2 rfl
    · refine q2 H1 s1 fun y ⟨h1, h2⟩ => ?_
      rw [h1] at e
      exact e rfl
/-- first_fall(claims, held) -/
def spFfa (Po : Addr) : Sp := fun vs H Q _ => ∃ (v : V) (a : Addr) (css : List (List Int)) (held : List Int), vs = [v, .ref a] ∧ Bk H v css ∧ H a = some (.lst (held.map V.int)) ∧ TabG H Po ∧
  (∀ H' (n : Nat) cs, Ke Nof H H' → css[n]? = some cs → left cs held = [] → Q (.int n) H') ∧ ∀ H', Ke Nof H H' → (∀ cs ∈ css, left cs held ≠ []) → Q .non H'
theorem ok_ffa {f fF Po : Addr} {fd fdF : FuncData} {k : Nat} (F : Fun K "first_fall" "first_fall" sFfa f fd) (T : Zf mg) (kF : PySem.W.keepIn K (.ref fF) = true) (bF : Binds K fdF ["claim", "held"] []) (gF : mg "falls" = some (.ref fF)) (GF : FnOk P w K mg base CX0 3 fF fdF ["claim", "held"] (spFal Po)) :
    FnOk P w K mg base CX0 (k + 4) f fd ["claims", "held"] (spFfa Po) := by
  refine F.ok scFfa (fun vs H Q E h => ?_) (fun cdv A outer s H vs Q E hr h => ?_)
  · obtain ⟨v, a, css, held, rfl, _⟩ := h
    rfl
  · obtain ⟨v, a, css, held, rfl, ⟨b, vs, rfl, hb, lv, hv⟩, ha, tg, q1, q2⟩ := h
    have hr3 : Room 3 _ := hr.mono (by omega)
    refine ⟨_, (pss_cons (ps_for PassesOwn.never rfl (pi_enumT (by rfl) T.z_enumerate (pa_cons (pv 0) pa_nil)) (pg_tup rfl (pgs_cons (pg_name (i := 2) scFfa.nd rfl (.inl rfl)) (pgs_cons (pg_name (i := 3) scFfa.nd rfl (.inl rfl)) pgs_nil))) (pss_one (ps_if (pt_val (pe_call GF hr3 (by rfl) gF kF bF .nil pass0 (pa_cons (pv 3) (pa_cons (pv 1) pa_nil)))) (pss_one (ps_ret (pv 2))) pss_nil)))
      (pss_one (ps_ret pe_non))), ?_⟩
    refine ⟨_, rfl, b, vs, rfl, .of hb, for_en (K := K) (a := b) (xs := vs) (Pv := fun i σ H' => ∃ y2 y3 : Option V, σ = [some (.ref b), some (.ref a), y2, y3] ∧ Ke Nof H H' ∧ ∀ cs ∈ css.take i, left cs held ≠ []) ?_ (fun i σ H' _ p => ?_) ?_ ?_⟩
    · exact ⟨none, none, rfl, .refl _ _, fun cs hc => by simp at hc⟩
    · obtain ⟨_, _, _, k1, _⟩ := p
      exact .of (k1.tups _ _ hb)
    · rintro i x σ H1 T' hx ⟨y2, y3, rfl, k1, p⟩ nT
      obtain ⟨cs, hc, tx⟩ := bk_at (a := b) lv hv hx
      have k2 : Ke Nof H (upd H1 T' (.tup [.int (i : Nat), x])) := k1.trans (.same (same_new nT))
      refine ⟨T', _, rfl, .of upd_same, rfl, _, _, rfl, _, _, rfl, rfl, ?_⟩
      generalize upd H1 T' (.tup [.int (i : Nat), x]) = H2 at k2
      refine ⟨_, rfl, _, rfl, x, a, cs, held, rfl, tx.ke k2, k2.lst ha fun z => z, k2.tabs _ tg, fun H3 d k3 hd => ⟨d, rfl, ite2 (fun e => ?_) (fun e => ?_)⟩⟩
      · exact ⟨_, rfl, q1 H3 i cs (k2.trans k3) hc (hd.mp e)⟩
      · refine ⟨_, _, rfl, k2.trans k3, fun ds hd2 => ?_⟩
        rw [List.take_add_one, hc] at hd2
        rcases List.mem_append.mp hd2 with y | y
        · exact p ds y
        · have : ds = cs := by simpa using y
          rw [this]
          exact fun z => e (hd.mpr z)
    · rintro σ H1 ⟨y2, y3, rfl, k1, p⟩
      rw [lv, List.take_length] at p
      exact q2 H1 k1 p
/-- first_step(claims, held) -/
def spFst : Sp := fun vs H Q _ => ∃ (v : V) (a : Addr) (css : List (List Int)) (held : List Int), vs = [v, .ref a] ∧ Bk H v css ∧ H a = some (.lst (held.map V.int)) ∧ (∀ cs ∈ css, Sy cs) ∧
  (∀ H' p (n : Nat) x cs, Ke Nof H H' → H' p = some (.tup [.int n, .int x]) → css[n]? = some cs → Forces cs held x → Q (.ref p) H') ∧ ∀ H', Ke Nof H H' → (∀ cs ∈ css, ∀ x, ¬ Forces cs held x) → Q .non H'
theorem ok_fst {f fY : Addr} {fd fdY : FuncData} {k : Nat} (F : Fun K "first_step" "first_step" sFst f fd) (T : Zf mg) (FY : Fun K "forced_say" "forced_say" sFsy fY fdY) (bY : Binds K fdY ["claim", "held"] []) (gY : mg "forced_say" = some (.ref fY)) (GY : FnOk P w K mg base CX0 1 fY fdY ["claim", "held"] spFsy) :
    FnOk P w K mg base CX0 (k + 2) f fd ["claims", "held"] spFst := by
  refine F.ok scFst (fun vs H Q E h => ?_) (fun cdv A outer s H vs Q E hr h => ?_)
  · obtain ⟨v, a, css, held, rfl, _⟩ := h
    rfl
  · obtain ⟨v, a, css, held, rfl, ⟨b, vs, rfl, hb, lv, hv⟩, ha, sy, q1, q2⟩ := h
    have hr1 : Room 1 _ := hr.mono (by omega)
    refine ⟨_, (pss_cons (ps_for PassesOwn.never rfl (pi_enumT (by rfl) T.z_enumerate (pa_cons (pv 0) pa_nil)) (pg_tup rfl (pgs_cons (pg_name (i := 2) scFst.nd rfl (.inl rfl)) (pgs_cons (pg_name (i := 3) scFst.nd rfl (.inl rfl)) pgs_nil))) (pss_cons (ps_set (i := 4) scFst.nd rfl (.inl rfl) (pe_call GY hr1 (by rfl) gY FY.kp bY .nil pass0 (pa_cons (pv 3) (pa_cons (pv 1) pa_nil))))
      (pss_one (ps_if (pt_cmpR op_notN (pv 4) pe_non (nomark _)) (pss_one (ps_ret (pe_tupN (pa_cons (pv 2) (pa_cons (pv 4) pa_nil))))) pss_nil))))
      (pss_one (ps_ret pe_non))), ?_⟩
    refine ⟨_, rfl, b, vs, rfl, .of hb, for_en (K := K) (a := b) (xs := vs) (Pv := fun i σ H' => ∃ y2 y3 y4 : Option V, σ = [some (.ref b), some (.ref a), y2, y3, y4] ∧ Ke Nof H H' ∧ ∀ cs ∈ css.take i, ∀ x, ¬ Forces cs held x) ?_ (fun i σ H' _ p => ?_) ?_ ?_⟩
    · exact ⟨none, none, none, rfl, .refl _ _, fun cs hc => by simp at hc⟩
    · obtain ⟨_, _, _, _, k1, _⟩ := p
      exact .of (k1.tups _ _ hb)
    · rintro i x σ H1 T' hx ⟨y2, y3, y4, rfl, k1, p⟩ nT
      obtain ⟨cs, hc, tx⟩ := bk_at (a := b) lv hv hx
      have k2 : Ke Nof H (upd H1 T' (.tup [.int (i : Nat), x])) := k1.trans (.same (same_new nT))
      refine ⟨T', _, rfl, .of upd_same, rfl, _, _, rfl, _, _, rfl, rfl, ?_⟩
      generalize upd H1 T' (.tup [.int (i : Nat), x]) = H2 at k2
      have lc := (sy cs (List.mem_of_getElem? hc)).len
      refine ⟨_, rfl, _, rfl, x, a, cs, held, rfl, tx.ke k2, k2.lst ha fun z => z, by omega, fun H3 z s3 hz => ?_, fun H3 s3 hn => ?_⟩
      · refine ⟨_, rfl, rfl, _, rfl, iteT ?_⟩
        refine ⟨_, rfl, _, rfl, by show 2 ≤ sizeLine; decide, fun p H4 np s4 hp _ => q1 H4 p i z cs (k2.trans ((Ke.same s3).trans (.same s4))) hp hc hz⟩
      · refine ⟨_, rfl, rfl, _, rfl, iteF ⟨_, _, _, rfl, k2.trans (.same s3), fun ds hd2 => ?_⟩⟩
        rw [List.take_add_one, hc] at hd2
        rcases List.mem_append.mp hd2 with y | y
        · exact p ds y
        · have : ds = cs := by simpa using y
          rw [this]
          exact hn
    · rintro σ H1 ⟨y2, y3, y4, rfl, k1, p⟩
      rw [lv, List.take_length] at p
      exact q2 H1 k1 p
end
end Fo
namespace Fo
open PySem PySem.Spec PyProof.Rows L2 GxR Nw Dr Kp Se Cl En
/-- a list of steps -/
def StL (H : Hp) (vs : List V) (steps : List (Nat × Int)) : Prop := vs.length = steps.length ∧ ∀ (i : Nat) (v : V) (s : Nat × Int), vs[i]? = some v → steps[i]? = some s → ∃ p, v = .ref p ∧ H p = some (.tup [.int (s.1 : Nat), .int s.2])
theorem StL.tups {H H' : Hp} {vs : List V} {steps : List (Nat × Int)} (h : StL H vs steps) (k : ∀ b xs, H b = some (.tup xs) → H' b = some (.tup xs)) : StL H' vs steps := ⟨h.1, fun i v s h1 h2 => by
  obtain ⟨p, e, hp⟩ := h.2 i v s h1 h2
  exact ⟨p, e, k _ _ hp⟩⟩
theorem upd_tup {H : Hp} {p : Addr} {ys : List V} {o : HO} (hp : H p = some (.lst ys)) : ∀ b xs, H b = some (.tup xs) → upd H p o b = some (.tup xs) := fun b xs h => by
  have n : b ≠ p := fun z => by
    rw [z, hp] at h
    cases h
  rw [upd_ne n]
  exact h
theorem StL.snoc {H : Hp} {vs : List V} {steps : List (Nat × Int)} {p : Addr} {n : Nat} {x : Int} (h : StL H vs steps) (hp : H p = some (.tup [.int n, .int x])) : StL H (vs ++ [.ref p]) (steps ++ [(n, x)]) :=
  ⟨by rw [List.length_append, List.length_append, h.1]; rfl, ix_append h.1 h.2 ⟨p, rfl, hp⟩⟩
def NumOk (css : List (List Int)) (held : List Int) (v : V) : Prop := (v = .non ∧ ∀ cs ∈ css, left cs held ≠ []) ∨ ∃ (n : Nat) (cs : List Int), v = .int n ∧ css[n]? = some cs ∧ left cs held = []
def StpOk (H : Hp) (css : List (List Int)) (held : List Int) (v : V) : Prop := (v = .non ∧ ∀ cs ∈ css, ∀ x, ¬ Forces cs held x) ∨ ∃ (p : Addr) (n : Nat) (x : Int) (cs : List Int), v = .ref p ∧ H p = some (.tup [.int n, .int x]) ∧ css[n]? = some cs ∧ Forces cs held x
section
variable {P : Program} {w : World} {K : PySem.W.Frag} {mg : Str → Option Value} {base : Heap}
/-- forced(claims, says) -/
def spFod (Po : Addr) : Sp := fun vs H Q _ => ∃ (v : V) (a : Addr) (css : List (List Int)) (says : List Int), vs = [v, .ref a] ∧ Bk H v css ∧ H a = some (.lst (says.map V.int)) ∧ (∀ cs ∈ css, Sy cs) ∧ Sy says ∧ TabG H Po ∧
  (∀ H' p S us steps (n : Nat) cs, Ke Nof H H' → Frs H S → H' p = some (.tup [.str "falls", .ref S, .int n]) → H' S = some (.lst us) → StL H' us steps → StepsOk css says steps → steps.length ≤ 17 → css[n]? = some cs → left cs (says ++ steps.map (·.2)) = [] → Q (.ref p) H') ∧
  ∀ H' p S us steps, Ke Nof H H' → Frs H S → H' p = some (.tup [.str "stands", .ref S]) → H' S = some (.lst us) → StL H' us steps → StepsOk css says steps → steps.length ≤ 17 → Stand css (says ++ steps.map (·.2)) → Q (.ref p) H'
theorem ok_fod {f fA fS Po : Addr} {fd fdA fdS : FuncData} {k : Nat} (F : Fun K "forced" "forced" sFod f fd) (T : Zf mg)
    (FA : Fun K "first_fall" "first_fall" sFfa fA fdA) (bA : Binds K fdA ["claims", "held"] []) (gA : mg "first_fall" = some (.ref fA)) (GA : FnOk P w K mg base CX0 4 fA fdA ["claims", "held"] (spFfa Po))
    (FS : Fun K "first_step" "first_step" sFst fS fdS) (bS : Binds K fdS ["claims", "held"] []) (gS : mg "first_step" = some (.ref fS)) (GS : FnOk P w K mg base CX0 2 fS fdS ["claims", "held"] spFst) :
    FnOk P w K mg base CX0 (k + 5) f fd ["claims", "says"] (spFod Po) := by
  refine F.ok scFod (fun vs H Q E h => ?_) (fun cdv A outer s H vs Q E hr h => ?_)
  · obtain ⟨v, a, css, says, rfl, _⟩ := h
    rfl
  · obtain ⟨v, a, css, says, rfl, hbk, ha, sy, sa, tg, q1, q2⟩ := h
    obtain ⟨b, rfl⟩ : ∃ b, v = .ref b := by
      obtain ⟨b, _, e, _⟩ := hbk
      exact ⟨b, e⟩
    have hr4 : Room 4 _ := hr.mono (by omega)
    have hr2 : Room 2 _ := hr.mono (by omega)
    refine ⟨_, (Evl.pss_cut (ps_set (i := 2) scFod.nd rfl (.inl rfl) (pe_callTy call_list_ofN (by rfl) T.z_list (by decide +kernel) (pa_cons (pv 1) pa_nil)))
      (Evl.pss_cut (ps_set (i := 3) scFod.nd rfl (.inl rfl) (pe_lstN pa_nil))
      (Evl.pss_cut (ps_set (i := 4) scFod.nd rfl (.inl rfl) (pe_call GA hr4 (by rfl) gA FA.kp bA .nil pass0 (pa_cons (pv 0) (pa_cons (pv 2) pa_nil))))
      (Evl.pss_cut (ps_set (i := 5) scFod.nd rfl (.inl rfl) (pe_call GS hr2 (by rfl) gS FS.kp bS .nil pass0 (pa_cons (pv 0) (pa_cons (pv 2) pa_nil))))
      (Evl.pss_cut (ps_while PassesOwn.never (PW.pt (pw_and (pt_cmpR op_isN (pv 4) pe_non (nomark _)) (pw_and1 (pt_cmpR op_notN (pv 5) pe_non (nomark _))))) (Evl.pss_cut (ps_expr (pe_bm PySem.F.plainAttrs_list PySem.F.slot_list_append PySem.F.type_list_append mt_append (pv 3) (pa_cons (pv 5) pa_nil)))
      (Evl.pss_cut (ps_expr (pe_bm PySem.F.plainAttrs_list PySem.F.slot_list_append PySem.F.type_list_append mt_append (pv 2) (pa_cons (pe_ix ix_tup (pv 5) pe_int (fun _ _ => rfl)) pa_nil)))
      (Evl.pss_cut (ps_set (i := 4) scFod.nd rfl (.inl rfl) (pe_call GA hr4 (by rfl) gA FA.kp bA .nil pass0 (pa_cons (pv 0) (pa_cons (pv 2) pa_nil))))
      (pss_one (ps_set (i := 5) scFod.nd rfl (.inl rfl) (pe_call GS hr2 (by rfl) gS FS.kp bS .nil pass0 (pa_cons (pv 0) (pa_cons (pv 2) pa_nil)))))))))
      (pss_cons (ps_if (pt_cmpR op_isN (pv 4) pe_non (nomark _)) (pss_one (ps_ret (pe_tupN (pa_cons pe_str (pa_cons (pv 3) pa_nil))))) pss_nil)
      (pss_one (ps_ret (pe_tupN (pa_cons pe_str (pa_cons (pv 3) (pa_cons (pv 4) pa_nil)))))))))))), ?_⟩
    refine Evl.q_cut (M := fun σ' H' => ∃ D, σ' = [some (.ref b), some (.ref a), some (.ref D), none, none, none] ∧ H D = none ∧ Same H H' ∧ H' D = some (.lst (says.map V.int))) ?_ ?_
    · exact ⟨_, rfl, a, _, rfl, .inl (.of ha), fun D H1 nD s1 hD _ => ⟨D, rfl, nD, s1, hD⟩⟩
    rintro σ' H1 ⟨D, rfl, nD, s1, hD⟩
    refine Evl.q_cut (M := fun σ' H' => ∃ S, σ' = [some (.ref b), some (.ref a), some (.ref D), some (.ref S), none, none] ∧ H S = none ∧ S ≠ D ∧ Same H H' ∧ H' D = some (.lst (says.map V.int)) ∧ H' S = some (.lst [])) ?_ ?_
    · exact ⟨Nat.zero_le _, fun S H2 nS s2 hS _ => ⟨S, rfl, s1.free nS, Ne.symm (ne_of_none hD nS), s1.trans s2, s2 _ _ hD, hS⟩⟩
    clear hD s1 H1
    rintro σ' H1 ⟨S, rfl, nS, nSD, s1, hD, hS⟩
    have frD : Frs H D := .of nD
    have frS : Frs H S := .of nS
    have k1 : Ke Nof H H1 := .same s1
    refine Evl.q_cut (M := fun σ' H' => ∃ vn, σ' = [some (.ref b), some (.ref a), some (.ref D), some (.ref S), some vn, none] ∧ Ke Nof H1 H' ∧ NumOk css says vn) ?_ ?_
    · exact ⟨_, rfl, _, rfl, .ref b, D, css, says, rfl, hbk.ke k1, hD, k1.tabs _ tg, fun H2 n cs k2 hc hl => ⟨_, rfl, k2, .inr ⟨n, cs, rfl, hc, hl⟩⟩, fun H2 k2 hl => ⟨_, rfl, k2, .inl ⟨rfl, hl⟩⟩⟩
    rintro σ' H2 ⟨vn, rfl, k2, no⟩
    have k12 := k1.trans k2
    have hD2 := k2.lst hD fun z => z
    have hS2 := k2.lst hS fun z => z
    refine Evl.q_cut (M := fun σ' H' => ∃ vs, σ' = [some (.ref b), some (.ref a), some (.ref D), some (.ref S), some vn, some vs] ∧ Ke Nof H2 H' ∧ StpOk H' css says vs) ?_ ?_
    · exact ⟨_, rfl, _, rfl, .ref b, D, css, says, rfl, hbk.ke k12, hD2, sy, fun H3 p n x cs k3 hp hc hl => ⟨_, rfl, k3, .inr ⟨p, n, x, cs, rfl, hp, hc, hl⟩⟩, fun H3 k3 hl => ⟨_, rfl, k3, .inl ⟨rfl, hl⟩⟩⟩
    rintro σ' H3 ⟨vs, rfl, k3, so⟩
    -- the loop
    refine Evl.q_cut (M := fun σ' H' => ∃ (vn vs : V) (us : List V) (steps : List (Nat × Int)), σ' = [some (.ref b), some (.ref a), some (.ref D), some (.ref S), some vn, some vs] ∧ Ke Nof H H' ∧ H' S = some (.lst us) ∧ StL H' us steps ∧ StepsOk css says steps ∧ steps.length ≤ 17 ∧
      ((vn = .non ∧ Stand css (says ++ steps.map (·.2))) ∨ ∃ (n : Nat) (cs : List Int), vn = .int n ∧ css[n]? = some cs ∧ left cs (says ++ steps.map (·.2)) = [])) ?_ ?_
    · refine ⟨fun m σ H' => ∃ (vn vs : V) (us : List V) (steps : List (Nat × Int)), m = 40 - steps.length ∧ σ = [some (.ref b), some (.ref a), some (.ref D), some (.ref S), some vn, some vs] ∧ Ke Nof H H' ∧ H' D = some (.lst ((says ++ steps.map (·.2)).map V.int)) ∧ H' S = some (.lst us) ∧ StL H' us steps ∧ StepsOk css says steps ∧ Sy (says ++ steps.map (·.2)) ∧ NumOk css (says ++ steps.map (·.2)) vn ∧ StpOk H' css (says ++ steps.map (·.2)) vs, ⟨40, vn, vs, [], [], rfl, rfl, k12.trans k3, ?_, k3.lst hS2 fun z => z, ⟨rfl, fun i v s h => by simp at h⟩, .nil, ?_, ?_, ?_⟩, ?_⟩
      · rw [show says ++ ([] : List (Nat × Int)).map (·.2) = says by simp]
        exact k3.lst hD2 fun z => z
      · rw [show says ++ ([] : List (Nat × Int)).map (·.2) = says by simp]
        exact sa
      · rw [show says ++ ([] : List (Nat × Int)).map (·.2) = says by simp]
        exact no
      · rw [show says ++ ([] : List (Nat × Int)).map (·.2) = says by simp]
        exact so
      clear so no k3 k2 k12 hD2 hS2 H2 H3 vs vn hS hD k1 s1 H1
      rintro m σ H1 ⟨vn, vs, us, steps, rfl, rfl, k1, hD, hS, sl, st, sh, no, so⟩
      have l17 := sh.len
      have ls : steps.length ≤ 17 := by
        rw [List.length_append, List.length_map] at l17
        omega
      rcases no with ⟨rfl, no⟩ | ⟨n, cs, rfl, hc, hl⟩
      · refine ⟨_, rfl, rfl, _, rfl, iteT ?_⟩
        rcases so with ⟨rfl, so⟩ | ⟨p, n, x, cs, rfl, hp, hc, hf⟩
        · refine ⟨_, rfl, rfl, _, rfl, iteF ?_⟩
          exact ⟨_, _, us, steps, rfl, k1, hS, sl, st, ls, .inl ⟨rfl, fun cs hc => ⟨no cs hc, so cs hc⟩⟩⟩
        · refine ⟨_, rfl, rfl, _, rfl, iteT ?_⟩
          refine ⟨fun σ' H' => ∃ (vn vs : V) (us : List V), σ' = [some (.ref b), some (.ref a), some (.ref D), some (.ref S), some vn, some vs] ∧ Ke Nof H H' ∧ H' D = some (.lst ((says ++ (steps ++ [(n, x)]).map (·.2)).map V.int)) ∧ H' S = some (.lst us) ∧ StL H' us (steps ++ [(n, x)]) ∧ NumOk css (says ++ (steps ++ [(n, x)]).map (·.2)) vn ∧ StpOk H' css (says ++ (steps ++ [(n, x)]).map (·.2)) vs, ?_, ?_⟩
          · rintro σ' H' ⟨vn, vs, us, rfl, h1, h2, h3, h4, h5, h6⟩
            refine ⟨40 - (steps ++ [(n, x)]).length, by rw [List.length_append]; show 40 - (steps.length + 1) < _; omega, vn, vs, us, _, rfl, rfl, h1, h2, h3, h4, st.snoc hc hf, ?_, h5, h6⟩
            have := sy_snoc sh (sy cs (List.mem_of_getElem? hc)) hf
            rw [List.append_assoc] at this
            rw [List.map_append]
            exact this
          have eh : (says ++ (steps ++ [(n, x)]).map (·.2)) = (says ++ steps.map (·.2)) ++ [x] := by
            rw [List.map_append, ← List.append_assoc]
            rfl
          rw [eh]
          -- steps.append(step)
          refine Evl.q_cut (M := fun σ' H' => σ' = [some (.ref b), some (.ref a), some (.ref D), some (.ref S), some .non, some (.ref p)] ∧ Ke Nof H H' ∧ H' D = some (.lst ((says ++ steps.map (·.2)).map V.int)) ∧ H' S = some (.lst (us ++ [.ref p])) ∧ StL H' (us ++ [.ref p]) (steps ++ [(n, x)]) ∧ H' p = some (.tup [.int (n : Nat), .int x])) ?_ ?_
          · refine ⟨_, rfl, .inl ⟨rfl, _, .of hS⟩, _, rfl, S, _, _, rfl, rfl, hS, small1000 (by rw [sl.1]; omega), rfl, k1.write frS hS, by rw [upd_ne (Ne.symm nSD)]; exact hD, upd_same, (sl.snoc hp).tups (upd_tup hS), upd_tup hS _ _ hp⟩
          clear hp hS hD k1 sl
          rintro σ' H2 ⟨rfl, k2, hD, hS, sl, hp⟩
          -- held.append(step[1])
          refine Evl.q_cut (M := fun σ' H' => σ' = [some (.ref b), some (.ref a), some (.ref D), some (.ref S), some .non, some (.ref p)] ∧ Ke Nof H H' ∧ H' D = some (.lst (((says ++ steps.map (·.2)) ++ [x]).map V.int)) ∧ H' S = some (.lst (us ++ [.ref p])) ∧ StL H' (us ++ [.ref p]) (steps ++ [(n, x)])) ?_ ?_
          · refine ⟨_, rfl, .inl ⟨rfl, _, .of hD⟩, _, rfl, p, _, 1, .int x, rfl, rfl, .of hp, rfl, D, _, _, rfl, rfl, hD, small1000 (by rw [List.length_map]; omega), rfl, k2.write frD hD, by rw [upd_same]; simp, by rw [upd_ne nSD]; exact hS, sl.tups (upd_tup hD)⟩
          clear hp hS hD k2 sl
          rintro σ' H3 ⟨rfl, k3, hD, hS, sl⟩
          refine Evl.q_cut (M := fun σ' H' => ∃ vn, σ' = [some (.ref b), some (.ref a), some (.ref D), some (.ref S), some vn, some (.ref p)] ∧ Ke Nof H3 H' ∧ NumOk css ((says ++ steps.map (·.2)) ++ [x]) vn) ?_ ?_
          · exact ⟨_, rfl, _, rfl, .ref b, D, css, _, rfl, hbk.ke k3, hD, k3.tabs _ tg, fun H2 n cs k2 hc hl => ⟨_, rfl, k2, .inr ⟨n, cs, rfl, hc, hl⟩⟩, fun H2 k2 hl => ⟨_, rfl, k2, .inl ⟨rfl, hl⟩⟩⟩
          rintro σ' H4 ⟨vn, rfl, k4, no'⟩
          have k34 := k3.trans k4
          have hD4 := k4.lst hD fun z => z
          exact ⟨_, rfl, _, rfl, .ref b, D, css, _, rfl, hbk.ke k34, hD4, sy, fun H5 p n x cs k5 hp hc hl => ⟨_, _, _, rfl, k34.trans k5, k5.lst hD4 fun z => z, k5.lst (k4.lst hS fun z => z) fun z => z, (sl.tups k4.tups).tups k5.tups, no', .inr ⟨p, n, x, cs, rfl, hp, hc, hl⟩⟩,
            fun H5 k5 hl => ⟨_, _, _, rfl, k34.trans k5, k5.lst hD4 fun z => z, k5.lst (k4.lst hS fun z => z) fun z => z, (sl.tups k4.tups).tups k5.tups, no', .inl ⟨rfl, hl⟩⟩⟩
      · refine ⟨_, rfl, rfl, _, rfl, iteF ?_⟩
        exact ⟨_, _, us, steps, rfl, k1, hS, sl, st, ls, .inr ⟨n, cs, rfl, hc, hl⟩⟩
    clear so no k3 k2 k12 hD2 hS2 H2 H3 vs vn hS hD k1 s1 H1
    rintro σ' H1 ⟨vn, vs, us, steps, rfl, k1, hS, sl, st, ls, no⟩
    rcases no with ⟨rfl, sd⟩ | ⟨n, cs, rfl, hc, hl⟩
    · refine ⟨_, rfl, rfl, _, rfl, iteT ?_⟩
      exact ⟨_, rfl, by show 2 ≤ sizeLine; decide, fun p H2 np s2 hp _ => q2 H2 p S us steps (k1.trans (.same s2)) frS hp (s2 _ _ hS) (sl.tups fun b xs z => s2 _ _ z) st ls sd⟩
    · refine ⟨_, rfl, rfl, _, rfl, iteF ?_⟩
      exact ⟨_, rfl, _, rfl, by show 3 ≤ sizeLine; decide, fun p H2 np s2 hp _ => q1 H2 p S us steps n cs (k1.trans (.same s2)) frS hp (s2 _ _ hS) (sl.tups fun b xs z => s2 _ _ z) st ls hc hl⟩
end
end Fo
namespace Fo
open PySem PySem.Spec PyProof.Rows L2 GxR Nw Dr Kp Se Cl En
abbrev sWho : Stmt := topS 20
theorem scWho : FnScope ["thing"] ["thing"] (defScope sWho) := ⟨rfl, rfl, rfl, by decide +kernel, rfl, by decide +kernel, by decide +kernel⟩
abbrev sElf : Stmt := topS 23
abbrev nElf : List Str := ["claim", "held", "say"]
theorem scElf : FnScope nElf ["claim", "held"] (defScope sElf) := ⟨rfl, rfl, rfl, by decide +kernel, rfl, by decide +kernel, by decide +kernel⟩
abbrev sClo : Stmt := topS 24
theorem scClo : FnScope ["claims", "says", "held", "many", "claim", "left"] ["claims", "says"] (defScope sClo) := ⟨rfl, rfl, rfl, by decide +kernel, rfl, by decide +kernel, by decide +kernel⟩
abbrev sGon : Stmt := topS 26
theorem scGon : FnScope ["claims", "says", "steps", "held", "step"] ["claims", "says", "steps"] (defScope sGon) := ⟨rfl, rfl, rfl, by decide +kernel, rfl, by decide +kernel, by decide +kernel⟩
abbrev sIsf : Stmt := topS 27
theorem scIsf : FnScope ["claims", "says", "steps", "number", "held"] ["claims", "says", "steps", "number"] (defScope sIsf) := ⟨rfl, rfl, rfl, by decide +kernel, rfl, by decide +kernel, by decide +kernel⟩
abbrev sIss : Stmt := topS 28
theorem scIss : FnScope ["claims", "says", "steps", "held", "claim", "left"] ["claims", "says", "steps"] (defScope sIss) := ⟨rfl, rfl, rfl, by decide +kernel, rfl, by decide +kernel, by decide +kernel⟩
/-- the built-ins that stand as they stood -/
structure Zl (mg : Str → Option Value) : Prop where
  z_len : mg "len" = none
  z_list : mg "list" = none
  z_isinstance : mg "isinstance" = none
  z_int : mg "int" = none
  z_bool : mg "bool" = none
  z_tuple : mg "tuple" = none
theorem eq_nil {l : List Int} : PyData.eqv (.list (l.map PyData.int)) (.list []) = true ↔ l = [] := by
  cases l with
  | nil => exact ⟨fun _ => rfl, fun _ => rfl⟩
  | cons a r => exact ⟨fun h => absurd h (by simp [PyData.eqv, PyData.eqvAll]), fun h => nomatch h⟩
section
variable {P : Program} {w : World} {K : PySem.W.Frag} {mg : Str → Option Value} {base : Heap}
def spWho : Sp := fun vs H Q _ => ∃ k : Int, vs = [.int k] ∧ Q (.bl true) H
theorem ok_who {f : Addr} {fd : FuncData} {k : Nat} (F : Fun K "_law_e_whole" "_law_e_whole" sWho f fd) (T : Zl mg) : FnOk P w K mg base CX0 (k + 1) f fd ["thing"] spWho := by
  refine F.ok scWho (fun vs H Q E h => ?_) (fun cdv A outer s H vs Q E hr h => ?_)
  · obtain ⟨k, rfl, _⟩ := h
    rfl
  · obtain ⟨k, rfl, q⟩ := h
    refine ⟨_, (pss_one (ps_ret (pe_and (pe_callB call_isi (by rfl) T.z_isinstance (by decide +kernel) (pa_cons (pv 0) (pa_cons (pe_bltn (v := .ty "int") (u := .type "int") (by rfl) T.z_int (by decide +kernel) rfl) pa_nil))) (pe_one (pe_not (pe_callB call_isi (by rfl) T.z_isinstance (by decide +kernel) (pa_cons (pv 0) (pa_cons (pe_bltn (v := .ty "bool") (u := .type "bool") (by rfl) T.z_bool (by decide +kernel) rfl) pa_nil)))))))), ?_⟩
    refine ⟨_, rfl, .int k, .ty "int", .type "int", .type "int", true, rfl, .ty _, .base (.int k), kit_ty (by decide +kernel), _, rfl, ?_⟩
    refine ⟨_, rfl, .int k, .ty "bool", .type "int", .type "bool", false, rfl, .ty _, .base (.int k), kit_ty (by decide +kernel), _, rfl, q⟩
/-- left(claim, held) -/
def spElf : Sp := fun vs H Q _ => ∃ (v : V) (a : Addr) (cs held : List Int), vs = [v, .ref a] ∧ TupI H v cs ∧ H a = some (.lst (held.map V.int)) ∧ cs.length ≤ 20 ∧
  ∀ p H', H p = none → Same H H' → H' p = some (.lst ((left cs held).map V.int)) → Q (.ref p) H'
theorem ok_elf {f : Addr} {fd : FuncData} {k : Nat} (F : Fun K "_law_e_left" "_law_e_left" sElf f fd) : FnOk P w K mg base CX0 (k + 1) f fd ["claim", "held"] spElf := by
  refine F.ok scElf (fun vs H Q E h => ?_) (fun cdv A outer s H vs Q E hr h => ?_)
  · obtain ⟨v, a, cs, held, rfl, _⟩ := h
    rfl
  · obtain ⟨v, b, cs, held, rfl, ⟨a, rfl, ha⟩, hb, lc, q⟩ := h
    refine ⟨_, (pss_one (ps_ret (pe_lc (own := [("say", 2)]) (g := (gName 2))  rfl scElf.nd (pi_tup (pv 0)) (blkOk_by (N := nElf) (sc := defScope sElf) (by decide +kernel)) (fun _ _ _ _ _ => (pg_name (i := 2) scElf.nd rfl (.inl rfl))) (fun _ _ _ _ _ => (pts_one (pt_cmpR (op_notIn_seqB (K := K) rfl) (pe_op op_sub pe_int (pv 2)) (pv 1) (by rfl)))) (fun _ _ _ _ _ => (pv 2))))), ?_⟩
    refine ⟨_, rfl, a, rfl, ⟨_, .of ha⟩, fun D nD => ?_⟩
    refine lc_tup (xs := cs.map V.int) (Pv := fun i H' => Same H H' ∧ H' D = some (.lst (((cs.take i).filter fun s => !inV (.int (-s)) (held.map V.int)).map V.int))) ⟨same_new nD, upd_same⟩ (fun i H' _ p => .of (p.1 _ _ ha)) ?_ ?_
    · rintro i x H' hx ⟨s1, hD⟩
      obtain ⟨z, hz, rfl⟩ := at_int hx
      have ft := Sl.filter_take (f := fun s => !inV (.int (-s)) (held.map V.int)) hz
      refine ⟨rfl, _, rfl, _, _, rfl, rfl, _, rfl, b, _, rfl, .inl (.of (s1 _ _ hb)), rfl, ints_flat held, _, rfl, ite2 (fun y1 => ?_) (fun y1 => ?_)⟩
      · have y1 : (!inV (.int (0 - z)) (held.map V.int)) = true := y1
        rw [Int.zero_sub] at y1
        refine ⟨_, rfl, _, hD, ?_, fun c o y => ?_, ?_⟩
        · rw [List.length_map]
          exact small1000 (Nat.le_trans (List.length_filter_le _ _) (by rw [List.length_take]; omega))
        · rw [upd_ne (ne_of_none y nD)]
          exact s1 _ _ y
        · rw [upd_same, ft, if_pos y1, List.map_append]
          rfl
      · have y1 : ¬ (!inV (.int (0 - z)) (held.map V.int)) = true := y1
        rw [Int.zero_sub] at y1
        refine ⟨s1, ?_⟩
        rw [ft, if_neg y1, List.append_nil]
        exact hD
    · rintro H' ⟨s1, hD⟩
      rw [List.length_map, List.take_length] at hD
      exact q D H' nD s1 hD
/-- closed(claims, says) -/
def spClo : Sp := fun vs H Q _ => ∃ (v : V) (a : Addr) (css : List (List Int)) (says : List Int), vs = [v, .ref a] ∧ Bk H v css ∧ H a = some (.lst (says.map V.int)) ∧ (∀ cs ∈ css, Sy cs) ∧ Sy says ∧
  (∀ H', Ke Nof H H' → Fall css says → Q .non H') ∧ ∀ H' p, Ke Nof H H' → ¬ Fall css says → Q (.ref p) H'
theorem ok_clo {f fL : Addr} {fd fdL : FuncData} {k : Nat} (F : Fun K "_law_e_closed" "_law_e_closed" sClo f fd) (T : Zl mg) (FL : Fun K "_law_e_left" "_law_e_left" sElf fL fdL) (bL : Binds K fdL ["claim", "held"] []) (gL : mg "_law_e_left" = some (.ref fL)) (GL : FnOk P w K mg base CX0 1 fL fdL ["claim", "held"] spElf) :
    FnOk P w K mg base CX0 (k + 2) f fd ["claims", "says"] spClo := by
  refine F.ok scClo (fun vs H Q E h => ?_) (fun cdv A outer s H vs Q E hr h => ?_)
  · obtain ⟨v, a, css, says, rfl, _⟩ := h
    rfl
  · obtain ⟨v, a, css, says, rfl, ⟨b, bvs, rfl, hb, lv, hv⟩, ha, sy, sa, q1, q2⟩ := h
    have hr1 : Room 1 _ := hr.mono (by omega)
    refine ⟨_, (Evl.pss_cut (ps_set (i := 2) scClo.nd rfl (.inl rfl) (pe_callTy call_list_ofN (by rfl) T.z_list (by decide +kernel) (pa_cons (pv 1) pa_nil)))
      (Evl.pss_cut (ps_set (i := 3) scClo.nd rfl (.inl rfl) (pe_un un_neg pe_int))
      (Evl.pss_cut (ps_while PassesOwn.never (pt_cmpR op_ne (pv 3) (pe_callB call_len_seq (by rfl) T.z_len (by decide +kernel) (pa_cons (pv 2) pa_nil)) (nomark _)) (Evl.pss_cut (ps_set (i := 3) scClo.nd rfl (.inl rfl) (pe_callB call_len_seq (by rfl) T.z_len (by decide +kernel) (pa_cons (pv 2) pa_nil)))
      (pss_one (ps_for PassesOwn.never rfl (pi_tup (pv 0)) (pg_name (i := 4) scClo.nd rfl (.inl rfl)) (Evl.pss_cut (ps_set (i := 5) scClo.nd rfl (.inl rfl) (pe_call GL hr1 (by rfl) gL FL.kp bL .nil pass0 (pa_cons (pv 4) (pa_cons (pv 2) pa_nil))))
      (Evl.pss_cut (ps_if (pt_cmpR (op_eqD hr.units) (pv 5) (pe_lstN pa_nil) (nomark _)) (pss_one (ps_ret pe_non)) pss_nil)
      (pss_one (ps_if (PW.pt (pw_and (pt_cmpR op_eq (pe_callB call_len_seq (by rfl) T.z_len (by decide +kernel) (pa_cons (pv 5) pa_nil)) pe_int (nomark _)) (pw_and1 (pt_cmpR op_notIn_seq (pe_ix ix_list (pv 5) pe_int (fun _ _ => rfl)) (pv 2) (by rfl))))) (pss_one (ps_expr (pe_bm PySem.F.plainAttrs_list PySem.F.slot_list_append PySem.F.type_list_append mt_append (pv 2) (pa_cons (pe_ix ix_list (pv 5) pe_int (fun _ _ => rfl)) pa_nil)))) pss_nil))))))))
      (pss_one (ps_ret (pv 2)))))), ?_⟩
    refine Evl.q_cut (M := fun σ' H' => ∃ D, σ' = [some (.ref b), some (.ref a), some (.ref D), none, none, none] ∧ H D = none ∧ Same H H' ∧ H' D = some (.lst (says.map V.int))) ?_ ?_
    · exact ⟨_, rfl, a, _, rfl, .inl (.of ha), fun D H1 nD s1 hD _ => ⟨D, rfl, nD, s1, hD⟩⟩
    rintro σ' H1 ⟨D, rfl, nD, s1, hD⟩
    have frD : Frs H D := .of nD
    refine Evl.q_cut (M := fun σ' H' => σ' = [some (.ref b), some (.ref a), some (.ref D), some (.int (-1)), none, none] ∧ H' = H1) ?_ ?_
    · exact ⟨_, rfl, rfl, rfl⟩
    rintro σ' H1' ⟨rfl, rfl⟩
    refine Evl.q_cut (M := fun σ' H' => ∃ y3 y4 y5, σ' = [some (.ref b), some (.ref a), some (.ref D), y3, y4, y5] ∧ Ke Nof H H' ∧ ¬ Fall css says) ?_ ?_
    · refine ⟨fun m σ H' => ∃ (many : Int) (hd : List Int) (y4 y5 : Option V), m = 2 * (18 - hd.length) + (if many = hd.length then 0 else 1) ∧ σ = [some (.ref b), some (.ref a), some (.ref D), some (.int many), y4, y5] ∧ Ke Nof H H' ∧ H' D = some (.lst (hd.map V.int)) ∧ Sy hd ∧ (∀ s ∈ says, s ∈ hd) ∧ (∀ x ∈ hd, Der css says x) ∧ (many = hd.length → Stand css hd), ⟨_, -1, says, none, none, rfl, rfl, .same s1, hD, sa, fun s hs => hs, fun x hx => .base hx, fun z => by omega⟩, ?_⟩
      clear hD s1 H1'
      rintro m σ H1 ⟨many, hd, y4, y5, rfl, rfl, k1, hD, sh, sub, der, std⟩
      have l17 := sh.len
      refine ⟨_, rfl, _, rfl, D, _, rfl, .inl (.of hD), rfl, _, rfl, ite2 (fun e => ?_) (fun e => ?_)⟩
      · have ne : many ≠ hd.length := fun z => by
          rw [z, List.length_map] at e
          simp at e
        refine ⟨fun σ' H' => ∃ (hd' : List Int) (y4 y5 : Option V), σ' = [some (.ref b), some (.ref a), some (.ref D), some (.int (hd.length : Nat)), y4, y5] ∧ Ke Nof H H' ∧ H' D = some (.lst (hd'.map V.int)) ∧ Sy hd' ∧ (∀ s ∈ says, s ∈ hd') ∧ (∀ x ∈ hd', Der css says x) ∧ hd.length ≤ hd'.length ∧ (hd'.length = hd.length → Stand css hd'), ?_, ?_⟩
        · rintro σ' H' ⟨hd', z4, z5, rfl, h1, h2, h3, h4, h5, h6, h7⟩
          have l17' := h3.len
          refine ⟨_, ?_, (hd.length : Nat), hd', z4, z5, rfl, rfl, h1, h2, h3, h4, h5, fun z => h7 (by omega)⟩
          rw [if_neg ne]
          split <;> omega
        -- many = len(held)
        refine Evl.q_cut (M := fun σ' H' => σ' = [some (.ref b), some (.ref a), some (.ref D), some (.int (hd.length : Nat)), y4, y5] ∧ H' = H1) ?_ ?_
        · exact ⟨_, rfl, D, _, rfl, .inl (.of hD), by rw [List.length_map]; exact ⟨rfl, rfl⟩⟩
        rintro σ' H1' ⟨rfl, rfl⟩
        have hb1 := k1.tups _ _ hb
        refine ⟨_, rfl, b, rfl, ⟨_, .of hb1⟩, for_tup (K := K) (a := b) (xs := bvs) (Pv := fun i σ H' => ∃ (hd' : List Int) (y4 y5 : Option V), σ = [some (.ref b), some (.ref a), some (.ref D), some (.int (hd.length : Nat)), y4, y5] ∧ Ke Nof H H' ∧ H' D = some (.lst (hd'.map V.int)) ∧ Sy hd' ∧ (∀ s ∈ says, s ∈ hd') ∧ (∀ x ∈ hd', Der css says x) ∧ hd.length ≤ hd'.length ∧ (hd'.length = hd.length → ∀ cs ∈ css.take i, left cs hd' ≠ [] ∧ ∀ x, ¬ Forces cs hd' x)) ?_ (fun i σ H' _ p => ?_) ?_ ?_⟩
        · exact ⟨hd, y4, y5, rfl, k1, hD, sh, sub, der, Nat.le_refl _, fun _ cs hc => by simp at hc⟩
        · obtain ⟨_, _, _, _, k2, _⟩ := p
          exact .of (k2.tups _ _ hb)
        · rintro i x σ H2 hx ⟨hd', z4, z5, rfl, k2, hD2, sh2, sub2, der2, le2, std2⟩
          obtain ⟨cs, hc, tx⟩ := bk_at (a := b) lv hv hx
          have hcm := List.mem_of_getElem? hc
          have lcs := (sy cs hcm).len
          -- left
          refine Evl.q_cut (M := fun σ' H' => ∃ L, σ' = [some (.ref b), some (.ref a), some (.ref D), some (.int (hd.length : Nat)), some x, some (.ref L)] ∧ Same H2 H' ∧ H' L = some (.lst ((left cs hd').map V.int))) ?_ ?_
          · exact ⟨_, rfl, _, rfl, x, D, cs, hd', rfl, tx.ke k2, hD2, by omega, fun L H3 nL s3 hL => ⟨L, rfl, s3, hL⟩⟩
          rintro σ' H3 ⟨L, rfl, s3, hL⟩
          -- if left == []
          refine Evl.q_cut (M := fun σ' H' => σ' = [some (.ref b), some (.ref a), some (.ref D), some (.int (hd.length : Nat)), some x, some (.ref L)] ∧ Same H3 H' ∧ left cs hd' ≠ []) ?_ ?_
          · refine ⟨_, rfl, Nat.zero_le _, fun p5 H5 np5 s5 hp5 _ => ?_⟩
            refine ⟨_, _, .lst (.of (s5 _ _ hL)) (dp_ints _), .lst (.of hp5) .nil, shaped_list (flat_ints _), shaped_list rfl, _, rfl, ite2 (fun e => ?_) (fun e => ?_)⟩
            · exact q1 H5 (k2.trans (.same (s3.trans s5))) (fall_of der2 hcm (eq_nil.mp e))
            · exact ⟨rfl, s5, fun z => e (eq_nil.mpr z)⟩
          rintro σ' H4 ⟨rfl, s4, nl⟩
          have s34 := s3.trans s4
          have k4 : Ke Nof H H4 := k2.trans (.same s34)
          have hD4 := s34 _ _ hD2
          have hL4 := s4 _ _ hL
          have tk : ∀ cs', cs' ∈ css.take (i + 1) → cs' ∈ css.take i ∨ cs' = cs := fun cs' h' => by
            rw [List.take_add_one, hc] at h'
            rcases List.mem_append.mp h' with y | y
            · exact .inl y
            · exact .inr (by simpa using y)
          -- if len(left) == 1 and ..
          refine ⟨_, rfl, L, _, rfl, .inl (.of hL4), rfl, _, rfl, ite2 (fun e => ?_) (fun e => ?_)⟩
          · have l1 : (left cs hd').length = 1 := by
              have := V.int.inj (of_decide_eq_true e)
              rw [List.length_map] at this
              omega
            obtain ⟨y, hy⟩ := List.length_eq_one_iff.mp l1
            rw [hy] at hL4
            refine ⟨_, rfl, L, _, 0, .int y, rfl, rfl, .of hL4, rfl, _, rfl, D, _, rfl, .inl (.of hD4), rfl, ints_flat hd', _, rfl, ite2 (fun e2 => ?_) (fun e2 => ?_)⟩
            · have e2 : (!inV (.int y) (hd'.map V.int)) = true := e2
              have fo : Forces cs hd' y := ⟨hy, fun z => by
                rw [(in_ints _ _).mpr z] at e2
                cases e2⟩
              have l17' := sh2.len
              refine ⟨_, rfl, .inl ⟨rfl, _, .of hD4⟩, _, rfl, L, _, 0, .int y, rfl, rfl, .of hL4, rfl, D, _, _, rfl, rfl, hD4, small1000 (by rw [List.length_map]; omega), ?_⟩
              refine ⟨hd' ++ [y], _, _, rfl, k4.write frD hD4, by rw [upd_same]; simp, sy_snoc sh2 (sy cs hcm) fo, fun s hs => List.mem_append_left _ (sub2 s hs), fun z hz => ?_, by rw [List.length_append]; omega, fun z => ?_⟩
              · rcases List.mem_append.mp hz with u | u
                · exact der2 z u
                · rw [List.mem_singleton.mp u]
                  exact der_of der2 hcm fo
              · rw [List.length_append, List.length_singleton] at z
                omega
            · have e2 : ¬ (!inV (.int y) (hd'.map V.int)) = true := e2
              refine ⟨hd', _, _, rfl, k4, hD4, sh2, sub2, der2, le2, fun z cs' h' => ?_⟩
              rcases tk cs' h' with u | rfl
              · exact std2 z cs' u
              · refine ⟨nl, fun x' ⟨h1, h2⟩ => ?_⟩
                rw [hy] at h1
                cases h1
                cases z : inV (.int y) (hd'.map V.int) with
                | true => exact h2 ((in_ints _ _).mp z)
                | false =>
                  rw [z] at e2
                  exact e2 rfl
          · refine ⟨hd', _, _, rfl, k4, hD4, sh2, sub2, der2, le2, fun z cs' h' => ?_⟩
            rcases tk cs' h' with u | rfl
            · exact std2 z cs' u
            · refine ⟨nl, fun x' ⟨h1, h2⟩ => ?_⟩
              rw [h1] at e
              exact e rfl
        · rintro σ H2 ⟨hd', z4, z5, rfl, k2, hD2, sh2, sub2, der2, le2, std2⟩
          rw [lv, List.take_length] at std2
          exact ⟨hd', z4, z5, rfl, k2, hD2, sh2, sub2, der2, le2, std2⟩
      · have em : many = hd.length := by
          have e : ¬ (!decide (V.int many = V.int ((hd.map V.int).length : Nat))) = true := e
          rw [List.length_map] at e
          exact Classical.byContradiction fun z => e (by rw [decide_eq_false fun u => z (V.int.inj u)]; rfl)
        exact ⟨_, _, _, rfl, k1, (std em).no (fun cs hc => (sy cs hc).nd) sub⟩
    rintro σ' H2 ⟨y3, y4, y5, rfl, k2, nf⟩
    exact ⟨_, rfl, q2 H2 D k2 nf⟩
end
end Fo
namespace L2
open PySem PySem.Spec PyProof.Rows
theorem pe_bmB {X : Cx} {K : PySem.W.Frag} {T : String} {name : Str} {id : String} {r : V → List V → Hp → VK → Prop} {o e : Expr} {es : List Expr} {to : TE} {t : TA} {apos cpos : Pos} (hK : X.K = K) (pa : PlainAttrs T) (slot : Slot T name id) (hty : typeOf (.builtin id) = pure (.type "method_descriptor")) (hm : MtR X id r) (ho : PE X o to) (ha : PA X (e :: es) t)
    (hbase : attributeBase o name X.env (eval o X.env) = eval o X.env := by rfl)
    (hfew : ((backTo cpos (starEach (e :: es) X.env)).all (fun x => !x.1) && (backToKw cpos (keywordEach [] X.env)).all (fun x => x.1.isSome)
      && decide ((e :: es).length + ([] : List Keyword).length + (if ([] : List Keyword).isEmpty then 0 else 1) < 30)) = true := by rfl)
    (hline : (apos.endLine == cpos.line) = true := by rfl) (hs : starEach (e :: es) X.env = (false, eval e X.env) :: starEach es X.env := by rfl) (hplain : (backTo cpos (starEach es X.env)).any (·.1) = false := by rfl) :
    PE X (.Call (.Attribute o name apos) (e :: es) [] cpos) (tBM K T r to t) := by
  subst hK
  exact pe_bm pa slot hty hm ho ha hbase hfew hline hs hplain
end L2
namespace Nw
open PySem PySem.Spec PyProof.Rows L2
theorem call_tuple_ofNB {X : Cx} {K : PySem.W.Frag} (h : X.K = K) : CallR X (.type "tuple") (fun xs H Q => ∃ p ys, xs = [.ref p] ∧ SqL K H p ys ∧ New H (.tup ys) Q) := by subst h; exact call_tuple_ofN
theorem cr_sortedNB {X : Cx} {K : PySem.W.Frag} (h : X.K = K) : CallR X (.builtin "sorted") (fun vs H Q => ∃ (a : Addr) (ns : List Int), vs = [V.ref a] ∧ SqL K H a (ns.map V.int) ∧ ∀ ns' : List Int, ns'.Perm ns → ns'.Pairwise (· ≤ ·) → New H (.lst (ns'.map V.int)) Q) := by subst h; exact cr_sortedN
end Nw
namespace Fd
open PySem PySem.Spec PyProof.Rows L2 GxR Nw Dr Kp Se Cl En Fo
theorem _root_.Kp.Ke.upd' {F : Addr → Prop} {H H1 : Hp} {p : Addr} {o : HO} (k : Ke F H H1) (fr : Frs H p) (n : H1 p = none) : Ke F H (L2.upd H1 p o) := k.trans (.same (same_new n))
theorem perm_popV {α : Type} : ∀ {l : List α} {d : Nat} {y : α}, l[d]? = some y → (y :: l.eraseIdx d).Perm l
  | [], _, _, h => by simp at h
  | a :: r, 0, y, h => by
    have e : a = y := Option.some.inj h
    subst e
    exact .refl _
  | a :: r, d + 1, y, h => by
    have ih := perm_popV (l := r) (d := d) (y := y) h
    exact (List.Perm.swap a y _).trans (.cons a ih)
/-- each of the values is a claim -/
def GoodL (H : Hp) (vs : List V) : Prop := ∀ v ∈ vs, ∃ cs, TupI H v cs ∧ Sy cs
theorem GoodL.tups {H H' : Hp} {vs : List V} (h : GoodL H vs) (k : ∀ b xs, H b = some (.tup xs) → H' b = some (.tup xs)) : GoodL H' vs := fun v hv => by
  obtain ⟨cs, ⟨a, e, ha⟩, sy⟩ := h v hv
  exact ⟨cs, ⟨a, e, k _ _ ha⟩, sy⟩
theorem good_css {H : Hp} : ∀ {vs : List V}, GoodL H vs → ∃ css : List (List Int), vs.length = css.length ∧ (∀ (i : Nat) (x : V) (cs : List Int), vs[i]? = some x → css[i]? = some cs → TupI H x cs) ∧ ∀ cs ∈ css, Sy cs
  | [], _ => ⟨[], rfl, fun i x cs h => by simp at h, fun cs h => nomatch h⟩
  | v :: r, h => by
    obtain ⟨css, l, t, s⟩ := good_css (vs := r) fun u hu => h u (List.mem_cons_of_mem _ hu)
    obtain ⟨cs, tv, sv⟩ := h v List.mem_cons_self
    refine ⟨cs :: css, by rw [List.length_cons, List.length_cons, l], fun i x ds h1 h2 => ?_, fun ds hd => ?_⟩
    · cases i with
      | zero =>
        cases h1
        cases h2
        exact tv
      | succ i => exact t i x ds h1 h2
    · rcases List.mem_cons.mp hd with e | e
      · rw [e]
        exact sv
      · exact s ds e
theorem good_of {H : Hp} {vs : List V} {css : List (List Int)} (l : vs.length = css.length) (h : ∀ (i : Nat) (x : V) (cs : List Int), vs[i]? = some x → css[i]? = some cs → TupI H x cs) (s : ∀ cs ∈ css, Sy cs) : GoodL H vs := fun v hv => by
  obtain ⟨i, hi, e⟩ := List.getElem_of_mem hv
  have h2 := List.getElem?_eq_getElem (show i < css.length by omega)
  exact ⟨_, h i v _ (by rw [List.getElem?_eq_getElem hi, e]) h2, s _ (List.getElem_mem _)⟩
theorem sy_perm {ns ms : List Int} (p : ns.Perm ms) (h : Sy ms) : Sy ns := ⟨p.nodup_iff.mpr h.nd, fun s hs => h.bd s (p.mem_iff.mp hs)⟩
/-- eight says of eight things -/
structure Od (ord : List Int) : Prop where
  len : ord.length = 8
  nd : (ord.map fun s => (s.natAbs : Int)).Nodup
  bd : ∀ s ∈ ord, 1 ≤ (s.natAbs : Int) ∧ (s.natAbs : Int) ≤ 8
theorem Od.two {ord : List Int} (h : Od ord) {i j : Nat} {a b : Int} (hi : ord[i]? = some a) (hj : ord[j]? = some b) (ne : i ≠ j) : a.natAbs ≠ b.natAbs := fun e => ne (by
  have li := (List.getElem?_eq_some_iff.mp hi).1
  have lj := (List.getElem?_eq_some_iff.mp hj).1
  have z : (ord.map fun s => (s.natAbs : Int))[i]'(by rw [List.length_map]; exact li) = (ord.map fun s => (s.natAbs : Int))[j]'(by rw [List.length_map]; exact lj) := by
    rw [List.getElem_map, List.getElem_map, (List.getElem?_eq_some_iff.mp hi).2, (List.getElem?_eq_some_iff.mp hj).2, e]
  exact (List.getElem_inj h.nd).mp z)
theorem sy_two {x y : Int} (h : x ≠ y) (hx : -8 ≤ x ∧ x ≤ 8) (hy : -8 ≤ y ∧ y ≤ 8) : Sy [x, y] := by
  refine ⟨List.nodup_cons.mpr ⟨fun z => h (List.mem_singleton.mp z), by simp⟩, fun s hs => ?_⟩
  rcases List.mem_cons.mp hs with e | e
  · rw [e]
    exact hx
  · rw [List.mem_singleton.mp e]
    exact hy
theorem sy_one {x : Int} (hx : -8 ≤ x ∧ x ≤ 8) : Sy [x] := ⟨by simp, fun s hs => by rw [List.mem_singleton.mp hs]; exact hx⟩
theorem small1000' {n : Nat} (h : n ≤ 1000) : n ≤ sizeLine := Nat.le_trans h (by decide)
theorem cut_to (xs : List V) (n : Nat) : cutV xs none (some (n : Int)) = xs.take n := by
  unfold cutV
  rw [HT.sIx_none, HT.sIx_nat, List.drop_zero, Nat.sub_zero]
  by_cases h : n ≤ xs.length
  · rw [Nat.min_eq_left h]
  · rw [Nat.min_eq_right (by omega), List.take_length, List.take_of_length_le (by omega)]
end Fd
namespace Te
open PySem PySem.Spec PyProof.Rows L2 GxR Nw Dr Kp Se Cl En Fo Fd
abbrev sOpp : Stmt := topS 11
abbrev nOpp : List Str := ["claim", "say"]
theorem scOpp : FnScope nOpp ["claim"] (defScope sOpp) := ⟨rfl, rfl, rfl, by decide +kernel, rfl, by decide +kernel, by decide +kernel⟩
abbrev sFbf : Stmt := topS 12
theorem scFbf : FnScope ["claims", "claim"] ["claims", "claim"] (defScope sFbf) := ⟨rfl, rfl, rfl, by decide +kernel, rfl, by decide +kernel, by decide +kernel⟩
abbrev sWrg : Stmt := topS 13
theorem scWrg : FnScope ["book", "telling", "number", "claim"] ["book", "telling"] (defScope sWrg) := ⟨rfl, rfl, rfl, by decide +kernel, rfl, by decide +kernel, by decide +kernel⟩
abbrev sEfa : Stmt := topS 25
abbrev nEfa : List Str := ["claims", "claim", "say"]
theorem scEfa : FnScope nEfa ["claims", "claim"] (defScope sEfa) := ⟨rfl, rfl, rfl, by decide +kernel, rfl, by decide +kernel, by decide +kernel⟩
abbrev sEwr : Stmt := topS 32
theorem scEwr : FnScope ["book", "telling", "at"] ["book", "telling"] (defScope sEwr) := ⟨rfl, rfl, rfl, by decide +kernel, rfl, by decide +kernel, by decide +kernel⟩
structure Zt (mg : Str → Option Value) : Prop where
  z_len : mg "len" = none
  z_tuple : mg "tuple" = none
  z_range : mg "range" = none
  z_enumerate : mg "enumerate" = none
theorem for_enl {K : PySem.W.Frag} {a : Addr} {xs : List V} {g : TG} {tb : TS} {D : Ends} {σ : L2.St} {H : Hp} (Pv : Nat → L2.St → Hp → Prop) (h0 : Pv 0 σ H) (hl : ∀ i σ H, i ≤ xs.length → Pv i σ H → SqL K H a xs)
    (hs : ∀ i x σ H T, xs[i]? = some x → Pv i σ H → H T = none → g (.ref T) σ (upd H T (.tup [.int (i : Nat), x])) fun σ2 H2 => tb { D with nx := Pv (i + 1), ct := Pv (i + 1), bk := D.nx } σ2 H2) (hd : ∀ σ H, Pv xs.length σ H → D.nx σ H) :
    ∃ W : Nat → Nat → L2.St → Hp → Prop, (∃ m, W 0 m σ H) ∧ ∀ i m σ H, W i m σ H →
      ((Ite K a).stop i H ∧ D.nx σ H) ∨ ((Ite K a).go i H ∧ ∃ N : L2.St → Hp → Prop, (∀ σ' H', N σ' H' → ∃ m', m' < m ∧ W (i + 1) m' σ' H') ∧ ∀ x H', (Ite K a).yld i H x H' → g x σ H' fun σ2 H2 => tb { D with nx := N, ct := N, bk := D.nx } σ2 H2) := by
  refine ⟨fun i m σ H => i + m = xs.length ∧ Pv i σ H, ⟨xs.length, Nat.zero_add _, h0⟩, fun i m σ H ⟨e, p⟩ => ?_⟩
  have sq := hl i σ H (by omega) p
  cases m with
  | zero =>
    obtain rfl : i = xs.length := by omega
    exact .inl ⟨⟨xs, sq, Nat.le_refl _⟩, hd σ H p⟩
  | succ m =>
    have hx := List.getElem?_eq_getElem (show i < xs.length by omega)
    refine .inr ⟨⟨xs, _, sq, hx⟩, Pv (i + 1), fun σ' H' q => ⟨m, Nat.lt_succ_self m, by omega, q⟩, ?_⟩
    rintro y H' ⟨T, x, rfl, nT, rfl, hy⟩
    exact hs i x σ H T (hy xs sq) p nT
/-! ### what is told by claims alone -/
def neg (cs : List Int) : List Int := cs.map fun s => -s
theorem sy_neg {cs : List Int} (h : Sy cs) : Sy (neg cs) := by
  refine ⟨List.pairwise_map.mpr (h.nd.imp fun {a b} z e => z (by omega)), fun s hs => ?_⟩
  obtain ⟨t, ht, rfl⟩ := List.mem_map.mp hs
  have := h.bd t ht
  omega
/-- the claim i follows by force -/
def Foll (css tss : List (List Int)) (i : Nat) : Prop := ∀ cs, tss[i]? = some cs → Fall (css ++ tss.take i) (neg cs)
def Wr (css tss : List (List Int)) (n : Nat) : Prop := (∃ cs, tss[n]? = some cs ∧ ¬ Fall (css ++ tss.take n) (neg cs)) ∧ ∀ i < n, Foll css tss i
def NoWr (css tss : List (List Int)) : Prop := ∀ i < tss.length, Foll css tss i
theorem Wr.one {css tss : List (List Int)} {n m : Nat} (a : Wr css tss n) (b : Wr css tss m) : n = m := by
  obtain ⟨⟨c1, h1, f1⟩, g1⟩ := a
  obtain ⟨⟨c2, h2, f2⟩, g2⟩ := b
  rcases Nat.lt_trichotomy n m with z | z | z
  · exact absurd (g2 n z c1 h1) f1
  · exact z
  · exact absurd (g1 m z c2 h2) f2
theorem Wr.no {css tss : List (List Int)} {n : Nat} (a : Wr css tss n) (b : NoWr css tss) : False := by
  obtain ⟨⟨c1, h1, f1⟩, g1⟩ := a
  exact f1 (b n (List.getElem?_eq_some_iff.mp h1).1 c1 h1)
/-- a list of claims -/
def Lc (H : Hp) (t : Addr) (tvs : List V) (tss : List (List Int)) : Prop := H t = some (.lst tvs) ∧ tvs.length = tss.length ∧ ∀ (i : Nat) (x : V) (cs : List Int), tvs[i]? = some x → tss[i]? = some cs → TupI H x cs
theorem bk_cat {H : Hp} {p : Addr} {bvs tvs : List V} {css tss : List (List Int)} (hp : H p = some (.tup (bvs ++ tvs))) (l1 : bvs.length = css.length) (h1 : ∀ (i : Nat) (x : V) (cs : List Int), bvs[i]? = some x → css[i]? = some cs → TupI H x cs)
    (l2 : tvs.length = tss.length) (h2 : ∀ (i : Nat) (x : V) (cs : List Int), tvs[i]? = some x → tss[i]? = some cs → TupI H x cs) : Bk H (.ref p) (css ++ tss) := by
  refine ⟨p, _, rfl, hp, by rw [List.length_append, List.length_append, l1, l2], fun i x cs e1 e2 => ?_⟩
  by_cases hi : i < bvs.length
  · rw [List.getElem?_append_left hi] at e1
    rw [List.getElem?_append_left (by omega)] at e2
    exact h1 i x cs e1 e2
  · rw [List.getElem?_append_right (by omega)] at e1
    rw [List.getElem?_append_right (by omega), ← l1] at e2
    exact h2 _ x cs e1 e2
theorem take_at {α : Type} {l : List α} {n i : Nat} {x : α} (h : (l.take n)[i]? = some x) : l[i]? = some x := by
  rw [List.getElem?_take] at h
  split at h
  · exact h
  · cases h
section
variable {P : Program} {w : World} {K : PySem.W.Frag} {mg : Str → Option Value} {base : Heap}
def spOpp : Sp := fun vs H Q _ => ∃ (v : V) (cs : List Int), vs = [v] ∧ TupI H v cs ∧ cs.length ≤ 20 ∧ ∀ p H', H p = none → Same H H' → H' p = some (.lst ((neg cs).map V.int)) → Q (.ref p) H'
theorem ok_opp {f : Addr} {fd : FuncData} {k : Nat} (F : Fun K "opposites" "opposites" sOpp f fd) : FnOk P w K mg base CX0 (k + 1) f fd ["claim"] spOpp := by
  refine F.ok scOpp (fun vs H Q E h => ?_) (fun cdv A outer s H vs Q E hr h => ?_)
  · obtain ⟨v, cs, rfl, _⟩ := h
    rfl
  · obtain ⟨v, cs, rfl, ⟨a, rfl, ha⟩, lc, q⟩ := h
    refine ⟨_, (pss_one (ps_ret (pe_lc (own := [("say", 1)]) (g := (gName 1)) (tt := tYes) rfl scOpp.nd (pi_tup (pv 0)) (blkOk_by (N := nOpp) (sc := defScope sOpp) (by decide +kernel)) (fun _ _ _ _ _ => (pg_name (i := 1) scOpp.nd rfl (.inl rfl))) (fun _ _ _ _ _ => pts_nil) (fun _ _ _ _ _ => (pe_un un_neg (pv 1)))))), ?_⟩
    refine ⟨_, rfl, a, rfl, ⟨_, .of ha⟩, fun D nD => ?_⟩
    refine lc_tup (xs := cs.map V.int) (Pv := fun i H' => Same H H' ∧ H' D = some (.lst ((neg (cs.take i)).map V.int))) ⟨same_new nD, upd_same⟩ (fun i H' _ p => .of (p.1 _ _ ha)) ?_ ?_
    · rintro i x H' hx ⟨s1, hD⟩
      obtain ⟨z, hz, rfl⟩ := at_int hx
      refine ⟨rfl, _, rfl, _, rfl, _, hD, ?_, fun c o y => ?_, ?_⟩
      · unfold neg
        rw [List.length_map, List.length_map, List.length_take]
        exact small1000 (by omega)
      · rw [upd_ne (ne_of_none y nD)]
        exact s1 _ _ y
      · rw [upd_same, List.take_add_one, hz]
        simp [neg]
    · rintro H' ⟨s1, hD⟩
      rw [List.length_map, List.take_length] at hD
      exact q D H' nD s1 hD
/-- follows_by_force(claims, claim), falls(claims, claim) -/
def spFbf (Po : Addr) : Sp := fun vs H Q _ => ∃ (v u : V) (css : List (List Int)) (cs : List Int), vs = [v, u] ∧ Bk H v css ∧ TupI H u cs ∧ (∀ cs ∈ css, Sy cs) ∧ Sy cs ∧ TabG H Po ∧ ∀ H' b, Ke Nof H H' → (b = true ↔ Fall css (neg cs)) → Q (.bl b) H'
theorem ok_fbf {f fF fO Po : Addr} {fd fdF fdO : FuncData} {k : Nat} (F : Fun K "follows_by_force" "follows_by_force" sFbf f fd)
    (FF : Fun K "forced" "forced" sFod fF fdF) (bF : Binds K fdF ["claims", "says"] []) (gF : mg "forced" = some (.ref fF)) (GF : FnOk P w K mg base CX0 5 fF fdF ["claims", "says"] (spFod Po))
    (FO : Fun K "opposites" "opposites" sOpp fO fdO) (bO : Binds K fdO ["claim"] []) (gO : mg "opposites" = some (.ref fO)) (GO : FnOk P w K mg base CX0 1 fO fdO ["claim"] spOpp) :
    FnOk P w K mg base CX0 (k + 6) f fd ["claims", "claim"] (spFbf Po) := by
  refine F.ok scFbf (fun vs H Q E h => ?_) (fun cdv A outer s H vs Q E hr h => ?_)
  · obtain ⟨v, u, css, cs, rfl, _⟩ := h
    rfl
  · obtain ⟨v, u, css, cs, rfl, hb, hu, sy, sc, tg, q⟩ := h
    have hr5 : Room 5 _ := hr.mono (by omega)
    have hr1 : Room 1 _ := hr.mono (by omega)
    have lc := sc.len
    refine ⟨_, (pss_one (ps_ret (pe_cmpR op_eq (pe_ix ix_tup (pe_call GF hr5 (by rfl) gF FF.kp bF .nil pass0 (pa_cons (pv 0) (pa_cons (pe_call GO hr1 (by rfl) gO FO.kp bO .nil pass0 (pa_cons (pv 1) pa_nil)) pa_nil))) pe_int (fun _ _ => rfl)) pe_str (nomark _)))), ?_⟩
    refine ⟨_, rfl, _, rfl, u, cs, rfl, hu, by omega, fun L H1 nL s1 hL => ?_⟩
    have k1 : Ke Nof H H1 := .same s1
    refine ⟨v, L, css, neg cs, rfl, hb.ke k1, hL, sy, sy_neg sc, k1.tabs _ tg, fun H2 p S us steps n ds k2 fr hp hS sl st ls hc hl => ?_, fun H2 p S us steps k2 fr hp hS sl st ls sd => ?_⟩
    · exact ⟨p, _, 0, .str "falls", rfl, rfl, .of hp, rfl, rfl, q H2 _ (k1.trans k2) ⟨fun _ => fall_of st.all (List.mem_of_getElem? hc) hl, fun _ => rfl⟩⟩
    · refine ⟨p, _, 0, .str "stands", rfl, rfl, .of hp, rfl, rfl, q H2 _ (k1.trans k2) ⟨fun z => ?_, fun z => ?_⟩⟩
      · exact absurd z (by decide)
      · exact absurd z (sd.no (fun cs hc => (sy cs hc).nd) fun s hs => List.mem_append_left _ hs)
/-- wrong_at(book, telling), wrong(book, telling) -/
def spWrg (Po : Addr) : Sp := fun vs H Q _ => ∃ (v : V) (t : Addr) (tvs : List V) (css tss : List (List Int)), vs = [v, .ref t] ∧ Bk H v css ∧ Lc H t tvs tss ∧ (∀ cs ∈ css, Sy cs) ∧ (∀ cs ∈ tss, Sy cs) ∧ css.length ≤ 40 ∧ tss.length ≤ 40 ∧ TabG H Po ∧
  (∀ H' n, Ke Nof H H' → Wr css tss n → n ≤ 40 → Q (.int (n : Nat)) H') ∧ ∀ H', Ke Nof H H' → NoWr css tss → Q .non H'
theorem ok_wrg {f fB Po : Addr} {fd fdB : FuncData} {k : Nat} (F : Fun K "wrong_at" "wrong_at" sWrg f fd) (T : Zt mg)
    (FB : Fun K "follows_by_force" "follows_by_force" sFbf fB fdB) (bB : Binds K fdB ["claims", "claim"] []) (gB : mg "follows_by_force" = some (.ref fB)) (GB : FnOk P w K mg base CX0 6 fB fdB ["claims", "claim"] (spFbf Po)) :
    FnOk P w K mg base CX0 (k + 7) f fd ["book", "telling"] (spWrg Po) := by
  refine F.ok scWrg (fun vs H Q E h => ?_) (fun cdv A outer s H vs Q E hr h => ?_)
  · obtain ⟨v, t, tvs, css, tss, rfl, _⟩ := h
    rfl
  · obtain ⟨v, t, tvs, css, tss, rfl, ⟨b, bvs, rfl, hb, lv, hv⟩, ⟨ht, lt, tt⟩, sb, st, l1, l2, tg, q1, q2⟩ := h
    have hr6 : Room 6 _ := hr.mono (by omega)
    refine ⟨_, (pss_cons (ps_for PassesOwn.never rfl (pi_enum (by rfl) T.z_enumerate (pa_cons (pv 1) pa_nil)) (pg_tup rfl (pgs_cons (pg_name (i := 2) scWrg.nd rfl (.inl rfl)) (pgs_cons (pg_name (i := 3) scWrg.nd rfl (.inl rfl)) pgs_nil))) (pss_one (ps_if (pt_not (pt_val (pe_call GB hr6 (by rfl) gB FB.kp bB .nil pass0 (pa_cons (pe_op op_catTN (pv 0) (pe_callTy call_tuple_ofN (by rfl) T.z_tuple (by decide +kernel) (pa_cons (pe_slice sl_listN (pv 1) po_none (po_some (pv 2))) pa_nil))) (pa_cons (pv 3) pa_nil))))) (pss_one (ps_ret (pv 2))) pss_nil)))
      (pss_one (ps_ret pe_non))), ?_⟩
    refine ⟨_, rfl, t, tvs, rfl, .of ht, for_enl (K := K) (a := t) (xs := tvs) (Pv := fun i σ H' => ∃ y2 y3 : Option V, σ = [some (.ref b), some (.ref t), y2, y3] ∧ Ke Nof H H' ∧ ∀ j < i, Foll css tss j) ?_ (fun i σ H' _ p => ?_) ?_ ?_⟩
    · exact ⟨none, none, rfl, .refl _ _, fun j hj => absurd hj (Nat.not_lt_zero _)⟩
    · obtain ⟨_, _, _, k1, _⟩ := p
      exact .of (k1.lst ht fun z => z)
    · rintro i x σ H1 T' hx ⟨y2, y3, rfl, k1, p⟩ nT
      have li := (List.getElem?_eq_some_iff.mp hx).1
      obtain ⟨cs, hc, tx⟩ := bk_at (a := b) lt tt hx
      have k2 : Ke Nof H (upd H1 T' (.tup [.int (i : Nat), x])) := k1.trans (.same (same_new nT))
      refine ⟨T', _, rfl, .of upd_same, rfl, _, _, rfl, _, _, rfl, rfl, ?_⟩
      generalize upd H1 T' (.tup [.int (i : Nat), x]) = H2 at k2
      refine ⟨_, rfl, _, rfl, _, rfl, (i : Nat), rfl, t, _, rfl, .of (k2.lst ht fun z => z), fun L H3 nL s3 hL _ => ?_⟩
      rw [cut_to] at hL
      refine ⟨L, _, rfl, .of hL, fun U H4 nU s4 hU _ => ?_⟩
      have s24 := s3.trans s4
      refine ⟨b, U, _, _, rfl, rfl, s24 _ _ (k2.tups _ _ hb), hU, small1000' (by rw [List.length_take]; omega), fun p5 H5 s5 hp5 => ?_⟩
      have k5 : Ke Nof H H5 := k2.trans (.same (s24.trans s5))
      have bk5 : Bk H5 (.ref p5) (css ++ tss.take i) := bk_cat hp5 lv (fun j y ds e1 e2 => (hv j y ds e1 e2).ke k5) (by rw [List.length_take, List.length_take, lt]) (fun j y ds e1 e2 => (tt j y ds (take_at e1) (take_at e2)).ke k5)
      refine ⟨_, rfl, .ref p5, x, _, cs, rfl, bk5, tx.ke k5, fun ds hd => ?_, st cs (List.mem_of_getElem? hc), k5.tabs _ tg, fun H6 d k6 hd => ⟨d, rfl, ?_⟩⟩
      · rcases List.mem_append.mp hd with z | z
        · exact sb ds z
        · exact st ds (List.mem_of_mem_take z)
      cases d with
      | false => exact ⟨_, rfl, q1 H6 i (k5.trans k6) ⟨⟨cs, hc, fun z => (nomatch hd.mpr z)⟩, p⟩ (by omega)⟩
      | true =>
        refine ⟨_, _, rfl, k5.trans k6, fun j hj => ?_⟩
        by_cases e : j = i
        · subst e
          intro ds hds
          rw [hc] at hds
          cases hds
          exact hd.mp rfl
        · exact p j (by omega)
    · rintro σ H1 ⟨y2, y3, rfl, k1, p⟩
      rw [lt] at p
      exact q2 H1 k1 p
theorem ok_efa {f fC Po : Addr} {fd fdC : FuncData} {k : Nat} (F : Fun K "_law_e_falls" "_law_e_falls" sEfa f fd)
    (FC : Fun K "_law_e_closed" "_law_e_closed" sClo fC fdC) (bC : Binds K fdC ["claims", "says"] []) (gC : mg "_law_e_closed" = some (.ref fC)) (GC : FnOk P w K mg base CX0 2 fC fdC ["claims", "says"] spClo) :
    FnOk P w K mg base CX0 (k + 3) f fd ["claims", "claim"] (spFbf Po) := by
  refine F.ok scEfa (fun vs H Q E h => ?_) (fun cdv A outer s H vs Q E hr h => ?_)
  · obtain ⟨v, u, css, cs, rfl, _⟩ := h
    rfl
  · obtain ⟨v, u, css, cs, rfl, hb, ⟨a, rfl, ha⟩, sy, sc, tg, q⟩ := h
    have hr2 : Room 2 _ := hr.mono (by omega)
    have lc := sc.len
    refine ⟨_, (pss_one (ps_ret (pe_cmpR op_isN (pe_call GC hr2 (by rfl) gC FC.kp bC .nil pass0 (pa_cons (pv 0) (pa_cons (pe_lc (own := [("say", 2)]) (g := (gName 2)) (tt := tYes) rfl scEfa.nd (pi_tup (pv 1)) (blkOk_by (N := nEfa) (sc := defScope sEfa) (by decide +kernel)) (fun _ _ _ _ _ => (pg_name (i := 2) scEfa.nd rfl (.inl rfl))) (fun _ _ _ _ _ => pts_nil) (fun _ _ _ _ _ => (pe_op op_sub pe_int (pv 2)))) pa_nil))) pe_non (nomark _)))), ?_⟩
    refine ⟨_, rfl, _, rfl, a, rfl, ⟨_, .of ha⟩, fun D nD => ?_⟩
    refine lc_tup (xs := cs.map V.int) (Pv := fun i H' => Same H H' ∧ H' D = some (.lst ((neg (cs.take i)).map V.int))) ⟨same_new nD, upd_same⟩ (fun i H' _ p => .of (p.1 _ _ ha)) ?_ ?_
    · rintro i x H' hx ⟨s1, hD⟩
      obtain ⟨z, hz, rfl⟩ := at_int hx
      refine ⟨rfl, _, rfl, _, _, rfl, rfl, _, hD, ?_, fun c o y => ?_, ?_⟩
      · unfold neg
        rw [List.length_map, List.length_map, List.length_take]
        exact small1000 (by omega)
      · rw [upd_ne (ne_of_none y nD)]
        exact s1 _ _ y
      · rw [upd_same, List.take_add_one, hz]
        simp [neg]
    · rintro H1 ⟨s1, hD⟩
      rw [List.length_map, List.take_length] at hD
      have k1 : Ke Nof H H1 := .same s1
      refine ⟨v, D, css, neg cs, rfl, hb.ke k1, hD, sy, sy_neg sc, fun H2 k2 fa => ?_, fun H2 p2 k2 nf => ?_⟩
      · exact ⟨rfl, q H2 _ (k1.trans k2) ⟨fun _ => fa, fun _ => rfl⟩⟩
      · exact ⟨rfl, q H2 _ (k1.trans k2) ⟨fun z => (nomatch of_decide_eq_true z), fun z => absurd z nf⟩⟩
theorem ok_ewr {f fE Po : Addr} {fd fdE : FuncData} {k : Nat} (F : Fun K "_law_e_wrong" "_law_e_wrong" sEwr f fd) (T : Zt mg)
    (FE : Fun K "_law_e_falls" "_law_e_falls" sEfa fE fdE) (bE : Binds K fdE ["claims", "claim"] []) (gE : mg "_law_e_falls" = some (.ref fE)) (GE : FnOk P w K mg base CX0 3 fE fdE ["claims", "claim"] (spFbf Po)) :
    FnOk P w K mg base CX0 (k + 4) f fd ["book", "telling"] (spWrg Po) := by
  refine F.ok scEwr (fun vs H Q E h => ?_) (fun cdv A outer s H vs Q E hr h => ?_)
  · obtain ⟨v, t, tvs, css, tss, rfl, _⟩ := h
    rfl
  · obtain ⟨v, t, tvs, css, tss, rfl, ⟨b, bvs, rfl, hb, lv, hv⟩, ⟨ht, lt, tt⟩, sb, st, l1, l2, tg, q1, q2⟩ := h
    have hr3 : Room 3 _ := hr.mono (by omega)
    refine ⟨_, (pss_cons (ps_for PassesOwn.never rfl (pi_range1 (by rfl) T.z_range (pa_cons (pe_callB call_len_seq (by rfl) T.z_len (by decide +kernel) (pa_cons (pv 1) pa_nil)) pa_nil)) (pg_name (i := 2) scEwr.nd rfl (.inl rfl)) (pss_one (ps_if (pt_not (pt_val (pe_call GE hr3 (by rfl) gE FE.kp bE .nil pass0 (pa_cons (pe_op op_catTN (pv 0) (pe_callTy call_tuple_ofN (by rfl) T.z_tuple (by decide +kernel) (pa_cons (pe_slice sl_listN (pv 1) po_none (po_some (pv 2))) pa_nil))) (pa_cons (pe_ix ix_list (pv 1) (pv 2) (fun _ _ => rfl)) pa_nil))))) (pss_one (ps_ret (pv 2))) pss_nil)))
      (pss_one (ps_ret pe_non))), ?_⟩
    refine ⟨_, rfl, t, _, rfl, .inl (.of ht), (tvs.length : Nat), rfl, by omega, by omega, for_range (Pv := fun i σ H' => ∃ y2 : Option V, σ = [some (.ref b), some (.ref t), y2] ∧ Ke Nof H H' ∧ ∀ j < i, Foll css tss j) ?_ ?_ ?_⟩
    · exact ⟨none, rfl, .refl _ _, fun j hj => absurd hj (Nat.not_lt_zero _)⟩
    · rintro i σ H2 hi ⟨y2, rfl, k2, p⟩
      have hi : i < ((tvs.length : Nat) : Int).toNat := hi
      have li : i < tvs.length := by omega
      have hx := List.getElem?_eq_getElem li
      obtain ⟨cs, hc, tx⟩ := bk_at (a := b) lt tt hx
      generalize tvs[i] = x at hx tx
      have ht2 := k2.lst ht fun z => z
      have e0 : (0 : Int) + (i : Nat) = (i : Nat) := Int.zero_add _
      rw [e0]
      refine ⟨_, rfl, _, rfl, _, rfl, (i : Nat), rfl, t, _, rfl, .of ht2, fun L H3 nL s3 hL _ => ?_⟩
      rw [cut_to] at hL
      refine ⟨L, _, rfl, .of hL, fun U H4 nU s4 hU _ => ?_⟩
      have s24 := s3.trans s4
      refine ⟨b, U, _, _, rfl, rfl, s24 _ _ (k2.tups _ _ hb), hU, small1000' (by rw [List.length_take]; omega), fun p5 H5 s5 hp5 => ?_⟩
      have k5 : Ke Nof H H5 := k2.trans (.same (s24.trans s5))
      have bk5 : Bk H5 (.ref p5) (css ++ tss.take i) := bk_cat hp5 lv (fun j y ds e1 e2 => (hv j y ds e1 e2).ke k5) (by rw [List.length_take, List.length_take, lt]) (fun j y ds e1 e2 => (tt j y ds (take_at e1) (take_at e2)).ke k5)
      refine ⟨_, rfl, _, rfl, t, _, _, x, rfl, rfl, .of (k5.lst ht fun z => z), at_of (j := i) rfl hx, .ref p5, x, _, cs, rfl, bk5, tx.ke k5, fun ds hd => ?_, st cs (List.mem_of_getElem? hc), k5.tabs _ tg, fun H6 d k6 hd => ⟨d, rfl, ?_⟩⟩
      · rcases List.mem_append.mp hd with z | z
        · exact sb ds z
        · exact st ds (List.mem_of_mem_take z)
      cases d with
      | false => exact ⟨_, rfl, q1 H6 i (k5.trans k6) ⟨⟨cs, hc, fun z => (nomatch hd.mpr z)⟩, p⟩ (by omega)⟩
      | true =>
        refine ⟨_, rfl, k5.trans k6, fun j hj => ?_⟩
        by_cases e : j = i
        · subst e
          intro ds hds
          rw [hc] at hds
          cases hds
          exact hd.mp rfl
        · exact p j (by omega)
    · rintro σ H1 ⟨y2, rfl, k1, p⟩
      refine q2 H1 k1 fun i hi => p i ?_
      show i < ((tvs.length : Nat) : Int).toNat
      omega
end
end Te
namespace Gd
open PySem PySem.Spec PyProof.Rows L2
/-! ### a law that shows lists (repr): run where nothing is being shown -/
/-- a promise for calls made while nothing is being shown -/
structure FnG (P : Program) (w : World) (K : PySem.W.Frag) (mg : Str → Option Value) (base : Heap) (k : Nat) (f : Addr) (fd : FuncData) (ps : List Str) (sp : Sp) : Prop where
  len : ∀ us H Q E, sp us H Q E → us.length = ps.length
  run : ∀ (A : Around) (outer : List Env) (s : Shared) (H : Hp) (args : Args) (us : List Value) (vs : List V) (Q : VK) (E : XK), A.guards = some [] → Room k A → Env0 P w K mg base A outer s H → BindsTo s fd args (ps.zip us) → Vals vs us → sp vs H Q E → codeAny (model P w) A (.call (.ref f) args) (CR CX0 outer P w H s Q E) s
section
variable {P : Program} {w : World} {K : PySem.W.Frag} {mg : Str → Option Value} {base : Heap}
theorem okG {x qual : Str} {st : Stmt} {f : Addr} {fd : FuncData} {N ps : List Str} {k : Nat} {sp : Sp} (F : Fun K x qual st f fd) (S : FnScope N ps (defScope st)) (ln : ∀ us H Q E, sp us H Q E → us.length = ps.length)
    (body : ∀ (cdv : Value) (A : Around) (outer : List Env) (s : Shared) (H : Hp) (vs : List V) (Q : VK) (E : XK), A.guards = some [] → Room k (A.deeper (envOfC qual (defScope st) s.heap.objs.size f cdv)) → sp vs H Q E →
      ∃ t, PSs (cxOf CX0 P w K mg base N qual (defScope st) f cdv A outer s H E).nox (defBody st) t ∧ t { nx := fun _ H' => Q .non H', rt := Q } (start N vs) H) : FnG P w K mg base (k + 1) f fd ps sp := by
  obtain ⟨oc, od, kV, doc, pm, an, cdv, ct, osl, rfl, lk, hcd⟩ := F.ex
  refine ⟨ln, fun A outer s H args us vs Q E gd room env bind rel ask => ?_⟩
  have inS : K.In s.heap := env.mod.kin.keeps fun b o e => (env.bs b o e).1
  have noL : s.heap.NoLimit := env.mod.nolimit.keeps fun b o e => (env.bs b o e).1
  refine codeAny_call_function room.depth (inS _ _ lk) rfl S.co S.gen rfl (PySem.W.codeRec_of inS hcd) (bind _ _ _ _ (wpAny_newFunctionEnv_cells S.kind (fun y hy => ?_) fun env' he s1 z => ?_))
  · rcases S.par y.1 (List.of_mem_zip (a := y.1) (b := y.2) hy).1 with q | q
    · exact Or.inl q
    · exact Or.inr ⟨q, PySem.W.cellsFrom_some _ _ _ (Or.inl q)⟩
  · subst he
    obtain ⟨t, h1, h2⟩ := body cdv A outer s H vs Q E gd (room.deeper _) ask
    have J := inv_start (CX := CX0) (E := E) S room.hd env (ln _ _ _ _ ask) rel z
    refine ⟨noL.keeps z.toInCall.keep, codeAny_func (wpAny_mono (h1.nox.run [] s1 _ H _ J h2) (fun fl s' r => ?_) fun _ _ r => r)⟩
    match fl, r with
    | .ret u, r =>
      obtain ⟨v, σ', H', I, rv, q⟩ := r
      exact ⟨v, H', I.os, I.bare, I.base, I.hok, rv, q⟩
    | .next, r =>
      obtain ⟨σ', H', I, q⟩ := r
      exact ⟨.non, H', I.os, I.bare, I.base, I.hok, rfl, q⟩
    | .brk, r =>
      obtain ⟨_, _, _, q⟩ := r
      exact q.elim
    | .cont, r =>
      obtain ⟨_, _, _, q⟩ := r
      exact q.elim
/-- what the abstract heap knows at the law's call: the tables T, the script at a unless K holds it -/
def at0 (K : PySem.W.Frag) (T : List Addr) (a : Addr) (o : HO) : Hp := fun b => if b ∈ T then some (.tbl #[]) else if b = a ∧ (K.lookup a).isNone = true then some o else none
theorem at0_cases {T : List Addr} {a b : Addr} {o u : HO} (h : at0 K T a o b = some u) : (b ∈ T ∧ u = .tbl #[]) ∨ (b ∉ T ∧ b = a ∧ K.lookup a = none ∧ u = o) := by
  unfold at0 at h
  by_cases h1 : b ∈ T
  · rw [if_pos h1] at h
    exact .inl ⟨h1, (Option.some.inj h).symm⟩
  · rw [if_neg h1] at h
    by_cases h2 : b = a ∧ (K.lookup a).isNone = true
    · rw [if_pos h2] at h
      exact .inr ⟨h1, h2.1, Option.isNone_iff_eq_none.mp h2.2, (Option.some.inj h).symm⟩
    · rw [if_neg h2] at h
      cases h
theorem law_at {mb : Str → Option Value} {k : Nat} {fa a : Addr} {cs : List (Addr × Addr)} {fd : FuncData} {x : Str} {sp : Sp} {s1 : Shared} {us : List Value} {ns : List Int} (inK : K.In s1.heap) (ng : s1.heap.Ns mainGlobals mg) (nb : s1.heap.Ns builtinsNs mb)
    (bb : ∀ y : Str, y ≠ "__name__" → mb y = bootBuiltins y) (lim : s1.heap.NoLimit) (gens : s1.gens = #[]) (te : ∀ p ∈ cs, s1.heap.get? p.2 = some (PySem.W.tabObj #[])) (tk : ∀ p ∈ cs, K.lookup p.2 = none) (tc : ∀ p ∈ cs, PySem.W.CodeHd s1.heap p.1 p.2)
    (bm : ∃ (bm : Addr) (ob : Obj), mg "__builtins__" = some (.ref bm) ∧ bm ≠ builtinsNs ∧ s1.heap.get? bm = some ob ∧ ob.cls = .type "module" ∧ ob.dict = some builtinsNs ∧ ob.data = .plain) (la : s1.heap.get? a = some { cls := .type "list", data := .seq us.toArray }) (iu : IntsAre us ns) (lu : ns.length ≤ sizeLine) (room : Room k callerA)
    (F : ∀ base : Heap, K.In base → base.Ns mainGlobals mg → (∀ p ∈ cs, LamX.TabB base mg p.1 p.2) → FnG P w K mg base k fa fd [x] sp) (bind : ∀ (s : Shared) (u : Value), BindsTo s fd ⟨[u], []⟩ [(x, u)])
    (ask : ∀ H : Hp, (∀ p ∈ cs, H p.2 = some (.tbl #[])) → SqL K H a (ns.map V.int) → sp [.ref a] H (fun v _ => v = .bl true) fun _ _ _ => False) :
    codeAny (model P w) callerA (.call (.ref fa) ⟨[.ref a], []⟩) (fun r s' => r = .ok (.ret (.bool true)) ∧ OldK s1.heap s'.heap ∧ s'.os = s1.os ∧ AllBare s'.gens) s1 := by
  have lv := iu.length
  let T := cs.map (·.2)
  let O : HO := .frz { cls := .type "list", data := .seq us.toArray } (.lst (ns.map V.int))
  have tT : ∀ b ∈ T, s1.heap.get? b = some (PySem.W.tabObj #[]) := fun b hb => by
    obtain ⟨p, hp, rfl⟩ := List.mem_map.mp hb
    exact te p hp
  have inT : ∀ p ∈ cs, p.2 ∈ T := fun p hp => List.mem_map.mpr ⟨p, hp, rfl⟩
  have naT : a ∉ T := fun z => by
    have q := tT a z
    rw [la] at q
    cases congrArg Obj.data (Option.some.inj q)
  -- an object that is neither a list nor an empty table is not tracked
  have un0 : ∀ {b : Addr} {o : Obj}, s1.heap.get? b = some o → (∀ v n, o.data ≠ .seq v n) → o.data ≠ .fields #[] → at0 K T a O b = none := fun {b o} e d1 d2 => by
    cases q : at0 K T a O b with
    | none => rfl
    | some u =>
      rcases at0_cases q with ⟨h1, _⟩ | ⟨_, h1, _⟩
      · rw [tT b h1] at e
        cases e
        exact absurd rfl d2
      · rw [h1, la] at e
        cases e
        exact absurd rfl (d1 _ _)
  have ns0 : ∀ {b : Addr} {m : Str → Option Value}, s1.heap.Ns b m → (hidT s1.heap (at0 K T a O)).Ns b m := fun ⟨o, es, ep, e, d, r⟩ =>
    ⟨o, es, ep, hidT_get e (un0 e (fun _ _ z => by rw [d] at z; cases z) fun z => by rw [d] at z; cases z), d, r⟩
  have in0 : K.In (hidT s1.heap (at0 K T a O)) := fun b o e => by
    refine hidT_get (inK b o e) ?_
    cases q : at0 K T a O b with
    | none => rfl
    | some u =>
      rcases at0_cases q with ⟨h1, _⟩ | ⟨_, h1, h2, _⟩
      · obtain ⟨p, hp, rfl⟩ := List.mem_map.mp h1
        rw [tk p hp] at e
        cases e
      · rw [h1, h2] at e
        cases e
  have mod0 : L2.Mod K mg (hidT s1.heap (at0 K T a O)) := ⟨in0, ns0 ng, ⟨mb, ns0 nb, bb⟩, let ⟨mc, h1, h2⟩ := lim; ⟨mc, ns0 h1, h2⟩⟩
  have tab0 : ∀ p ∈ cs, LamX.TabB (hidT s1.heap (at0 K T a O)) mg p.1 p.2 := fun p hp => by
    obtain ⟨bmA, ob, b1, b2, b3, b4, b5, b6⟩ := bm
    obtain ⟨oc, oes, oep, oe, od, _⟩ := ng
    obtain ⟨c0, v0, f0, t0, g0, u0, i0, x0, y0, e1, r1, r2, r3, rest⟩ := tc p hp
    refine ⟨⟨c0, v0, f0, t0, g0, u0, i0, x0, y0, hidT_get e1 (un0 e1 (fun _ _ z => by rw [r2] at z; cases z) fun z => ?_), r1, r2, r3, rest⟩, ⟨bmA, ob, b1, b2, fun z => ?_, fun z => ?_, hidT_get b3 (un0 b3 (fun _ _ z => by rw [b6] at z; cases z) fun z => by rw [b6] at z; cases z), b4, b5, b6⟩, fun z => ?_⟩
    · rw [r2] at z
      cases z
      simp at r3
    · rw [z, oe] at b3
      cases b3
      rw [od] at b6
      cases b6
    · rw [z, te p hp] at b3
      cases b3
      cases b6
    · rw [z, te p hp] at oe
      cases oe
      cases od
  have hok0 : HOk P w (at0 K T a O) s1.heap := fun b u q => by
    rcases at0_cases q with ⟨h1, rfl⟩ | ⟨_, rfl, _, rfl⟩
    · exact tT b h1
    · exact ⟨la, by rw [List.length_map]; exact lu, us, _, vals_ints iu, la⟩
  have sq0 : SqL K (at0 K T a O) a (ns.map V.int) := by
    cases q : K.lookup a with
    | some o =>
      have e := inK a o q
      rw [la] at e
      cases e
      exact .inr ⟨_, us.toArray, _, q, rfl, rfl, rfl, by rw [List.size_toArray, lv]; exact lu, by simpa using vals_ints iu⟩
    | none => exact .inl (.inr ⟨_, (if_neg naT).trans (if_pos ⟨rfl, by rw [q]; rfl⟩)⟩)
  have env0 : Env0 P w K mg (hidT s1.heap (at0 K T a O)) callerA [] s1 (at0 K T a O) := ⟨rfl, mod0, fun b o e => of_hidT e, Nat.le_of_eq (hidT_size _ _), trivial, fun b z => absurd (show b ∈ ([] : List Addr) from z) (by simp), hok0, .of_eq gens⟩
  refine codeAny_mono ((F _ in0 (ns0 ng) tab0).run callerA [] s1 (at0 K T a O) ⟨[.ref a], []⟩ [.ref a] [.ref a] _ _ rfl room env0 (bind s1 (.ref a)) (.cons rfl .nil) (ask _ (fun p hp => if_pos (inT p hp)) sq0)) fun r s' h => ?_
  match r, h with
  | .error e, h => exact False.elim h
  | .ok .next, h => exact False.elim h
  | .ok .brk, h => exact False.elim h
  | .ok .cont, h => exact False.elim h
  | .ok (.ret u), h =>
    obtain ⟨v, H', os, bare, un, hok', rv, q⟩ := h
    obtain rfl : v = .bl true := q
    obtain rfl : u = Value.bool true := rv
    have kept : ∀ b o, b ∉ T → s1.heap.get? b = some o → s'.heap.get? b = some o := fun b o nt e => by
      cases z : at0 K T a O b with
      | none => exact un.keep b o e z (fun y => absurd (show b ∈ ([] : List Addr) from y) (by simp)) (by simp)
      | some u =>
        rcases at0_cases z with ⟨h1, _⟩ | ⟨_, rfl, _, rfl⟩
        · exact absurd h1 nt
        · obtain ⟨e2, _⟩ := hok' b _ (un.frzs b _ _ z)
          rw [la] at e
          cases e
          exact e2
    have tabs : ∀ b ∈ T, ∃ more : Array Value, s'.heap.get? b = some (PySem.W.tabObj more) := fun b hb => by
      obtain ⟨more, z⟩ := un.tbls b #[] (if_pos hb)
      exact ⟨_, hok' b _ z⟩
    refine ⟨rfl, ⟨fun b o e => ?_, fun b o e => ?_⟩, os, bare⟩
    · by_cases hb : b ∈ T
      · obtain ⟨more, z⟩ := tabs b hb
        obtain ⟨p, hp, rfl⟩ := List.mem_map.mp hb
        have e3 := te p hp
        rw [e] at e3
        cases e3
        exact .inr (.inl ⟨((tc p hp).tab (te p hp)).isCodeTable, rfl, #[], more, rfl, by rw [Array.empty_append]; exact z⟩)
      · exact .inl (kept b o hb e)
    · by_cases hb : b ∈ T
      · obtain ⟨more, z⟩ := tabs b hb
        exact ⟨_, z⟩
      · exact ⟨o, kept b o hb e⟩
end
end Gd
namespace St
open PySem PySem.Spec PyProof.Rows L2 Nw
section
variable {X : Cx}
/-- sorted(t), t a tuple of whole numbers: the items are gathered in a list, then a list of these is sorted in its place -/
theorem cr_sortedT : CallR X (.builtin "sorted") (fun vs H Q => ∃ (a : Addr) (ns : List Int), vs = [V.ref a] ∧ SqT X.K H a (ns.map V.int) ∧ ∀ ns' : List Int, ns'.Perm ns → ns'.Pairwise (· ≤ ·) → New H (.lst (ns'.map V.int)) Q) := by
  intro pins s σ H vs us Q I r h
  obtain ⟨a, ns, rfl, hs, q⟩ := h
  obtain ⟨its, rv, ⟨o, ho, hcl, n, hd⟩, hz⟩ := I.tuple hs
  obtain ⟨u, rfl, ru⟩ := Vals.one r
  cases ru
  have hin := Vals.ints rv
  have lz : its.length ≤ sizeLine := by rw [← Vals.length rv]; exact hz
  refine Calls.call_function_entry PyProof.Rows.kind_sorted PyProof.Rows.plain_sorted PyProof.Rows.entry_sorted (PyProof.Rows.args_sorted1 _) ?_
  unfold Builtin.«sorted»
  refine wpAny_bind (m := checkCount "sorted" 1 1 _) (wpAny_pure (wpAny_bind (wpAny_collect_seq a (.inr rfl) ho hcl hd (fun h1 k1 => ?_) (by rw [List.size_toArray]; exact lz))))
  refine wpAny_bind (wpAny_newList ?_ (by rw [List.toList_toArray]; exact lz))
  rw [List.toList_toArray]
  have at1 : (h1.push (seqObj "list" its.toArray 0)).get? h1.objs.size = some (seqObj "list" its.toArray 0) := Heap.get?_push_size _ rfl
  have up1 : ∀ b o, s.heap.get? b = some o → b ≠ h1.objs.size ∧ (h1.push (seqObj "list" its.toArray 0)).get? b = some o := fun b o e => ⟨Nat.ne_of_lt (Heap.lt_size (k1 b o e)), Heap.get?_push_of_some _ (k1 b o e)⟩
  refine wpAny_bind (wpAny_holding (wpAny_call_entry PyProof.Rows.slot_list_sort ⟨_, at1, rfl⟩ PyProof.Rows.entry_list_sort (SrtO.list_sort_ord SrtO.swo_int at1 lz (fun h2 => SrtO.ints_sortable hin h2) fun out g1 g2 => ⟨_, rfl, ?_⟩) (PyProof.Rows.args_list_sort _)))
  obtain ⟨i1, i2, i3⟩ := SrtO.ints_out hin g1 g2
  obtain ⟨ep, hat⟩ := PyProof.Rows.sortedHeap_at (out := out.toArray) at1
  have gone : s.heap.get? h1.objs.size = none := by
    cases e : s.heap.get? h1.objs.size with
    | none => rfl
    | some o => exact absurd (Heap.lt_size (k1 _ o e)) (Nat.lt_irrefl _)
  have hn : H h1.objs.size = none := I.hok.gone gone
  have old : ∀ b o, s.heap.get? b = some o → (PyProof.Rows.sortedHeap (h1.push (seqObj "list" its.toArray 0)) h1.objs.size its out.toArray).get? b = some o := fun b o e => by
    rw [PyProof.Rows.sortedHeap_old (up1 b o e).1 (Heap.lt_size (up1 b o e).2)]
    exact (up1 b o e).2
  have len : ((out.map SrtO.iv).map V.int).length ≤ sizeLine := by
    rw [List.length_map, i2.length_eq]
    rw [List.length_map] at hz
    exact hz
  refine wpAny_pure ⟨_, rfl, .ref h1.objs.size, upd H h1.objs.size (.lst ((out.map SrtO.iv).map V.int)), I.laidN (t' := s.toks) old gone hn ⟨len, out, ep, vals_of_ints i1, hat⟩, rfl, (q _ i2 i3).to _ hn⟩
end
end St
namespace Te
open PySem PySem.Spec PyProof.Rows L2 GxR Nw Dr Kp Se Cl En Fo Fd
abbrev sEcu : Stmt := topS 29
abbrev nEcu : List Str := ["one", "other", "say", "rest", "k"]
theorem scEcu : FnScope nEcu ["one", "other"] (defScope sEcu) := ⟨rfl, rfl, rfl, by decide +kernel, rfl, by decide +kernel, by decide +kernel⟩
abbrev sEtl : Stmt := topS 30
abbrev nEtl : List Str := ["pen", "book", "known", "found", "turn", "one", "some", "claim", "say", "other"]
theorem scEtl : FnScope nEtl ["pen", "book"] (defScope sEtl) := ⟨rfl, rfl, rfl, by decide +kernel, rfl, by decide +kernel, by decide +kernel⟩
abbrev sEtu : Stmt := topS 31
theorem scEtu : FnScope ["pen", "telling", "way", "at", "claim", "spot", "less"] ["pen", "telling"] (defScope sEtu) := ⟨rfl, rfl, rfl, by decide +kernel, rfl, by decide +kernel, by decide +kernel⟩
structure Zu (mg : Str → Option Value) : Prop where
  z_len : mg "len" = none
  z_list : mg "list" = none
  z_tuple : mg "tuple" = none
  z_range : mg "range" = none
  z_sorted : mg "sorted" = none
  z_any : mg "any" = none
/-! ### data of lists of claims -/
def cdat (c : List Int) : PyData := .tuple (c.map PyData.int)
theorem dp_cls {K : PySem.W.Frag} {H : Hp} : ∀ {vs : List V} {cls : List (List Int)}, vs.length = cls.length → (∀ (i : Nat) (x : V) (cs : List Int), vs[i]? = some x → cls[i]? = some cs → TupI H x cs) → DpAll K H vs (cls.map cdat)
  | [], [], _, _ => .nil
  | [], _ :: _, h, _ => by cases h
  | _ :: _, [], h, _ => by cases h
  | v :: t, c :: u, l, h => by
    obtain ⟨a, rfl, ha⟩ := h 0 v c rfl rfl
    exact .cons (.tup (.of ha) (dp_ints c)) (dp_cls (by simp only [List.length_cons] at l; omega) fun i x y h1 h2 => h (i + 1) x y h1 h2)
theorem lay_cls : ∀ cls : List (List Int), PyData.canLayAll0 (cls.map cdat) = true ∧ PyData.depthAll (cls.map cdat) ≤ 3
  | [] => ⟨rfl, by decide⟩
  | c :: t => by
    obtain ⟨h1, h2⟩ := lay_cls t
    refine ⟨?_, ?_⟩
    · show (PyData.canLayAll0 (c.map PyData.int) && PyData.canLayAll0 (t.map cdat)) = true
      rw [h1, flat_lay _ (flat_ints c)]
      rfl
    · show Nat.max (PyData.depthAll (c.map PyData.int) + 1) (PyData.depthAll (t.map cdat)) ≤ 3
      have := flat_depth _ (flat_ints c)
      exact Nat.max_le.mpr ⟨by omega, h2⟩
theorem shaped_cls (cls : List (List Int)) : SeqAt.shaped (.list (cls.map cdat)) = true := by
  obtain ⟨h1, h2⟩ := lay_cls cls
  show (PyData.canLayAll0 (cls.map cdat) && decide (PyData.depthAll (cls.map cdat) + 1 ≤ 64)) = true
  rw [h1, decide_eq_true (by omega)]
  rfl
theorem good_dp {K : PySem.W.Frag} {H : Hp} {a : Addr} {vs : List V} (h : H a = some (.lst vs)) (g : GoodL H vs) : ∃ css : List (List Int), css.length = vs.length ∧ Dp K H (.ref a) (.list (css.map cdat)) := by
  obtain ⟨css, l, t, _⟩ := good_css g
  exact ⟨css, l.symm, .lst (.of h) (dp_cls l t)⟩
theorem eqv_nil {css : List (List Int)} : PyData.eqv (.list (css.map cdat)) (.list []) = true ↔ css = [] := by
  cases css with
  | nil => exact ⟨fun _ => rfl, fun _ => rfl⟩
  | cons a r => exact ⟨fun h => absurd h (by simp [PyData.eqv, PyData.eqvAll]), fun h => nomatch h⟩
theorem cut_from (xs : List V) (n : Nat) : cutV xs (some (n : Int)) none = xs.drop n := by
  unfold cutV
  rw [HT.sIx_none, HT.sIx_nat]
  by_cases h : n ≤ xs.length
  · rw [Nat.min_eq_left h, List.take_of_length_le (by rw [List.length_drop]; exact Nat.le_refl _)]
  · rw [Nat.min_eq_right (by omega), Nat.sub_self, List.take_zero, List.drop_eq_nil_of_le (by omega)]
theorem sy_filter {cs : List Int} (f : Int → Bool) (h : Sy cs) : Sy (cs.filter f) := ⟨h.nd.filter _, fun s hs => h.bd s (List.mem_filter.mp hs).1⟩
theorem sy_cat {as bs : List Int} (ha : Sy as) (hb : Sy bs) (h : ∀ s ∈ as, s ∉ bs) : Sy (as ++ bs) := by
  refine ⟨List.nodup_append.mpr ⟨ha.nd, hb.nd, fun x hx y hy e => h x hx (e ▸ hy)⟩, fun s hs => ?_⟩
  rcases List.mem_append.mp hs with z | z
  · exact ha.bd s z
  · exact hb.bd s z
theorem sy_sub {as bs : List Int} (h : as.Sublist bs) (hb : Sy bs) : Sy as := ⟨h.nodup hb.nd, fun s hs => hb.bd s (h.subset hs)⟩
theorem _root_.Kp.Frs.nf {H : Hp} {f c p : Addr} {B : Nat} (h : Frs H p) (hF : Feed H f c B) : p ≠ f := by
  obtain ⟨ns, n, r, h1, _⟩ := hF
  exact Ne.symm (h f _ h1 fun ps z => by cases z)
theorem _root_.Kp.Frs.nc {H : Hp} {f c p : Addr} {B : Nat} (h : Frs H p) (hF : Feed H f c B) : p ≠ c := by
  obtain ⟨ns, n, r, h1, h2, _⟩ := hF
  exact Ne.symm (h c _ h2 fun ps z => by cases z)
section
variable {P : Program} {w : World} {K : PySem.W.Frag} {mg : Str → Option Value} {base : Heap} {fD fU fC : Addr} {fdD fdU fdC : FuncData}
/-- cut(one, other): a claim, or None -/
def spEcu : Sp := fun vs H Q _ => ∃ (v u : V) (cs ds : List Int), vs = [v, u] ∧ TupI H v cs ∧ TupI H u ds ∧ Sy cs ∧ Sy ds ∧ (∀ H' p ns, Same H H' → H' p = some (.tup (ns.map V.int)) → Sy ns → Q (.ref p) H') ∧ ∀ H', Same H H' → Q .non H'
theorem ok_ecu {f : Addr} {fd : FuncData} {k : Nat} (F : Fun K "_law_e_cut" "_law_e_cut" sEcu f fd) (T : Zu mg) : FnOk P w K mg base CX0 (k + 1) f fd ["one", "other"] spEcu := by
  refine F.ok scEcu (fun vs H Q E h => ?_) (fun cdv A outer s H vs Q E hr h => ?_)
  · obtain ⟨v, u, cs, ds, rfl, _⟩ := h
    rfl
  · obtain ⟨v, u, cs, ds, rfl, ⟨a, rfl, ha⟩, ⟨b, rfl, hb⟩, sc, sd, q1, q2⟩ := h
    have lc := sc.len
    have ld := sd.len
    refine ⟨_, (pss_cons (ps_for PassesOwn.never rfl (pi_tup (pv 0)) (pg_name (i := 2) scEcu.nd rfl (.inr rfl)) (pss_one (ps_if (pt_cmpR op_in_seq (pe_op op_sub pe_int (pv 2)) (pv 1) (by rfl)) (Evl.pss_cut (ps_set (i := 3) scEcu.nd rfl (.inr rfl) (pe_lc (own := [("k", 4)]) (g := (gName 4))  rfl scEcu.nd (pi_tup (pv 0)) (blkOk_by (N := nEcu) (sc := defScope sEcu) (by decide +kernel)) (fun _ _ _ _ _ => (pg_name (i := 4) scEcu.nd rfl (.inl rfl))) (fun _ _ _ _ _ => (pts_one (pt_cmpR op_ne (pv 4) (pv 2) (nomark _)))) (fun _ _ _ _ _ => (pv 4))))
      (Evl.pss_cut (ps_set (i := 3) scEcu.nd rfl (.inr rfl) (pe_op op_catN (pv 3) (pe_lc (own := [("k", 4)]) (g := (gName 4))  rfl scEcu.nd (pi_tup (pv 1)) (blkOk_by (N := nEcu) (sc := defScope sEcu) (by decide +kernel)) (fun _ _ _ _ _ => (pg_name (i := 4) scEcu.nd rfl (.inl rfl))) (fun _ _ _ _ _ => (pts_one (PW.pt (pw_and (pt_cmpR op_ne (pv 4) (pe_op op_sub pe_int (pv 2)) (nomark _)) (pw_and1 (pt_cmpR (op_notIn_seqB (K := K) rfl) (pv 4) (pv 3) (by rfl))))))) (fun _ _ _ _ _ => (pv 4)))))
      (pss_one (ps_if (pt_not (pt_val (pe_callB (cr_any rfl) (by rfl) T.z_any (by decide +kernel) (pa_cons (pe_lc (own := [("k", 4)]) (g := (gName 4)) (tt := tYes) rfl scEcu.nd (pi_list (pv 3)) (blkOk_by (N := nEcu) (sc := defScope sEcu) (by decide +kernel)) (fun _ _ _ _ _ => (pg_name (i := 4) scEcu.nd rfl (.inl rfl))) (fun _ _ _ _ _ => pts_nil) (fun _ _ _ _ _ => (pe_cmpR (op_in_seqB (K := K) rfl) (pe_op op_sub pe_int (pv 4)) (pv 3) (by rfl)))) pa_nil)))) (pss_one (ps_ret (pe_callTy call_tuple_ofN (by rfl) T.z_tuple (by decide +kernel) (pa_cons (pe_callB cr_sortedN (by rfl) T.z_sorted (by decide +kernel) (pa_cons (pv 3) pa_nil)) pa_nil)))) pss_nil)))) pss_nil)))
      (pss_one (ps_ret pe_non))), ?_⟩
    refine ⟨_, rfl, a, rfl, ⟨_, .of ha⟩, for_tup (K := K) (a := a) (xs := cs.map V.int) (Pv := fun i σ H' => ∃ y2 y3 : Option V, σ = [some (.ref a), some (.ref b), y2, y3, none] ∧ Same H H') ?_ (fun i σ H' _ p => ?_) ?_ ?_⟩
    · exact ⟨none, none, rfl, .refl _⟩
    · obtain ⟨_, _, _, s1⟩ := p
      exact .of (s1 _ _ ha)
    · rintro i x σ H1 hx ⟨y2, y3, rfl, s1⟩
      obtain ⟨z, hz, rfl⟩ := at_int hx
      refine ⟨_, rfl, _, _, rfl, rfl, _, rfl, b, _, rfl, .inr (.of (s1 _ _ hb)), rfl, ints_flat ds, _, rfl, ite2 (fun e => ?_) (fun e => ?_)⟩
      rotate_left
      · exact ⟨_, _, rfl, s1⟩
      -- rest
      refine Evl.q_cut (M := fun σ' H' => ∃ D, σ' = [some (.ref a), some (.ref b), some (.int z), some (.ref D), none] ∧ Same H H' ∧ H' D = some (.lst ((cs.filter fun s => !decide (V.int s = V.int z)).map V.int))) ?_ ?_
      · refine ⟨_, rfl, a, rfl, ⟨_, .of (s1 _ _ ha)⟩, fun D nD => ?_⟩
        refine lc_tup (xs := cs.map V.int) (Pv := fun i H' => Same H1 H' ∧ H' D = some (.lst (((cs.take i).filter fun s => !decide (V.int s = V.int z)).map V.int))) ⟨same_new nD, upd_same⟩ (fun i H' _ p => .of (p.1 _ _ (s1 _ _ ha))) ?_ ?_
        · rintro j x H' hx ⟨s2, hD⟩
          obtain ⟨y, hy, rfl⟩ := at_int hx
          have ft := Sl.filter_take (f := fun s => !decide (V.int s = V.int z)) hy
          refine ⟨rfl, _, rfl, _, rfl, rfl, _, rfl, ite2 (fun y1 => ?_) (fun y1 => ?_)⟩
          · have y1 : (!decide (V.int y = V.int z)) = true := y1
            refine ⟨_, rfl, _, hD, ?_, fun c o y => ?_, ?_⟩
            · rw [List.length_map]
              exact small1000 (Nat.le_trans (List.length_filter_le _ _) (by rw [List.length_take]; omega))
            · rw [upd_ne (ne_of_none y nD)]
              exact s2 _ _ y
            · rw [upd_same, ft, if_pos y1, List.map_append]
              rfl
          · have y1 : ¬ (!decide (V.int y = V.int z)) = true := y1
            refine ⟨s2, ?_⟩
            rw [ft, if_neg y1, List.append_nil]
            exact hD
        · rintro H' ⟨s2, hD⟩
          rw [List.length_map, List.take_length] at hD
          exact ⟨D, rfl, s1.trans s2, hD⟩
      clear s1 H1
      rintro σ' H1 ⟨R, rfl, s1, hR⟩
      have sr1 := sy_filter (fun s => !decide (V.int s = V.int z)) sc
      have lr1 := sr1.len
      generalize cs.filter (fun s => !decide (V.int s = V.int z)) = r1 at hR sr1 lr1
      -- rest + ..
      refine Evl.q_cut (M := fun σ' H' => ∃ (D : Addr) (r : List Int), σ' = [some (.ref a), some (.ref b), some (.int z), some (.ref D), none] ∧ Same H H' ∧ H' D = some (.lst (r.map V.int)) ∧ Sy r) ?_ ?_
      · refine ⟨_, rfl, _, rfl, b, rfl, ⟨_, .of (s1 _ _ hb)⟩, fun D nD => ?_⟩
        refine lc_tup (xs := ds.map V.int) (Pv := fun i H' => Same H1 H' ∧ H' D = some (.lst (((ds.take i).filter fun s => !decide (V.int s = V.int (0 - z)) && !inV (.int s) (r1.map V.int)).map V.int))) ⟨same_new nD, upd_same⟩ (fun i H' _ p => .of (p.1 _ _ (s1 _ _ hb))) ?_ ?_
        · rintro j x H' hx ⟨s2, hD⟩
          obtain ⟨y, hy, rfl⟩ := at_int hx
          have ft := Sl.filter_take (f := fun s => !decide (V.int s = V.int (0 - z)) && !inV (.int s) (r1.map V.int)) hy
          refine ⟨rfl, _, rfl, _, rfl, _, _, rfl, rfl, rfl, _, rfl, ite2 (fun y1 => ?_) (fun y1 => ?_)⟩
          · have y1 : (!decide (V.int y = V.int (0 - z))) = true := y1
            refine ⟨_, rfl, _, rfl, R, _, rfl, .inl (.of (s2 _ _ hR)), rfl, ints_flat r1, _, rfl, ite2 (fun y2 => ?_) (fun y2 => ?_)⟩
            · have y2 : (!inV (.int y) (r1.map V.int)) = true := y2
              refine ⟨_, rfl, _, hD, ?_, fun c o y => ?_, ?_⟩
              · rw [List.length_map]
                exact small1000 (Nat.le_trans (List.length_filter_le _ _) (by rw [List.length_take]; omega))
              · rw [upd_ne (ne_of_none y nD)]
                exact s2 _ _ y
              · rw [upd_same, ft, if_pos (by rw [y1, y2]; rfl), List.map_append]
                rfl
            · have y2 : ¬ (!inV (.int y) (r1.map V.int)) = true := y2
              refine ⟨s2, ?_⟩
              rw [ft, if_neg (by rw [Bool.eq_false_iff.mpr y2, Bool.and_false]; decide), List.append_nil]
              exact hD
          · have y1 : ¬ (!decide (V.int y = V.int (0 - z))) = true := y1
            refine iteF ⟨s2, ?_⟩
            rw [ft, if_neg (by rw [Bool.eq_false_iff.mpr y1, Bool.false_and]; decide), List.append_nil]
            exact hD
        · rintro H2 ⟨s2, hD⟩
          rw [List.length_map, List.take_length] at hD
          have sr2 := sy_filter (fun s => !decide (V.int s = V.int (0 - z)) && !inV (.int s) (r1.map V.int)) sd
          have lr2 := sr2.len
          have dj : ∀ s ∈ r1, s ∉ ds.filter (fun s => !decide (V.int s = V.int (0 - z)) && !inV (.int s) (r1.map V.int)) := fun s hs hm => by
            have := (List.mem_filter.mp hm).2
            rw [(in_ints _ _).mpr hs, Bool.not_true, Bool.and_false] at this
            cases this
          refine ⟨R, D, _, _, rfl, rfl, s2 _ _ hR, hD, small1000' (by rw [List.length_map, List.length_map]; omega), fun p H3 np s3 hp _ => ?_⟩
          exact ⟨p, _, rfl, s1.trans (s2.trans s3), by rw [List.map_append]; exact hp, sy_cat sr1 sr2 dj⟩
      clear hR sr1 lr1 r1 s1 H1 R
      rintro σ' H1 ⟨R, r, rfl, s1, hR, sr⟩
      have lr := sr.len
      -- if not any(..)
      refine ⟨_, rfl, R, rfl, ⟨_, .of hR⟩, fun D nD => ?_⟩
      refine lc_list (xs := r.map V.int) (Pv := fun i H' => Same H1 H' ∧ ∃ bs : List Bool, H' D = some (.lst (bs.map V.bl)) ∧ bs.length = i) ⟨same_new nD, [], upd_same, rfl⟩ (fun i H' _ p => .of (p.1 _ _ hR)) ?_ ?_
      · rintro j x H2 hx ⟨s2, bs, hD, lb⟩
        obtain ⟨y, hy, rfl⟩ := at_int hx
        have lj := (List.getElem?_eq_some_iff.mp hy).1
        refine ⟨rfl, _, rfl, _, _, rfl, rfl, _, rfl, R, _, rfl, .inl (.of (s2 _ _ hR)), rfl, ints_flat r, _, hD, by rw [List.length_map]; exact small1000 (by omega), fun c o y => ?_, bs ++ [inV (.int (0 - y)) (r.map V.int)], ?_, by rw [List.length_append, lb]; rfl⟩
        · rw [upd_ne (ne_of_none y nD)]
          exact s2 _ _ y
        · rw [upd_same, List.map_append]
          rfl
      · rintro H2 ⟨s2, bs, hD, lb⟩
        refine ⟨D, bs, rfl, .of hD, _, rfl, ite2 (fun e => ?_) (fun e => ?_)⟩
        · refine ⟨_, rfl, R, r, rfl, .of (s2 _ _ hR), fun ns pn so p H3 np s3 hp _ => ⟨p, _, rfl, .of hp, fun p2 H4 np2 s4 hp2 _ => ?_⟩⟩
          exact q1 H4 p2 ns (s1.trans (s2.trans (s3.trans s4))) hp2 (sy_perm pn sr)
        · exact ⟨_, _, rfl, s1.trans s2⟩
    · rintro σ H1 ⟨y2, y3, rfl, s1⟩
      exact q2 H1 s1
end
end Te
namespace Te
open PySem PySem.Spec PyProof.Rows L2 GxR Nw Dr Kp Se Cl En Fo Fd
section
variable {P : Program} {w : World} {K : PySem.W.Frag} {mg : Str → Option Value} {base : Heap} {fD fU fC : Addr} {fdD fdU fdC : FuncData}
theorem good_snoc {H : Hp} {L : Addr} {vs : List V} {v : V} {cs : List Int} (hL : H L = some (.lst vs)) (g : GoodL H vs) (tv : TupI H v cs) (sc : Sy cs) : GoodL (upd H L (.lst (vs ++ [v]))) (vs ++ [v]) := fun u hu => by
  rcases List.mem_append.mp hu with z | z
  · exact (g.tups (upd_tup hL)) u z
  · rw [List.mem_singleton.mp z]
    obtain ⟨a, e, ha⟩ := tv
    exact ⟨cs, ⟨a, e, upd_tup hL _ _ ha⟩, sc⟩
theorem at_last {vs : List V} (h : vs ≠ []) : ∃ v ∈ vs, atI vs (-1) = some v := by
  obtain ⟨v, e⟩ : ∃ v, vs = vs.dropLast ++ [v] := ⟨vs.getLast h, (List.dropLast_concat_getLast h).symm⟩
  refine ⟨v, by rw [e]; exact List.mem_append_right _ (List.mem_singleton.mpr rfl), ?_⟩
  rw [e]
  exact atI_last _ _
/-- telling(pen, book): a list of claims -/
def spEtl : Sp := fun vs H Q _ => ∃ (f c b : Addr) (B : Nat) (bvs : List V), vs = [.ref f, .ref b] ∧ Feed H f c B ∧ B ≤ 2 ^ 25 ∧ H b = some (.tup bvs) ∧ GoodL H bvs ∧ bvs ≠ [] ∧ bvs.length ≤ 40 ∧
  ∀ (p : Addr) (tvs : List V) (H' : Hp), Feed H' f c (B + 200) → Ke (· = f) H H' → Frs H p → H' p = some (.lst tvs) → GoodL H' tvs → tvs ≠ [] → tvs.length ≤ 12 → Q (.ref p) H'
theorem ok_etl {f : Addr} {fd : FuncData} {k : Nat} (F : Fun K "_law_e_telling" "_law_e_telling" sEtl f fd) (T : Zu mg) (FD : Fun K "_law_e_take" "_law_e_take" sDrw fD fdD) (bD : Binds K fdD ["pen", "many"] []) (gD : mg "_law_e_take" = some (.ref fD)) (GD : FnOk P w K mg base CX0 2 fD fdD ["pen", "many"] spDrw)
    (FU : Fun K "_law_e_cut" "_law_e_cut" sEcu fU fdU) (bU : Binds K fdU ["one", "other"] []) (gU : mg "_law_e_cut" = some (.ref fU)) (GU : FnOk P w K mg base CX0 1 fU fdU ["one", "other"] spEcu) :
    FnOk P w K mg base CX0 (k + 3) f fd ["pen", "book"] spEtl := by
  refine F.ok scEtl (fun vs H Q E h => ?_) (fun cdv A outer s H vs Q E hr h => ?_)
  · obtain ⟨f, c, b, B, bvs, rfl, _⟩ := h
    rfl
  · obtain ⟨f, c, b, B, bvs, rfl, hF, hB, hb, gb, nb, lb, q⟩ := h
    have hr2 : Room 2 _ := hr.mono (by omega)
    have hr1 : Room 1 _ := hr.mono (by omega)
    refine ⟨_, (Evl.pss_cut (ps_set (i := 2) scEtl.nd rfl (.inl rfl) (pe_callTy call_list_ofN (by rfl) T.z_list (by decide +kernel) (pa_cons (pv 1) pa_nil)))
      (Evl.pss_cut (ps_set (i := 3) scEtl.nd rfl (.inl rfl) (pe_lstN pa_nil))
      (Evl.pss_cut (ps_for PassesOwn.never rfl (pi_range1 (by rfl) T.z_range (pa_cons (pe_op op_add pe_int (pe_call GD hr2 (by rfl) gD FD.kp bD .nil pass0 (pa_cons (pv 0) (pa_cons pe_int pa_nil)))) pa_nil)) (pg_name (i := 4) scEtl.nd rfl (.inl rfl)) (Evl.pss_cut (ps_set (i := 5) scEtl.nd rfl (.inr rfl) (pe_ix ix_list (pv 2) (pe_call GD hr2 (by rfl) gD FD.kp bD .nil pass0 (pa_cons (pv 0) (pa_cons (pe_callB call_len_seq (by rfl) T.z_len (by decide +kernel) (pa_cons (pv 2) pa_nil)) pa_nil))) (fun _ _ => rfl)))
      (Evl.pss_cut (ps_setLc (i := 6) (own := [("other", 9)]) (g := (gName 9)) (tt := tYes) rfl scEtl.nd rfl rfl (sw_true rfl rfl rfl (by decide +kernel)) (pi_list (pv 2)) (blkOk_by (N := nEtl) (sc := defScope sEtl) (by decide +kernel)) (fun _ _ _ _ _ => (pg_name (i := 9) scEtl.nd rfl (.inl rfl))) (fun _ _ _ _ _ => pts_nil) (fun _ _ _ _ _ => (pe_call GU hr1 (by rfl) gU FU.kp bU .nil pass0 (pa_cons (pv 5) (pa_cons (pv 9) pa_nil)))))
      (Evl.pss_cut (ps_setLc (i := 6) (own := [("claim", 7)]) (g := (gName 7))  rfl scEtl.nd rfl rfl (sw_true rfl rfl rfl (by decide +kernel)) (pi_list (pv 6)) (blkOk_by (N := nEtl) (sc := defScope sEtl) (by decide +kernel)) (fun _ _ _ _ _ => (pg_name (i := 7) scEtl.nd rfl (.inl rfl))) (fun _ _ _ _ _ => (pts_one (pt_cmpR op_notN (pv 7) pe_non (nomark _)))) (fun _ _ _ _ _ => (pv 7)))
      (Evl.pss_cut (ps_set (i := 7) scEtl.nd rfl (.inl rfl) (pv 5))
      (Evl.pss_cut (ps_if (pt_cmpR (op_neD hr.units) (pv 6) (pe_lstN pa_nil) (nomark _)) (pss_one (ps_set (i := 7) scEtl.nd rfl (.inl rfl) (pe_ix ix_list (pv 6) (pe_call GD hr2 (by rfl) gD FD.kp bD .nil pass0 (pa_cons (pv 0) (pa_cons (pe_callB call_len_seq (by rfl) T.z_len (by decide +kernel) (pa_cons (pv 6) pa_nil)) pa_nil))) (fun _ _ => rfl)))) pss_nil)
      (Evl.pss_cut (ps_set (i := 8) scEtl.nd rfl (.inl rfl) (pe_op op_mul (pe_ix ix_list (pe_lstN (pa_cons pe_int (pa_cons (pe_un un_neg pe_int) pa_nil))) (pe_call GD hr2 (by rfl) gD FD.kp bD .nil pass0 (pa_cons (pv 0) (pa_cons pe_int pa_nil))) (fun _ _ => rfl)) (pe_op op_add pe_int (pe_call GD hr2 (by rfl) gD FD.kp bD .nil pass0 (pa_cons (pv 0) (pa_cons pe_int pa_nil))))))
      (Evl.pss_cut (ps_if (PW.pt (pw_and (pt_cmpR op_eq (pe_call GD hr2 (by rfl) gD FD.kp bD .nil pass0 (pa_cons (pv 0) (pa_cons pe_int pa_nil))) pe_int (nomark _)) (pw_and (pt_cmpR op_notIn_seq (pv 8) (pv 7) (by rfl)) (pw_and1 (pt_cmpR op_notIn_seq (pe_op op_sub pe_int (pv 8)) (pv 7) (by rfl)))))) (pss_one (ps_set (i := 7) scEtl.nd rfl (.inl rfl) (pe_callTy call_tuple_ofN (by rfl) T.z_tuple (by decide +kernel) (pa_cons (pe_callB St.cr_sortedT (by rfl) T.z_sorted (by decide +kernel) (pa_cons (pe_op op_catTN (pv 7) (pe_tupN (pa_cons (pv 8) pa_nil))) pa_nil)) pa_nil)))) pss_nil)
      (Evl.pss_cut (ps_expr (pe_bm PySem.F.plainAttrs_list PySem.F.slot_list_append PySem.F.type_list_append mt_append (pv 2) (pa_cons (pv 7) pa_nil)))
      (pss_one (ps_if (pt_cmpR op_gt (pe_call GD hr2 (by rfl) gD FD.kp bD .nil pass0 (pa_cons (pv 0) (pa_cons pe_int pa_nil))) pe_int (nomark _)) (pss_one (ps_expr (pe_bm PySem.F.plainAttrs_list PySem.F.slot_list_append PySem.F.type_list_append mt_append (pv 3) (pa_cons (pv 7) pa_nil)))) pss_nil)))))))))))
      (pss_one (ps_ret (pe_ifExp (pt_cmpR (op_neD hr.units) (pv 3) (pe_lstN pa_nil) (nomark _)) (pv 3) (pe_lstN (pa_cons (pe_ix ix_list (pv 2) (pe_un un_neg pe_int) (fun _ _ => rfl)) pa_nil)))))))), ?_⟩
    refine Evl.q_cut (M := fun σ' H' => ∃ N, σ' = [some (.ref f), some (.ref b), some (.ref N), none, none, none, none, none, none, none] ∧ H N = none ∧ Same H H' ∧ H' N = some (.lst bvs)) ?_ ?_
    · exact ⟨_, rfl, b, _, rfl, .inr (.of hb), fun N H1 nN s1 hN _ => ⟨N, rfl, nN, s1, hN⟩⟩
    rintro σ' H1 ⟨N, rfl, nN, s1, hN⟩
    refine Evl.q_cut (M := fun σ' H' => ∃ S, σ' = [some (.ref f), some (.ref b), some (.ref N), some (.ref S), none, none, none, none, none, none] ∧ H S = none ∧ S ≠ N ∧ Same H H' ∧ H' N = some (.lst bvs) ∧ H' S = some (.lst [])) ?_ ?_
    · exact ⟨Nat.zero_le _, fun S H2 nS s2 hS _ => ⟨S, rfl, s1.free nS, Ne.symm (ne_of_none hN nS), s1.trans s2, s2 _ _ hN, hS⟩⟩
    clear hN s1 H1
    rintro σ' H1 ⟨S, rfl, nS, nSN, s1, hN, hS⟩
    have F1 := hF.same s1
    have frN : Frs H N := .of nN
    have frS : Frs H S := .of nS
    have nNf : N ≠ f := hF.nf nN
    have nNc : N ≠ c := hF.nc nN
    have nSf : S ≠ f := hF.nf nS
    have nSc : S ≠ c := hF.nc nS
    -- the loop
    refine Evl.q_cut (M := fun σ' H' => ∃ (y4 y5 y6 y7 y8 : Option V) (kvs fvs : List V), σ' = [some (.ref f), some (.ref b), some (.ref N), some (.ref S), y4, y5, y6, y7, y8, none] ∧ Feed H' f c (B + 200) ∧ Ke (· = f) H H' ∧ H' N = some (.lst kvs) ∧ H' S = some (.lst fvs) ∧ GoodL H' kvs ∧ GoodL H' fvs ∧ kvs ≠ [] ∧ fvs.length ≤ 12) ?_ ?_
    · refine ⟨_, rfl, f, c, 12, B, rfl, by decide, by decide, F1, by omega, fun d H2 d0 d1 F2 k2 => ?_⟩
      refine ⟨_, _, rfl, rfl, 1 + d, rfl, by omega, by omega, for_range (Pv := fun i σ H' => ∃ (y4 y5 y6 y7 y8 : Option V) (kvs fvs : List V), σ = [some (.ref f), some (.ref b), some (.ref N), some (.ref S), y4, y5, y6, y7, y8, none] ∧ Feed H' f c (B + 1 + 10 * i) ∧ Ke (· = f) H H' ∧ H' N = some (.lst kvs) ∧ H' S = some (.lst fvs) ∧ GoodL H' kvs ∧ GoodL H' fvs ∧ kvs ≠ [] ∧ kvs.length ≤ 40 + i ∧ fvs.length ≤ i) ?_ ?_ ?_⟩
      · exact ⟨none, none, none, none, none, bvs, [], rfl, F2, (Ke.same s1).trans k2, k2.lst hN nNf, k2.lst hS nSf, gb.tups fun b xs h => k2.tups _ _ (s1 _ _ h), fun v hv => (nomatch hv), nb, by omega, Nat.le_refl _⟩
      · clear F1 k2 F2 hN hS s1 H1 H2
        rintro i σ H1 hi ⟨y4, y5, y6, y7, y8, kvs, fvs, rfl, F1, k1, hN, hS, gk, gf, nk, lk, lf⟩
        have hi : i < (1 + d).toNat := hi
        have lk0 : 0 < kvs.length := List.length_pos_iff.mpr nk
        -- one
        refine Evl.q_cut (M := fun σ' H' => ∃ v1, σ' = [some (.ref f), some (.ref b), some (.ref N), some (.ref S), some (.int (0 + (i : Int))), some v1, y6, y7, y8, none] ∧ Feed H' f c (B + 1 + 10 * i + 1) ∧ Ke (· = f) H1 H' ∧ v1 ∈ kvs) ?_ ?_
        · refine ⟨_, rfl, _, rfl, _, rfl, N, _, rfl, .inl (.of hN), f, c, _, B + 1 + 10 * i, rfl, by omega, by omega, F1, by omega, fun e H2 e0 e1 F2 k2 => ?_⟩
          have el : e.toNat < kvs.length := by omega
          exact ⟨N, _, _, kvs[e.toNat], rfl, rfl, .of (k2.lst hN nNf), at_of (j := e.toNat) (by omega) (List.getElem?_eq_getElem el), _, rfl, F2, k2, List.getElem_mem el⟩
        rintro σ' H2 ⟨v1, rfl, F2, k2, m1⟩
        have k12 := k1.trans k2
        have hN2 := k2.lst hN nNf
        have hS2 := k2.lst hS nSf
        have gk2 : GoodL H2 kvs := gk.tups k2.tups
        have gf2 : GoodL H2 fvs := gf.tups k2.tups
        obtain ⟨c1, t1, sc1⟩ := gk2 v1 m1
        -- some
        refine Evl.q_cut (M := fun σ' H' => ∃ (M : Addr) (svs : List V), σ' = [some (.ref f), some (.ref b), some (.ref N), some (.ref S), some (.int (0 + (i : Int))), some v1, some (.ref M), y7, y8, none] ∧ Same H2 H' ∧ H' M = some (.lst svs) ∧ svs.length = kvs.length ∧ ∀ v ∈ svs, v = .non ∨ ∃ cs, TupI H' v cs ∧ Sy cs) ?_ ?_
        · refine ⟨_, rfl, N, rfl, ⟨_, .of hN2⟩, fun D nD => ?_⟩
          refine lc_list (xs := kvs) (Pv := fun i H' => Same H2 H' ∧ ∃ svs : List V, H' D = some (.lst svs) ∧ svs.length = i ∧ ∀ v ∈ svs, v = .non ∨ ∃ cs, TupI H' v cs ∧ Sy cs) ⟨same_new nD, [], upd_same, rfl, fun v hv => (nomatch hv)⟩ (fun i H' _ p => .of (p.1 _ _ hN2)) ?_ ?_
          · rintro j x H3 hx ⟨s3, svs, hD, ls, hv⟩
            have lj := (List.getElem?_eq_some_iff.mp hx).1
            obtain ⟨c2, t2, sc2⟩ := gk2 x (List.mem_of_getElem? hx)
            have up : ∀ {H4 : Hp} {y : V}, Same H3 H4 → (∀ b xs, H4 b = some (.tup xs) → upd H4 D (.lst (svs ++ [y])) b = some (.tup xs)) := fun {H4 y} s4 => upd_tup (s4 _ _ hD)
            refine ⟨rfl, _, rfl, _, rfl, v1, x, c1, c2, rfl, t1.ke (.same s3 : Ke Nof _ _), t2.ke (.same s3 : Ke Nof _ _), sc1, sc2, fun H4 p ns s4 hp sn => ?_, fun H4 s4 => ?_⟩
            · refine ⟨_, s4 _ _ hD, small1000 (by omega), fun b o z => by rw [upd_ne (ne_of_none z nD)]; exact s4 _ _ (s3 _ _ z), svs ++ [.ref p], upd_same, by rw [List.length_append, ls]; rfl, fun v hv2 => ?_⟩
              rcases List.mem_append.mp hv2 with z | z
              · rcases hv v z with e | ⟨cs, ⟨a', e, ha'⟩, sc⟩
                · exact .inl e
                · exact .inr ⟨cs, ⟨a', e, up s4 _ _ (s4 _ _ ha')⟩, sc⟩
              · rw [List.mem_singleton.mp z]
                exact .inr ⟨ns, ⟨p, rfl, up s4 _ _ hp⟩, sn⟩
            · refine ⟨_, s4 _ _ hD, small1000 (by omega), fun b o z => by rw [upd_ne (ne_of_none z nD)]; exact s4 _ _ (s3 _ _ z), svs ++ [.non], upd_same, by rw [List.length_append, ls]; rfl, fun v hv2 => ?_⟩
              rcases List.mem_append.mp hv2 with z | z
              · rcases hv v z with e | ⟨cs, ⟨a', e, ha'⟩, sc⟩
                · exact .inl e
                · exact .inr ⟨cs, ⟨a', e, up s4 _ _ (s4 _ _ ha')⟩, sc⟩
              · exact .inl (List.mem_singleton.mp z)
          · rintro H3 ⟨s3, svs, hD, ls, hv⟩
            exact ⟨D, svs, rfl, s3, hD, ls, hv⟩
        rintro σ' H3 ⟨M, svs, rfl, s3, hM, ls, hv⟩
        -- some without None
        refine Evl.q_cut (M := fun σ' H' => ∃ (M : Addr) (svs : List V), σ' = [some (.ref f), some (.ref b), some (.ref N), some (.ref S), some (.int (0 + (i : Int))), some v1, some (.ref M), y7, y8, none] ∧ Same H2 H' ∧ H3 M = none ∧ H' M = some (.lst svs) ∧ svs.length ≤ kvs.length ∧ GoodL H' svs) ?_ ?_
        · refine ⟨_, rfl, M, rfl, ⟨_, .of hM⟩, fun D nD => ?_⟩
          refine lc_list (xs := svs) (Pv := fun i H' => Same H3 H' ∧ ∃ ovs : List V, H' D = some (.lst ovs) ∧ ovs.length ≤ i ∧ GoodL H' ovs) ⟨same_new nD, [], upd_same, Nat.le_refl _, fun v hv => (nomatch hv)⟩ (fun i H' _ p => .of (p.1 _ _ hM)) ?_ ?_
          · rintro j x H4 hx ⟨s4, ovs, hD, lo, go⟩
            have lj := (List.getElem?_eq_some_iff.mp hx).1
            rcases hv x (List.mem_of_getElem? hx) with rfl | ⟨cs, ⟨a', rfl, ha'⟩, sc⟩
            · exact ⟨rfl, _, rfl, rfl, _, rfl, iteF ⟨s4, ovs, hD, by omega, go⟩⟩
            · refine ⟨rfl, _, rfl, rfl, _, rfl, iteT ⟨_, rfl, _, hD, small1000 (by omega), fun b o z => by rw [upd_ne (ne_of_none z nD)]; exact s4 _ _ z, ovs ++ [.ref a'], upd_same, by rw [List.length_append]; show ovs.length + 1 ≤ _; omega, good_snoc hD go ⟨a', rfl, s4 _ _ ha'⟩ sc⟩⟩
          · rintro H4 ⟨s4, ovs, hD, lo, go⟩
            exact ⟨D, ovs, rfl, s3.trans s4, nD, hD, by omega, go⟩
        clear hv ls hM
        rintro σ' H4 ⟨M', svs', rfl, s4, nM, hM, ls, gs⟩
        have F4 := F2.same s4
        have k4 : Ke (· = f) H H4 := k12.trans (.same s4)
        have hN4 := s4 _ _ hN2
        have hS4 := s4 _ _ hS2
        have gk4 : GoodL H4 kvs := gk2.tups fun b xs h => s4 _ _ h
        have gf4 : GoodL H4 fvs := gf2.tups fun b xs h => s4 _ _ h
        have nMf : M' ≠ f := (F2.same s3).nf nM
        refine Evl.q_cut (M := fun σ' H' => σ' = [some (.ref f), some (.ref b), some (.ref N), some (.ref S), some (.int (0 + (i : Int))), some v1, some (.ref M'), some v1, y8, none] ∧ H' = H4) ?_ ?_
        · exact ⟨_, rfl, rfl, rfl⟩
        rintro σ' H4' ⟨rfl, rfl⟩
        -- claim
        refine Evl.q_cut (M := fun σ' H' => ∃ (v2 : V) (c2 : List Int), σ' = [some (.ref f), some (.ref b), some (.ref N), some (.ref S), some (.int (0 + (i : Int))), some v1, some (.ref M'), some v2, y8, none] ∧ Feed H' f c (B + 1 + 10 * i + 2) ∧ Ke (· = f) H4' H' ∧ TupI H' v2 c2 ∧ Sy c2) ?_ ?_
        · refine ⟨_, rfl, Nat.zero_le _, fun p5 H5 np5 s5 hp5 _ => ?_⟩
          have gs5 : GoodL H5 svs' := gs.tups fun b xs h => s5 _ _ h
          obtain ⟨css, lcs, dp⟩ := good_dp (K := K) (s5 _ _ hM) gs5
          refine ⟨_, _, dp, .lst (.of hp5) .nil, shaped_cls _, shaped_list rfl, _, rfl, ite2 (fun e => ?_) (fun e => ?_)⟩
          · have ne : css ≠ [] := fun z => by
              have e : (!PyData.eqv (.list (css.map cdat)) (.list [])) = true := e
              rw [eqv_nil.mpr z] at e
              cases e
            have l0 : 0 < svs'.length := by
              have := List.length_pos_iff.mpr ne
              omega
            refine ⟨_, rfl, _, rfl, _, rfl, M', _, rfl, .inl (.of (s5 _ _ hM)), f, c, _, _, rfl, by omega, by omega, F4.same s5, by omega, fun g H6 g0 g1 F6 k6 => ?_⟩
            have gl : g.toNat < svs'.length := by omega
            obtain ⟨c2, t2, sc2⟩ := gs5 _ (List.getElem_mem gl)
            exact ⟨M', _, _, svs'[g.toNat], rfl, rfl, .of (k6.lst (s5 _ _ hM) nMf), at_of (j := g.toNat) (by omega) (List.getElem?_eq_getElem gl), _, c2, rfl, F6.mono (by omega), (Ke.same s5).trans k6, t2.ke k6, sc2⟩
          · exact ⟨v1, c1, rfl, (F4.same s5).mono (by omega), .same s5, t1.ke (.same (s4.trans s5) : Ke Nof _ _), sc1⟩
        rintro σ' H5 ⟨v2, c2, rfl, F5, k5, t2, sc2⟩
        -- say
        refine Evl.q_cut (M := fun σ' H' => ∃ (z : Int), σ' = [some (.ref f), some (.ref b), some (.ref N), some (.ref S), some (.int (0 + (i : Int))), some v1, some (.ref M'), some v2, some (.int z), none] ∧ Feed H' f c (B + 1 + 10 * i + 4) ∧ Ke (· = f) H5 H' ∧ -8 ≤ z ∧ z ≤ 8) ?_ ?_
        · refine ⟨_, rfl, by show 2 ≤ sizeLine; decide, fun p6 H6 np6 s6 hp6 _ => ⟨_, rfl, f, c, 2, _, rfl, by decide, by decide, F5.same s6, by omega, fun e H7 e0 e1 F7 k7 => ?_⟩⟩
          have pk : ∃ y : Int, (y = 1 ∨ y = -1) ∧ atI [V.int 1, V.int (-1)] e = some (.int y) := by
            have two : e = 0 ∨ e = 1 := by omega
            rcases two with rfl | rfl
            · exact ⟨1, .inl rfl, rfl⟩
            · exact ⟨-1, .inr rfl, rfl⟩
          obtain ⟨y, hy, ha⟩ := pk
          refine ⟨p6, _, e, .int y, rfl, rfl, .of (k7.lst hp6 (F5.nf np6)), ha, _, rfl, f, c, 8, _, rfl, by decide, by decide, F7, by omega, fun g H8 g0 g1 F8 k8 => ?_⟩
          refine ⟨_, _, rfl, rfl, _, _, rfl, rfl, .inl ⟨by omega, by omega⟩, y * (1 + g), rfl, F8.mono (by omega), ((Ke.same s6).trans k7).trans k8, ?_, ?_⟩
          · rcases hy with rfl | rfl <;> omega
          · rcases hy with rfl | rfl <;> omega
        rintro σ' H6 ⟨z, rfl, F6, k6, z1, z2⟩
        have k46 := k5.trans k6
        -- a say more
        refine Evl.q_cut (M := fun σ' H' => ∃ (v2 : V) (c2 : List Int), σ' = [some (.ref f), some (.ref b), some (.ref N), some (.ref S), some (.int (0 + (i : Int))), some v1, some (.ref M'), some v2, some (.int z), none] ∧ Feed H' f c (B + 1 + 10 * i + 5) ∧ Ke (· = f) H4' H' ∧ TupI H' v2 c2 ∧ Sy c2) ?_ ?_
        · obtain ⟨a2, rfl, ha2⟩ := t2.ke k6
          refine ⟨_, rfl, f, c, 5, _, rfl, by decide, by decide, F6, by omega, fun e H7 e0 e1 F7 k7 => ⟨rfl, _, rfl, ite2 (fun y1 => ?_) (fun y1 => ?_)⟩⟩
          · have ha7 := k7.tups _ _ ha2
            refine ⟨_, rfl, _, rfl, a2, _, rfl, .inr (.of ha7), rfl, ints_flat c2, _, rfl, ite2 (fun y2 => ?_) (fun y2 => ?_)⟩
            · have y2 : (!inV (.int z) (c2.map V.int)) = true := y2
              have nz : z ∉ c2 := fun h => by
                rw [(in_ints _ _).mpr h] at y2
                cases y2
              refine ⟨_, rfl, _, _, rfl, rfl, _, rfl, a2, _, rfl, .inr (.of ha7), rfl, ints_flat c2, _, rfl, ite2 (fun y3 => ?_) (fun y3 => ?_)⟩
              · have l2 := sc2.len
                refine ⟨_, rfl, _, rfl, by show 1 ≤ sizeLine; decide, fun p8 H8 np8 s8 hp8 _ => ?_⟩
                refine ⟨a2, p8, _, _, rfl, rfl, s8 _ _ ha7, hp8, small1000' (by rw [List.length_map]; show c2.length + 1 ≤ _; omega), fun p9 H9 s9 hp9 => ?_⟩
                refine ⟨p9, c2 ++ [z], rfl, .of (by rw [List.map_append]; exact hp9), fun ns pn so p10 H10 np10 s10 hp10 _ => ⟨p10, _, rfl, .of hp10, fun p11 H11 np11 s11 hp11 _ => ?_⟩⟩
                have s811 := ((s8.trans s9).trans s10).trans s11
                exact ⟨.ref p11, ns, rfl, (F7.same s811).mono (by omega), (k46.trans k7).trans (.same s811), ⟨p11, rfl, hp11⟩, sy_perm pn (sy_cat sc2 (sy_one ⟨z1, z2⟩) fun s hs he => nz (List.mem_singleton.mp he ▸ hs))⟩
              · exact ⟨_, c2, rfl, F7.mono (by omega), k46.trans k7, ⟨a2, rfl, ha7⟩, sc2⟩
            · exact ⟨_, c2, rfl, F7.mono (by omega), k46.trans k7, ⟨a2, rfl, ha7⟩, sc2⟩
          · exact ⟨_, c2, rfl, F7.mono (by omega), k46.trans k7, ⟨a2, rfl, k7.tups _ _ ha2⟩, sc2⟩
        clear t2 sc2 k46 k6 F6 k5 F5 H5 H6 v2 c2
        rintro σ' H6 ⟨v2, c2, rfl, F6, k6, t2, sc2⟩
        have hN6 := k6.lst hN4 nNf
        have hS6 := k6.lst hS4 nSf
        have k06 : Ke (· = f) H H6 := k4.trans k6
        -- known.append(claim)
        refine Evl.q_cut (M := fun σ' H' => σ' = [some (.ref f), some (.ref b), some (.ref N), some (.ref S), some (.int (0 + (i : Int))), some v1, some (.ref M'), some v2, some (.int z), none] ∧ Feed H' f c (B + 1 + 10 * i + 5) ∧ Ke (· = f) H H' ∧ H' N = some (.lst (kvs ++ [v2])) ∧ H' S = some (.lst fvs) ∧ GoodL H' (kvs ++ [v2]) ∧ GoodL H' fvs ∧ TupI H' v2 c2) ?_ ?_
        · refine ⟨_, rfl, .inl ⟨rfl, _, .of hN6⟩, _, rfl, N, _, _, rfl, rfl, hN6, small1000 (by omega), rfl, F6.upd nNf nNc, k06.write frN hN6, upd_same, by rw [upd_ne nSN]; exact hS6, good_snoc hN6 (gk4.tups k6.tups) t2 sc2, (gf4.tups k6.tups).tups (upd_tup hN6), ?_⟩
          obtain ⟨a', e, ha'⟩ := t2
          exact ⟨a', e, upd_tup hN6 _ _ ha'⟩
        clear t2 k06 hN6 hS6 k6 F6 H6
        rintro σ' H6 ⟨rfl, F6, k6, hN6, hS6, gk6, gf6, t2⟩
        -- found
        refine ⟨_, rfl, f, c, 4, _, rfl, by decide, by decide, F6, by omega, fun e H7 e0 e1 F7 k7 => ⟨_, _, rfl, rfl, _, rfl, ite2 (fun y1 => ?_) (fun y1 => ?_)⟩⟩
        · have hS7 := k7.lst hS6 nSf
          have hN7 := k7.lst hN6 nNf
          refine ⟨_, rfl, .inl ⟨rfl, _, .of hS7⟩, _, rfl, S, _, _, rfl, rfl, hS7, small1000 (by omega), ?_⟩
          exact ⟨_, _, _, _, _, kvs ++ [v2], fvs ++ [v2], rfl, (F7.upd nSf nSc).mono (by omega), (k6.trans k7).write frS hS7, by rw [upd_ne (Ne.symm nSN)]; exact hN7, upd_same, (gk6.tups k7.tups).tups (upd_tup hS7), good_snoc hS7 (gf6.tups k7.tups) (t2.ke k7) sc2, by simp, by rw [List.length_append]; show kvs.length + 1 ≤ _; omega, by rw [List.length_append]; show fvs.length + 1 ≤ _; omega⟩
        · exact ⟨_, _, _, _, _, kvs ++ [v2], fvs, rfl, F7.mono (by omega), k6.trans k7, k7.lst hN6 nNf, k7.lst hS6 nSf, gk6.tups k7.tups, gf6.tups k7.tups, by simp, by rw [List.length_append]; show kvs.length + 1 ≤ _; omega, by omega⟩
      · rintro σ H3 ⟨y4, y5, y6, y7, y8, kvs, fvs, rfl, F3, k3, hN3, hS3, gk, gf, nk, lk, lf⟩
        have lf : fvs.length ≤ (1 + d).toNat := lf
        exact ⟨y4, y5, y6, y7, y8, kvs, fvs, rfl, F3.mono (by omega), k3, hN3, hS3, gk, gf, nk, by omega⟩
    clear F1 hN hS s1 H1
    rintro σ' H1 ⟨y4, y5, y6, y7, y8, kvs, fvs, rfl, F1, k1, hN, hS, gk, gf, nk, lf⟩
    -- found, or the last one known
    refine ⟨_, rfl, Nat.zero_le _, fun p2 H2 np2 s2 hp2 _ => ?_⟩
    have gf2 : GoodL H2 fvs := gf.tups fun b xs h => s2 _ _ h
    obtain ⟨css, lcs, dp⟩ := good_dp (K := K) (s2 _ _ hS) gf2
    refine ⟨_, _, dp, .lst (.of hp2) .nil, shaped_cls _, shaped_list rfl, _, rfl, ite2 (fun e => ?_) (fun e => ?_)⟩
    · have ne : css ≠ [] := fun z => by
        have e : (!PyData.eqv (.list (css.map cdat)) (.list [])) = true := e
        rw [eqv_nil.mpr z] at e
        cases e
      have := List.length_pos_iff.mpr ne
      exact ⟨_, rfl, q S fvs H2 (F1.same s2) (k1.trans (.same s2)) frS (s2 _ _ hS) gf2 (List.length_pos_iff.mp (by omega)) lf⟩
    · obtain ⟨v, mv, hv⟩ := at_last nk
      refine ⟨_, rfl, _, rfl, N, _, -1, v, rfl, rfl, .of (s2 _ _ hN), hv, by show 1 ≤ sizeLine; decide, fun p3 H3 np3 s3 hp3 _ => ?_⟩
      have s13 := s2.trans s3
      refine q p3 [v] H3 (F1.same s13) (k1.trans (.same s13)) (.ke k1 F1 (.of (s2.free np3))) hp3 (fun u hu => ?_) (by simp) (by simp)
      rw [List.mem_singleton.mp hu]
      exact (gk.tups fun b xs h => s13 _ _ h) v mv
end
end Te
namespace Te
open PySem PySem.Spec PyProof.Rows L2 GxR Nw Dr Kp Se Cl En Fo Fd
section
variable {P : Program} {w : World} {K : PySem.W.Frag} {mg : Str → Option Value} {base : Heap} {fD fU fC : Addr} {fdD fdU fdC : FuncData}
theorem good_nf {H : Hp} {f c t : Addr} {B : Nat} {tvs : List V} (hF : Feed H f c B) (ht : H t = some (.lst tvs)) (g : GoodL H tvs) : t ≠ f := fun e => by
  obtain ⟨ns, n, r, h1, _⟩ := hF
  rw [e, h1] at ht
  have e2 := HO.lst.inj (Option.some.inj ht)
  obtain ⟨cs, ⟨a, z, _⟩, _⟩ := g (.int n) (by rw [← e2]; simp)
  cases z
theorem ne_nil_iff {cs : List Int} : PyData.eqv (.tuple (cs.map PyData.int)) (.tuple []) = true ↔ cs = [] := by
  cases cs with
  | nil => exact ⟨fun _ => rfl, fun _ => rfl⟩
  | cons a r => exact ⟨fun h => absurd h (by simp [PyData.eqv, PyData.eqvAll]), fun h => nomatch h⟩
theorem cut_to1 (xs : List V) (n : Nat) : cutV xs (some ((n : Int) + 1)) none = xs.drop (n + 1) := cut_from xs (n + 1)
/-- turned(pen, telling): another list of claims -/
def spEtu : Sp := fun vs H Q _ => ∃ (f c t : Addr) (B : Nat) (tvs : List V), vs = [.ref f, .ref t] ∧ Feed H f c B ∧ B ≤ 2 ^ 25 ∧ H t = some (.lst tvs) ∧ GoodL H tvs ∧ tvs ≠ [] ∧ tvs.length ≤ 12 ∧
  ∀ (p : Addr) (rvs : List V) (H' : Hp), Feed H' f c (B + 40) → Ke (· = f) H H' → Frs H p → H' p = some (.lst rvs) → GoodL H' rvs → rvs ≠ [] → rvs.length ≤ 12 → Q (.ref p) H'
theorem ok_etu {f : Addr} {fd : FuncData} {k : Nat} (F : Fun K "_law_e_turned" "_law_e_turned" sEtu f fd) (T : Zu mg) (FD : Fun K "_law_e_take" "_law_e_take" sDrw fD fdD) (bD : Binds K fdD ["pen", "many"] []) (gD : mg "_law_e_take" = some (.ref fD)) (GD : FnOk P w K mg base CX0 2 fD fdD ["pen", "many"] spDrw)
    (FC : Fun K "_law_e_claim" "_law_e_claim" sClm fC fdC) (bC : Binds K fdC ["pen", "most", "wide"] []) (gC : mg "_law_e_claim" = some (.ref fC)) (GC : FnOk P w K mg base CX0 3 fC fdC ["pen", "most", "wide"] spClm) :
    FnOk P w K mg base CX0 (k + 4) f fd ["pen", "telling"] spEtu := by
  refine F.ok scEtu (fun vs H Q E h => ?_) (fun cdv A outer s H vs Q E hr h => ?_)
  · obtain ⟨f, c, t, B, tvs, rfl, _⟩ := h
    rfl
  · obtain ⟨f, c, t, B, tvs, rfl, hF, hB, ht, gt, nt, lt, q⟩ := h
    have hr2 : Room 2 _ := hr.mono (by omega)
    have hr3 : Room 3 _ := hr.mono (by omega)
    have ntf := good_nf hF ht gt
    have l0 : 0 < tvs.length := List.length_pos_iff.mpr nt
    refine ⟨_, (Evl.pss_cut (ps_set (i := 2) scEtu.nd rfl (.inl rfl) (pe_call GD hr2 (by rfl) gD FD.kp bD .nil pass0 (pa_cons (pv 0) (pa_cons pe_int pa_nil))))
      (Evl.pss_cut (ps_set (i := 3) scEtu.nd rfl (.inl rfl) (pe_call GD hr2 (by rfl) gD FD.kp bD .nil pass0 (pa_cons (pv 0) (pa_cons (pe_callB call_len_seq (by rfl) T.z_len (by decide +kernel) (pa_cons (pv 1) pa_nil)) pa_nil))))
      (Evl.pss_cut (ps_set (i := 4) scEtu.nd rfl (.inl rfl) (pe_ix ix_list (pv 1) (pv 3) (fun _ _ => rfl)))
      (Evl.pss_cut (ps_if (PW.pt (pw_and (pt_cmpR op_eq (pv 2) pe_int (nomark _)) (pw_and1 (pt_cmpR op_gt (pe_callB call_len_seq (by rfl) T.z_len (by decide +kernel) (pa_cons (pv 1) pa_nil)) pe_int (nomark _))))) (pss_one (ps_ret (pe_op op_catN (pe_slice sl_listN (pv 1) po_none (po_some (pv 3))) (pe_slice sl_listN (pv 1) (po_some (pe_op op_add (pv 3) pe_int)) po_none)))) pss_nil)
      (Evl.pss_cut (ps_if (pt_cmpR op_eq (pv 2) pe_int (nomark _)) (pss_one (ps_ret (pe_revL (pv 1)))) pss_nil)
      (Evl.pss_cut (ps_if (PW.pt (pw_and (pt_cmpR op_eq (pv 2) pe_int (nomark _)) (pw_and1 (pt_cmpR (op_neD hr.units) (pv 4) (pe_tupN pa_nil) (nomark _))))) (Evl.pss_cut (ps_set (i := 5) scEtu.nd rfl (.inl rfl) (pe_call GD hr2 (by rfl) gD FD.kp bD .nil pass0 (pa_cons (pv 0) (pa_cons (pe_callB call_len_seq (by rfl) T.z_len (by decide +kernel) (pa_cons (pv 4) pa_nil)) pa_nil))))
      (Evl.pss_cut (ps_set (i := 6) scEtu.nd rfl (.inl rfl) (pe_op op_catTN (pe_slice sl_tupN (pv 4) po_none (po_some (pv 5))) (pe_slice sl_tupN (pv 4) (po_some (pe_op op_add (pv 5) pe_int)) po_none)))
      (pss_one (ps_ret (pe_op op_catN (pe_op op_catN (pe_slice sl_listN (pv 1) po_none (po_some (pv 3))) (pe_lstN (pa_cons (pv 6) pa_nil))) (pe_slice sl_listN (pv 1) (po_some (pe_op op_add (pv 3) pe_int)) po_none)))))) pss_nil)
      (Evl.pss_cut (ps_if (pt_cmpR op_eq (pv 2) pe_int (nomark _)) (pss_one (ps_ret (pe_op op_catN (pe_op op_catN (pe_slice sl_listN (pv 1) po_none (po_some (pv 3))) (pe_lstN (pa_cons (pe_call GC hr3 (by rfl) gC FC.kp bC .nil pass0 (pa_cons (pv 0) (pa_cons pe_int (pa_cons pe_int pa_nil)))) pa_nil))) (pe_slice sl_listN (pv 1) (po_some (pe_op op_add (pv 3) pe_int)) po_none)))) pss_nil)
      (Evl.pss_cut (ps_if (pt_cmpR op_eq (pv 2) pe_int (nomark _)) (pss_one (ps_ret (pe_slice sl_listN (pe_op op_catN (pe_op op_catN (pe_slice sl_listN (pv 1) po_none (po_some (pv 3))) (pe_lstN (pa_cons (pv 4) pa_nil))) (pe_slice sl_listN (pv 1) (po_some (pv 3)) po_none)) po_none (po_some pe_int)))) pss_nil)
      (pss_one (ps_ret (pe_op op_catN (pe_op op_catN (pe_lstN (pa_cons (pe_ix ix_list (pv 1) (pv 3) (fun _ _ => rfl)) pa_nil)) (pe_slice sl_listN (pv 1) po_none (po_some (pv 3)))) (pe_slice sl_listN (pv 1) (po_some (pe_op op_add (pv 3) pe_int)) po_none)))))))))))), ?_⟩
    -- way
    refine Evl.q_cut (M := fun σ' H' => ∃ wy : Int, σ' = [some (.ref f), some (.ref t), some (.int wy), none, none, none, none] ∧ Feed H' f c (B + 1) ∧ Ke (· = f) H H') ?_ ?_
    · exact ⟨_, rfl, f, c, 6, B, rfl, by decide, by decide, hF, by omega, fun d H1 d0 d1 F1 k1 => ⟨d, rfl, F1, k1⟩⟩
    rintro σ' H1 ⟨wy, rfl, F1, k1⟩
    -- at
    refine Evl.q_cut (M := fun σ' H' => ∃ n : Nat, σ' = [some (.ref f), some (.ref t), some (.int wy), some (.int (n : Nat)), none, none, none] ∧ n < tvs.length ∧ Feed H' f c (B + 2) ∧ Ke (· = f) H H') ?_ ?_
    · refine ⟨_, rfl, _, rfl, t, _, rfl, .inl (.of (k1.lst ht ntf)), f, c, _, B + 1, rfl, by omega, by omega, F1, by omega, fun d H2 d0 d1 F2 k2 => ⟨d.toNat, ?_, by omega, F2, k1.trans k2⟩⟩
      rw [Int.toNat_of_nonneg d0]
      rfl
    clear k1 F1 H1
    rintro σ' H1 ⟨n, rfl, ln, F1, k1⟩
    have ht1 := k1.lst ht ntf
    have gt1 : GoodL H1 tvs := gt.tups k1.tups
    have hx := List.getElem?_eq_getElem ln
    have mx := List.getElem_mem ln
    generalize tvs[n] = x at hx mx
    obtain ⟨cx, ⟨xa, rfl, hxa⟩, scx⟩ := gt1 x mx
    have lcx := scx.len
    refine Evl.q_cut (M := fun σ' H' => σ' = [some (.ref f), some (.ref t), some (.int wy), some (.int (n : Nat)), some (.ref xa), none, none] ∧ H' = H1) ?_ ?_
    · exact ⟨_, rfl, _, rfl, t, _, _, .ref xa, rfl, rfl, .of ht1, at_of (j := n) rfl hx, rfl, rfl⟩
    rintro σ' H1' ⟨rfl, rfl⟩
    have done : ∀ {p : Addr} {rvs : List V} {H2 : Hp}, Same H1' H2 → H1' p = none → H2 p = some (.lst rvs) → (∀ v ∈ rvs, v ∈ tvs) → 0 < rvs.length ∧ rvs.length ≤ 12 → Q (.ref p) H2 := fun {p rvs H2} s2 np hp hm ⟨h0, hl⟩ =>
      q p rvs H2 ((F1.same s2).mono (by omega)) (k1.trans (.same s2)) (.ke k1 F1 (.of np)) hp (fun v hv => (gt1.tups fun b xs h => s2 _ _ h) v (hm v hv)) (List.length_pos_iff.mp h0) hl
    -- way 0
    refine Evl.q_cut (M := fun σ' H' => σ' = [some (.ref f), some (.ref t), some (.int wy), some (.int (n : Nat)), some (.ref xa), none, none] ∧ H' = H1') ?_ ?_
    · refine ⟨_, rfl, rfl, _, rfl, ite2 (fun e => ?_) (fun e => ⟨rfl, rfl⟩)⟩
      refine ⟨_, rfl, t, _, rfl, .inl (.of ht1), _, _, rfl, rfl, _, rfl, ite2 (fun e => ?_) (fun e => ⟨rfl, rfl⟩)⟩
      refine ⟨_, rfl, _, rfl, (n : Nat), rfl, t, _, rfl, .of ht1, fun L H2 nL s2 hL _ => ?_⟩
      refine ⟨_, rfl, _, rfl, _, _, rfl, rfl, (n : Int) + 1, rfl, t, _, rfl, .of (s2 _ _ ht1), fun R H3 nR s3 hR _ => ?_⟩
      rw [cut_to] at hL
      rw [cut_to1] at hR
      refine ⟨L, R, _, _, rfl, rfl, s3 _ _ hL, hR, small1000' (by rw [List.length_take, List.length_drop]; omega), fun p H4 np s4 hp _ => ?_⟩
      refine done (s2.trans (s3.trans s4)) (s2.free (s3.free np)) hp (fun v hv => ?_) (by rw [List.length_append, List.length_take, List.length_drop]; have e : (1 : Int) < (tvs.length : Nat) := of_decide_eq_true e; omega)
      rcases List.mem_append.mp hv with z | z
      · exact List.mem_of_mem_take z
      · exact List.mem_of_mem_drop z
    rintro σ' H1'' ⟨rfl, rfl⟩
    -- way 1
    refine Evl.q_cut (M := fun σ' H' => σ' = [some (.ref f), some (.ref t), some (.int wy), some (.int (n : Nat)), some (.ref xa), none, none] ∧ H' = H1'') ?_ ?_
    · refine ⟨_, rfl, rfl, _, rfl, ite2 (fun e => ?_) (fun e => ⟨rfl, rfl⟩)⟩
      refine ⟨_, rfl, t, tvs, rfl, .of ht1, fun p np => ?_⟩
      exact done (same_new np) np upd_same (fun v hv => List.mem_reverse.mp hv) (by rw [List.length_reverse]; exact ⟨l0, lt⟩)
    rintro σ' H1'' ⟨rfl, rfl⟩
    -- way 2
    refine Evl.q_cut (M := fun σ' H' => σ' = [some (.ref f), some (.ref t), some (.int wy), some (.int (n : Nat)), some (.ref xa), none, none] ∧ Same H1'' H') ?_ ?_
    · refine ⟨_, rfl, rfl, _, rfl, ite2 (fun e => ?_) (fun e => ⟨rfl, .refl _⟩)⟩
      refine ⟨_, rfl, Nat.zero_le _, fun p2 H2 np2 s2 hp2 _ => ?_⟩
      refine ⟨_, _, .tup (.of (s2 _ _ hxa)) (dp_ints cx), .tup (.of hp2) .nil, shaped_tuple (flat_ints _), shaped_tuple rfl, _, rfl, ite2 (fun e => ?_) (fun e => ⟨rfl, s2⟩)⟩
      have ne : cx ≠ [] := fun z => by
        have e : (!PyData.eqv (.tuple (cx.map PyData.int)) (.tuple [])) = true := e
        rw [ne_nil_iff.mpr z] at e
        cases e
      have l1 := List.length_pos_iff.mpr ne
      have F2 := F1.same s2
      -- spot
      refine Evl.q_cut (M := fun σ' H' => ∃ m : Nat, σ' = [some (.ref f), some (.ref t), some (.int wy), some (.int (n : Nat)), some (.ref xa), some (.int (m : Nat)), none] ∧ Feed H' f c (B + 3) ∧ Ke (· = f) H1'' H') ?_ ?_
      · refine ⟨_, rfl, _, rfl, xa, _, rfl, .inr (.of (s2 _ _ hxa)), f, c, _, B + 2, rfl, ?_, ?_, F2, by omega, fun d H3 d0 d1 F3 k3 => ⟨d.toNat, ?_, F3, (Ke.same s2).trans k3⟩⟩
        · rw [List.length_map]
          omega
        · rw [List.length_map]
          omega
        · rw [Int.toNat_of_nonneg d0]
          rfl
      rintro σ' H3 ⟨m, rfl, F3, k3⟩
      have hxa3 := k3.tups _ _ hxa
      have ht3 := k3.lst ht1 ntf
      -- less
      refine Evl.q_cut (M := fun σ' H' => ∃ (la : Addr) (lc : List Int), σ' = [some (.ref f), some (.ref t), some (.int wy), some (.int (n : Nat)), some (.ref xa), some (.int (m : Nat)), some (.ref la)] ∧ Same H3 H' ∧ H' la = some (.tup (lc.map V.int)) ∧ Sy lc) ?_ ?_
      · refine ⟨_, rfl, _, rfl, (m : Nat), rfl, xa, _, rfl, hxa3, fun L H4 s4 hL => ?_⟩
        refine ⟨_, rfl, _, rfl, _, _, rfl, rfl, (m : Int) + 1, rfl, xa, _, rfl, s4 _ _ hxa3, fun R H5 s5 hR => ?_⟩
        rw [cut_to] at hL
        rw [cut_to1] at hR
        refine ⟨L, R, _, _, rfl, rfl, s5 _ _ hL, hR, small1000' (by rw [List.length_take, List.length_drop, List.length_map]; omega), fun p H6 s6 hp => ?_⟩
        refine ⟨p, cx.take m ++ cx.drop (m + 1), rfl, s4.trans (s5.trans s6), by rw [List.map_append, List.map_take, List.map_drop]; exact hp, sy_sub ?_ scx⟩
        have e : (cx.take m ++ cx.drop (m + 1)).Sublist (cx.take m ++ cx.drop m) := by
          refine List.Sublist.append (List.Sublist.refl _) ?_
          rw [← List.drop_drop]
          exact List.drop_sublist _ _
        rw [List.take_append_drop] at e
        exact e
      rintro σ' H4 ⟨la, lc, rfl, s4, hla, slc⟩
      have ht4 := s4 _ _ ht3
      refine ⟨_, rfl, _, rfl, (n : Nat), rfl, t, _, rfl, .of ht4, fun L H5 nL s5 hL _ => ?_⟩
      refine ⟨_, rfl, by show 1 ≤ sizeLine; decide, fun M H6 nM s6 hM _ => ?_⟩
      rw [cut_to] at hL
      refine ⟨L, M, _, _, rfl, rfl, s6 _ _ hL, hM, small1000' (by rw [List.length_take]; show min n tvs.length + 1 ≤ _; omega), fun L2 H7 nL2 s7 hL2 _ => ?_⟩
      have s47 := (s5.trans s6).trans s7
      refine ⟨_, rfl, _, rfl, _, _, rfl, rfl, (n : Int) + 1, rfl, t, _, rfl, .of (s47 _ _ ht4), fun R H8 nR s8 hR _ => ?_⟩
      rw [cut_to1] at hR
      refine ⟨L2, R, _, _, rfl, rfl, s8 _ _ hL2, hR, small1000' (by rw [List.length_append, List.length_take, List.length_drop]; show min n tvs.length + 1 + _ ≤ _; omega), fun p H9 np s9 hp _ => ?_⟩
      have s49 := (s47.trans s8).trans s9
      have k39 : Ke (· = f) H1'' H9 := k3.trans (.same (s4.trans s49))
      refine q p _ H9 ((F3.same (s4.trans s49)).mono (by omega)) (k1.trans k39) (.ke k1 F1 (.ke k3 F3 (.of ((s4.trans (s47.trans s8)).free np)))) hp (fun v hv => ?_) (by simp) (by rw [List.length_append, List.length_append, List.length_take, List.length_drop]; show min n tvs.length + 1 + _ ≤ _; omega)
      rcases List.mem_append.mp hv with z | z
      · rcases List.mem_append.mp z with z | z
        · exact (gt1.tups k39.tups) v (List.mem_of_mem_take z)
        · rw [List.mem_singleton.mp z]
          exact ⟨lc, ⟨la, rfl, s49 _ _ hla⟩, slc⟩
      · exact (gt1.tups k39.tups) v (List.mem_of_mem_drop z)
    rintro σ' H2 ⟨rfl, s2⟩
    have F2 := F1.same s2
    have ht2 := s2 _ _ ht1
    -- way 3
    refine Evl.q_cut (M := fun σ' H' => σ' = [some (.ref f), some (.ref t), some (.int wy), some (.int (n : Nat)), some (.ref xa), none, none] ∧ H' = H2) ?_ ?_
    · refine ⟨_, rfl, rfl, _, rfl, ite2 (fun e => ?_) (fun e => ⟨rfl, rfl⟩)⟩
      refine ⟨_, rfl, _, rfl, (n : Nat), rfl, t, _, rfl, .of ht2, fun L H5 nL s5 hL _ => ?_⟩
      rw [cut_to] at hL
      refine ⟨_, rfl, f, c, 8, 3, B + 2, rfl, by decide, by decide, by decide, by decide, F2.same s5, by omega, fun cs la H6 F6 k6 _ hla ic _ _ => ?_⟩
      refine ⟨by show 1 ≤ sizeLine; decide, fun M H7 nM s7 hM _ => ?_⟩
      have nLf : L ≠ f := F2.nf nL
      refine ⟨L, M, _, _, rfl, rfl, s7 _ _ (k6.lst hL nLf), hM, small1000' (by rw [List.length_take]; show min n tvs.length + 1 ≤ _; omega), fun L2 H8 nL2 s8 hL2 _ => ?_⟩
      have ht6 := k6.lst (s5 _ _ ht2) ntf
      have s68 := s7.trans s8
      refine ⟨_, rfl, _, rfl, _, _, rfl, rfl, (n : Int) + 1, rfl, t, _, rfl, .of (s68 _ _ ht6), fun R H9 nR s9 hR _ => ?_⟩
      rw [cut_to1] at hR
      refine ⟨L2, R, _, _, rfl, rfl, s9 _ _ hL2, hR, small1000' (by rw [List.length_append, List.length_take, List.length_drop]; show min n tvs.length + 1 + _ ≤ _; omega), fun p H10 np s10 hp _ => ?_⟩
      have s610 := (s68.trans s9).trans s10
      have kk : Ke (· = f) H1'' H10 := (Ke.same (s2.trans s5)).trans (k6.trans (.same s610))
      refine q p _ H10 ((F6.same s610).mono (by omega)) (k1.trans kk) (.ke k1 F1 (.ke ((Ke.same (s2.trans s5)).trans k6) F6 (.of ((s68.trans s9).free np)))) hp (fun v hv => ?_) (by simp) (by rw [List.length_append, List.length_append, List.length_take, List.length_drop]; show min n tvs.length + 1 + _ ≤ _; omega)
      rcases List.mem_append.mp hv with z | z
      · rcases List.mem_append.mp z with z | z
        · exact (gt1.tups kk.tups) v (List.mem_of_mem_take z)
        · rw [List.mem_singleton.mp z]
          exact ⟨cs, ⟨la, rfl, s610 _ _ hla⟩, .of ic⟩
      · exact (gt1.tups kk.tups) v (List.mem_of_mem_drop z)
    rintro σ' H2' ⟨rfl, rfl⟩
    -- way 4
    refine Evl.q_cut (M := fun σ' H' => σ' = [some (.ref f), some (.ref t), some (.int wy), some (.int (n : Nat)), some (.ref xa), none, none] ∧ H' = H2') ?_ ?_
    · refine ⟨_, rfl, rfl, _, rfl, ite2 (fun e => ?_) (fun e => ⟨rfl, rfl⟩)⟩
      refine ⟨_, rfl, _, rfl, (n : Nat), rfl, t, _, rfl, .of ht2, fun L H5 nL s5 hL _ => ?_⟩
      rw [cut_to] at hL
      refine ⟨_, rfl, by show 1 ≤ sizeLine; decide, fun M H6 nM s6 hM _ => ?_⟩
      refine ⟨L, M, _, _, rfl, rfl, s6 _ _ hL, hM, small1000' (by rw [List.length_take]; show min n tvs.length + 1 ≤ _; omega), fun L2 H7 nL2 s7 hL2 _ => ?_⟩
      have s27 := (s5.trans s6).trans s7
      refine ⟨_, rfl, _, rfl, (n : Nat), rfl, t, _, rfl, .of (s27 _ _ ht2), fun R H8 nR s8 hR _ => ?_⟩
      rw [cut_from] at hR
      refine ⟨L2, R, _, _, rfl, rfl, s8 _ _ hL2, hR, small1000' (by rw [List.length_append, List.length_take, List.length_drop]; show min n tvs.length + 1 + _ ≤ _; omega), fun L3 H9 nL3 s9 hL3 _ => ?_⟩
      refine ⟨12, rfl, L3, _, rfl, .of hL3, fun p H10 np s10 hp _ => ?_⟩
      rw [show (12 : Int) = ((12 : Nat) : Int) from rfl, cut_to] at hp
      have s210 := ((s27.trans s8).trans s9).trans s10
      refine done (s2.trans s210) ((s2.trans ((s27.trans s8).trans s9)).free np) hp (fun v hv => ?_) (by rw [List.length_take, List.length_append, List.length_append]; show 0 < min 12 (_ + 1 + _) ∧ _; omega)
      rcases List.mem_append.mp (List.mem_of_mem_take hv) with z | z
      · rcases List.mem_append.mp z with z | z
        · exact List.mem_of_mem_take z
        · rw [List.mem_singleton.mp z]
          exact mx
      · exact List.mem_of_mem_drop z
    rintro σ' H2'' ⟨rfl, rfl⟩
    -- the last way
    refine ⟨_, rfl, _, rfl, t, _, _, .ref xa, rfl, rfl, .of ht2, at_of (j := n) rfl hx, by show 1 ≤ sizeLine; decide, fun M H5 nM s5 hM _ => ?_⟩
    refine ⟨_, rfl, _, rfl, (n : Nat), rfl, t, _, rfl, .of (s5 _ _ ht2), fun L H6 nL s6 hL _ => ?_⟩
    rw [cut_to] at hL
    refine ⟨M, L, _, _, rfl, rfl, s6 _ _ hM, hL, small1000' (by rw [List.length_take]; show 1 + min n tvs.length ≤ _; omega), fun L2 H7 nL2 s7 hL2 _ => ?_⟩
    have s27 := (s5.trans s6).trans s7
    refine ⟨_, rfl, _, rfl, _, _, rfl, rfl, (n : Int) + 1, rfl, t, _, rfl, .of (s27 _ _ ht2), fun R H8 nR s8 hR _ => ?_⟩
    rw [cut_to1] at hR
    refine ⟨L2, R, _, _, rfl, rfl, s8 _ _ hL2, hR, small1000' (by rw [List.length_append, List.length_take, List.length_drop]; show 1 + min n tvs.length + _ ≤ _; omega), fun p H9 np s9 hp _ => ?_⟩
    refine done (s2.trans ((s27.trans s8).trans s9)) ((s2.trans (s27.trans s8)).free np) hp (fun v hv => ?_) (by rw [List.length_append, List.length_append, List.length_take, List.length_drop]; show 0 < 1 + min n tvs.length + _ ∧ 1 + min n tvs.length + _ ≤ _; omega)
    rcases List.mem_append.mp hv with z | z
    · rcases List.mem_append.mp z with z | z
      · rw [List.mem_singleton.mp z]
        exact mx
      · exact List.mem_of_mem_take z
    · exact List.mem_of_mem_drop z
end
end Te
namespace Fo
open PySem L2
theorem bl_t {b : Bool} (h : b = true) : V.bl b = V.bl true := by rw [h]
theorem bl_f {b : Bool} (h : b = false) : V.bl b = V.bl false := by rw [h]
end Fo
namespace Rn
open PySem PySem.Spec PyProof.Rows L2
/-- repr of a whole number or None -/
def rRep : List V → Hp → VK → Prop := fun xs H Q => (∃ i : Int, xs = [.int i] ∧ i.natAbs.log2 < 1920 ∧ Q (.str (toString i)) H) ∨ (xs = [.non] ∧ Q (.str "None") H)
theorem cr_repNI {X : Cx} : CallR X (.builtin "repr") rRep := by
  intro pins s σ H xs us Q I r h
  rcases h with ⟨i, rfl, hz, q⟩ | ⟨rfl, q⟩
  · obtain ⟨u, rfl, t, rfl⟩ := vals1 r
    exact PySem.P.repr_of_int hz ⟨.str _, H, I.tok _, ⟨_, rfl⟩, q⟩
  · obtain ⟨u, rfl, ru⟩ := vals1 r
    obtain rfl : u = .none := ru
    exact PySem.P.repr_of_none ⟨.str _, H, I.tok _, ⟨_, rfl⟩, q⟩
set_option exponentiation.threshold 2000 in
theorem small_log {n : Nat} (h : n ≤ 1000) : ((n : Int)).natAbs.log2 < 1920 := by
  have e : ((n : Int)).natAbs = n := Int.natAbs_natCast n
  rw [e]
  by_cases z : n = 0
  · subst z
    decide
  · exact (Nat.log2_lt z).mpr (Nat.lt_of_le_of_lt h (Nat.lt_of_lt_of_le (by decide : 1000 < 2 ^ 10) (Nat.pow_le_pow_right (by decide) (by decide))))
end Rn
namespace Te
open PySem PySem.Spec PyProof.Rows L2 GxR Nw Dr Kp Se Cl En Fo Fd
/-! ### tellings, and what can be left out of them -/
theorem Der.mono {css dss : List (List Int)} {says : List Int} (h : ∀ c ∈ css, c ∈ dss) {x : Int} (d : Der css says x) : Der dss says x := by
  induction d with
  | base hs => exact .base hs
  | step hc hx _ ih => exact .step (h _ hc) hx ih
theorem Fall.mono {css dss : List (List Int)} {says : List Int} (h : ∀ c ∈ css, c ∈ dss) (f : Fall css says) : Fall dss says := by
  obtain ⟨cs, hc, d⟩ := f
  exact ⟨cs, h _ hc, fun y hy => Der.mono h (d y hy)⟩
def Tell (css : List (List Int)) : List (List Int) → List (List Int) → Prop
  | _, [] => True
  | pre, c :: r => Fall (css ++ pre) (neg c) ∧ Tell css (pre ++ [c]) r
theorem Tell.mono {css : List (List Int)} : ∀ {r pre pre' : List (List Int)}, (∀ c ∈ pre, c ∈ pre') → Tell css pre r → Tell css pre' r
  | [], _, _, _, _ => trivial
  | c :: r, pre, pre', h, ⟨a, b⟩ => by
    refine ⟨Fall.mono (fun d hd => ?_) a, Tell.mono (fun d hd => ?_) b⟩
    · rcases List.mem_append.mp hd with z | z
      · exact List.mem_append_left _ z
      · exact List.mem_append_right _ (h d z)
    · rcases List.mem_append.mp hd with z | z
      · exact List.mem_append_left _ (h d z)
      · exact List.mem_append_right _ z
theorem tell_cat {css : List (List Int)} : ∀ {a pre b : List (List Int)}, Tell css pre (a ++ b) ↔ Tell css pre a ∧ Tell css (pre ++ a) b
  | [], pre, b => by
    rw [List.append_nil]
    exact ⟨fun h => ⟨trivial, h⟩, fun h => h.2⟩
  | c :: r, pre, b => by
    have ih := tell_cat (css := css) (a := r) (pre := pre ++ [c]) (b := b)
    rw [List.append_assoc] at ih
    constructor
    · rintro ⟨h1, h2⟩
      obtain ⟨h3, h4⟩ := ih.mp h2
      exact ⟨⟨h1, h3⟩, h4⟩
    · rintro ⟨⟨h1, h3⟩, h4⟩
      exact ⟨h1, ih.mpr ⟨h3, h4⟩⟩
theorem tell_iff {css : List (List Int)} : ∀ {tss pre : List (List Int)}, Tell css pre tss ↔ ∀ i cs, tss[i]? = some cs → Fall (css ++ (pre ++ tss.take i)) (neg cs)
  | [], pre => ⟨fun _ i cs h => by simp at h, fun _ => trivial⟩
  | c :: r, pre => by
    have ih := tell_iff (css := css) (tss := r) (pre := pre ++ [c])
    constructor
    · rintro ⟨h1, h2⟩ i cs h
      cases i with
      | zero =>
        cases h
        simpa using h1
      | succ i =>
        have := ih.mp h2 i cs h
        rw [List.append_assoc] at this
        exact this
    · intro h
      refine ⟨by simpa using h 0 c rfl, ih.mpr fun i cs hi => ?_⟩
      have := h (i + 1) cs hi
      rw [List.append_assoc]
      exact this
theorem nowr_iff {css tss : List (List Int)} : NoWr css tss ↔ Tell css [] tss := by
  rw [tell_iff]
  constructor
  · intro h i cs hi
    rw [List.nil_append]
    exact h i (List.getElem?_eq_some_iff.mp hi).1 cs hi
  · intro h i _ cs hi
    have := h i cs hi
    rw [List.nil_append] at this
    exact this
theorem wr_not {css tss : List (List Int)} {n : Nat} (h : Wr css tss n) : ¬ NoWr css tss := fun z => h.no z
/-- none of K but the last one can be left out behind A -/
def Fast (css A K : List (List Int)) : Prop := ∀ K1 x K2, K = K1 ++ x :: K2 → K2 ≠ [] → ¬ Tell css [] (A ++ (K1 ++ K2))
theorem Fast.one {css A : List (List Int)} {x : List Int} : Fast css A [x] := fun K1 y K2 e n => by
  cases K1 with
  | nil => cases e; exact absurd rfl n
  | cons a r =>
    have := congrArg List.length e
    simp at this
theorem Fast.out {css A K : List (List Int)} {a : List Int} (h : Fast css (A ++ [a]) K) (ta : Tell css [] (A ++ [a])) : Fast css A K := fun K1 x K2 e n t => h K1 x K2 e n (by
  refine tell_cat.mpr ⟨ta, ?_⟩
  have := (tell_cat.mp t).2
  refine Tell.mono (fun d hd => ?_) this
  rw [List.nil_append] at hd ⊢
  exact List.mem_append_left _ hd)
theorem Fast.kept {css A K : List (List Int)} {a : List Int} (h : Fast css (A ++ [a]) K) (no : ¬ Tell css [] (A ++ K)) : Fast css A (a :: K) := fun K1 x K2 e n t => by
  cases K1 with
  | nil =>
    cases e
    exact no t
  | cons b r =>
    obtain ⟨rfl, e2⟩ := List.cons.inj e
    refine h r x K2 e2 n ?_
    rw [List.append_assoc]
    exact t
theorem take_snoc {α : Type} {l : List α} {i : Nat} {x : α} (h : l[i]? = some x) : l.take (i + 1) = l.take i ++ [x] := by
  rw [List.take_add_one, h]
  rfl
/-- K is a part of the behind of T, in order, with its last one -/
structure Part (T : List (List Int)) (m : Nat) (K : List (List Int)) : Prop where
  sub : K.Sublist (T.drop m)
  last : ∃ x, K.getLast? = some x ∧ T.getLast? = some x
theorem pw_out {H : Hp} {lvs : List V} {lss : List (List Int)} {n : Nat} (l : lvs.length = lss.length) (h : ∀ (i : Nat) (x : V) (cs : List Int), lvs[i]? = some x → lss[i]? = some cs → TupI H x cs) :
    (lvs.take n ++ lvs.drop (n + 1)).length = (lss.take n ++ lss.drop (n + 1)).length ∧ ∀ (i : Nat) (x : V) (cs : List Int), (lvs.take n ++ lvs.drop (n + 1))[i]? = some x → (lss.take n ++ lss.drop (n + 1))[i]? = some cs → TupI H x cs := by
  refine ⟨by rw [List.length_append, List.length_append, List.length_take, List.length_take, List.length_drop, List.length_drop, l], fun i x cs e1 e2 => ?_⟩
  by_cases hi : i < (lvs.take n).length
  · rw [List.getElem?_append_left hi] at e1
    rw [List.getElem?_append_left (by rw [List.length_take] at hi ⊢; omega)] at e2
    exact h i x cs (take_at e1) (take_at e2)
  · rw [List.getElem?_append_right (by omega), List.getElem?_drop] at e1
    rw [List.getElem?_append_right (by rw [List.length_take] at hi ⊢; omega), List.getElem?_drop] at e2
    have e : (lss.take n).length = (lvs.take n).length := by rw [List.length_take, List.length_take, l]
    rw [e] at e2
    exact h _ x cs e1 e2
end Te
namespace Gx2
open PySem PySem.Spec PyProof.Rows L2
/-! ### promises for calls made while nothing is being shown, with refusals: for defs that show lists or tuples and are called by others -/
structure FnX (P : Program) (w : World) (K : PySem.W.Frag) (mg : Str → Option Value) (base : Heap) (CX : CXT) (k : Nat) (f : Addr) (fd : FuncData) (ps : List Str) (sp : Sp) : Prop where
  len : ∀ us H Q E, sp us H Q E → us.length = ps.length
  run : ∀ (A : Around) (outer : List Env) (s : Shared) (H : Hp) (args : Args) (us : List Value) (vs : List V) (Q : VK) (E : XK), A.guards = some [] → Room k A → Env0 P w K mg base A outer s H → BindsTo s fd args (ps.zip us) → Vals vs us → sp vs H Q E → codeAny (model P w) A (.call (.ref f) args) (CR CX outer P w H s Q E) s
section
variable {P : Program} {w : World} {K : PySem.W.Frag} {mg : Str → Option Value} {base : Heap} {CX : CXT}
theorem of_ok {k : Nat} {f : Addr} {fd : FuncData} {ps : List Str} {sp : Sp} (F : FnOk P w K mg base CX k f fd ps sp) : FnX P w K mg base CX k f fd ps sp := ⟨F.len, fun A outer s H args us vs Q E _ => F.run A outer s H args us vs Q E⟩
theorem okX {x qual : Str} {st : Stmt} {f : Addr} {fd : FuncData} {N ps : List Str} {k : Nat} {sp : Sp} (F : Fun K x qual st f fd) (S : FnScope N ps (defScope st)) (ln : ∀ us H Q E, sp us H Q E → us.length = ps.length)
    (body : ∀ (cdv : Value) (A : Around) (outer : List Env) (s : Shared) (H : Hp) (vs : List V) (Q : VK) (E : XK), A.guards = some [] → Room k (A.deeper (envOfC qual (defScope st) s.heap.objs.size f cdv)) → sp vs H Q E →
      ∃ t, PSs (cxOf CX P w K mg base N qual (defScope st) f cdv A outer s H E) (defBody st) t ∧ t { nx := fun _ H' => Q .non H', rt := Q } (start N vs) H) : FnX P w K mg base CX (k + 1) f fd ps sp := by
  obtain ⟨oc, od, kV, doc, pm, an, cdv, ct, osl, rfl, lk, hcd⟩ := F.ex
  refine ⟨ln, fun A outer s H args us vs Q E gd room env bind rel ask => ?_⟩
  have inS : K.In s.heap := env.mod.kin.keeps fun b o e => (env.bs b o e).1
  have noL : s.heap.NoLimit := env.mod.nolimit.keeps fun b o e => (env.bs b o e).1
  refine codeAny_call_function room.depth (inS _ _ lk) rfl S.co S.gen rfl (PySem.W.codeRec_of inS hcd) (bind _ _ _ _ (wpAny_newFunctionEnv_cells S.kind (fun y hy => ?_) fun env' he s1 z => ?_))
  · rcases S.par y.1 (List.of_mem_zip (a := y.1) (b := y.2) hy).1 with q | q
    · exact Or.inl q
    · exact Or.inr ⟨q, PySem.W.cellsFrom_some _ _ _ (Or.inl q)⟩
  · subst he
    obtain ⟨t, h1, h2⟩ := body cdv A outer s H vs Q E gd (room.deeper _) ask
    have J := inv_start (CX := CX) (E := E) S room.hd env (ln _ _ _ _ ask) rel z
    refine ⟨noL.keeps z.toInCall.keep, codeAny_func (wpAny_mono (h1.run [] s1 _ H _ J h2) (fun fl s' r => ?_) fun _ _ r => r)⟩
    match fl, r with
    | .ret u, r =>
      obtain ⟨v, σ', H', I, rv, q⟩ := r
      exact ⟨v, H', I.os, I.bare, I.base, I.hok, rv, q⟩
    | .next, r =>
      obtain ⟨σ', H', I, q⟩ := r
      exact ⟨.non, H', I.os, I.bare, I.base, I.hok, rfl, q⟩
    | .brk, r =>
      obtain ⟨_, _, _, q⟩ := r
      exact q.elim
    | .cont, r =>
      obtain ⟨_, _, _, q⟩ := r
      exact q.elim
end
section
variable {X : Cx} {CX : CXT} {k : Nat} {f : Addr} {fd : FuncData} {ps : List Str} {sp : Sp} {dvs : List V} {ds : List Value} {E : XK}
theorem runX {pins : List (Addr × Obj)} {σ : L2.St} {H : Hp} {s : Shared} {Q : VK} {us : List Value} {vs : List V} (F : FnX X.prog X.w X.K X.mg X.base CX k f fd ps sp) (gd : X.A.guards = some []) (room : Room k X.A) (bind : Binds X.K fd ps ds) (dv : Vals dvs ds) (pass : Passes CX X E)
    (I : Inv X pins σ H s) (rel : Vals vs us) (ask : sp (vs ++ dvs) H Q E) : wpAny (model X.prog X.w) X.A (call (.ref f) us) (EP X pins σ Q) X.xe s := by
  have r2 : Vals (vs ++ dvs) (us ++ ds) := rel.append dv
  have ll : (us ++ ds).length = ps.length := r2.length.symm.trans (F.len _ _ _ _ ask)
  refine wpAny_call (codeAny_mono (F.run X.A X.stack s H ⟨us, []⟩ _ _ Q E gd room I.env0 (bind s us I.kIn ll) r2 ask) fun r s' z => ?_)
  match r, z with
  | .error e, z => exact pass pins σ H s e s' I z
  | .ok (.ret u), z => exact I.after z
  | .ok .next, z => exact z.elim
  | .ok .brk, z => exact z.elim
  | .ok .cont, z => exact z.elim
/-- f(..) where nothing is being shown -/
theorem pe_callX {x : Str} {p pos : Pos} {e : Expr} {es : List Expr} {t : TA} (F : FnX X.prog X.w X.K X.mg X.base CX k f fd ps sp) (gd : X.A.guards = some []) (room : Room k X.A) (gl : Gl X x) (at_ : X.mg x = some (.ref f)) (kp : PySem.W.keepIn X.K (.ref f) = true) (bind : Binds X.K fd ps ds) (dv : Vals dvs ds) (pass : Passes CX X E)
    (ha : PA X (e :: es) t) (hdb : (x == ("__debug__" : Str)) = false := by decide) (he : starEach (e :: es) X.env = (false, eval e X.env) :: starEach es X.env := by rfl) (hpl : (backTo pos (starEach es X.env)).any (·.1) = false := by rfl) :
    PE X (.Call (.Name x p) (e :: es) [] pos) (tCall sp dvs E t) :=
  ⟨fun pins s σ H Q I h => wpAny_Call_Name_kw (ld_glob I gl at_ (PySem.W.callWith_K (h₀ := X.base) I.ok.mod.kin kp (thn (ha.run pos pins s σ H _ I h) fun us s1 ⟨vs, H1, I1, r, q⟩ => ⟨I1.kIn, runX F gd room bind dv pass I1 r q⟩) he hpl) hdb)⟩
end
end Gx2
namespace Cf
open PySem PySem.Spec PyProof.Rows L2
/-! ### classes of the program: isinstance, except -/
theorem cls_s {K : PySem.W.Frag} {C : Addr} (h : PySem.W.isClsIn K C = true) : (PySem.W.clsIn K C).isSome = true := h
theorem kit_cls {K : PySem.W.Frag} {t : Value} {D : Addr} {b : Bool} (h1 : (PySem.W.clsIn K D).isSome = true) (h2 : PySem.W.typeIn K (.ref D) = some (.type "type")) (h : PySem.W.subIn K t (.ref D) = some b) : PySem.W.kitCls K t (.ref D) = some b := by
  have e : ((PySem.W.clsIn K D).isSome && PySem.W.typeIn K (.ref D) == some (.type "type")) = true := by
    rw [h1, h2]
    rfl
  show (if ((PySem.W.clsIn K D).isSome && PySem.W.typeIn K (.ref D) == some (.type "type")) = true then PySem.W.subIn K t (.ref D) else none) = some b
  rw [if_pos e, h]
theorem kit_t {K : PySem.W.Frag} {t : Value} {D : Addr} (h1 : (PySem.W.clsIn K D).isSome = true) (h2 : PySem.W.typeIn K (.ref D) = some (.type "type")) (h : PySem.W.subIn K t (.ref D) = some true) : PySem.W.kitOne K t (.ref D) = some true := by
  unfold PySem.W.kitOne
  split
  · rfl
  · exact kit_cls h1 h2 h
theorem kit_f {K : PySem.W.Frag} {C D : Addr} (h1 : (PySem.W.clsIn K D).isSome = true) (h2 : PySem.W.typeIn K (.ref D) = some (.type "type")) (h : PySem.W.subIn K (.ref C) (.ref D) = some false) (hs : PySem.W.subIn K (.ref C) (.ref C) = some true) : PySem.W.kitOne K (.ref C) (.ref D) = some false := by
  unfold PySem.W.kitOne
  split
  · rename_i e
    have z : C = D := Value.ref.inj (beq_iff_eq.mp e)
    subst z
    rw [h] at hs
    cases hs
  · exact kit_cls h1 h2 h
theorem kit_v {K : PySem.W.Frag} {C : Addr} (h : PySem.W.subIn K (.ref C) (.type "ValueError") = some true) : PySem.W.kitOne K (.ref C) (.type "ValueError") = some true := by
  unfold PySem.W.kitOne
  split
  · rfl
  · show (if PySem.W.kitMeta "ValueError" = true then PySem.W.subIn K (.ref C) (.type "ValueError") else none) = some true
    rw [if_pos (by decide +kernel), h]
theorem exm_t {K : PySem.W.Frag} {t : Value} {D : Addr} (hb : PySem.W.subIn K (.ref D) (.type "BaseException") = some true) (h1 : (PySem.W.clsIn K D).isSome = true) (h2 : PySem.W.typeIn K (.ref D) = some (.type "type")) (h : PySem.W.subIn K t (.ref D) = some true) : PySem.W.exmOne K t (.ref D) = some true := by
  unfold PySem.W.exmOne
  rw [hb, if_pos (by decide)]
  exact kit_cls h1 h2 h
end Cf
namespace Te
open PySem PySem.Spec PyProof.Rows L2 GxR Nw Dr Kp Se Cl En Fo Fd
abbrev veB : List Value := [.type "ValueError", .type "Exception", .type "BaseException", .type "object"]
abbrev sChk : Stmt := topS 14
theorem scChk : FnScope ["book", "telling"] ["book", "telling"] (defScope sChk) := ⟨rfl, rfl, rfl, by decide +kernel, rfl, by decide +kernel, by decide +kernel⟩
abbrev sSpa : Stmt := topS 15
theorem scSpa : FnScope ["book", "telling", "left", "number", "shorter"] ["book", "telling"] (defScope sSpa) := ⟨rfl, rfl, rfl, by decide +kernel, rfl, by decide +kernel, by decide +kernel⟩
/-- what is known of the class NoTelling -/
structure CT (K : PySem.W.Frag) (mg : Str → Option Value) (C : Addr) : Prop where
  xP : PySem.W.excIn K C veB "ValueError.__new__" = true
  gP : mg "NoTelling" = some (.ref C)
  kP : PySem.W.keepIn K (.ref C) = true
  bP : PySem.W.subIn K (.ref C) (.type "BaseException") = some true
  tP : PySem.W.typeIn K (.ref C) = some (.type "type")
structure Zv (mg : Str → Option Value) : Prop where
  z_len : mg "len" = none
  z_list : mg "list" = none
  z_range : mg "range" = none
  z_reversed : mg "reversed" = none
section
variable {P : Program} {w : World} {K : PySem.W.Frag} {mg : Str → Option Value} {base : Heap}
/-- check_telling(book, telling) -/
def spChk (C Po : Addr) : Sp := fun vs H Q E => ∃ (v : V) (t : Addr) (tvs : List V) (css tss : List (List Int)), vs = [v, .ref t] ∧ Bk H v css ∧ Lc H t tvs tss ∧ (∀ cs ∈ css, Sy cs) ∧ (∀ cs ∈ tss, Sy cs) ∧ css.length ≤ 40 ∧ tss ≠ [] ∧ tss.length ≤ 12 ∧ TabG H Po ∧
  (∀ H', Ke Nof H H' → NoWr css tss → Q .non H') ∧ ∀ H', Ke Nof H H' → ¬ NoWr css tss → E (.ref C) none H'
theorem ok_chk {f fW C Po : Addr} {fd fdW : FuncData} {tk : Tok} (F : Fun K "check_telling" "check_telling" sChk f fd) (T : Zv mg) (C' : CT K mg C) (M12 : mg "MOST_TOLD" = some (.int 12 tk))
    (FW : Fun K "wrong_at" "wrong_at" sWrg fW fdW) (bW : Binds K fdW ["book", "telling"] []) (gW : mg "wrong_at" = some (.ref fW)) (GW : FnOk P w K mg base CX0 7 fW fdW ["book", "telling"] (spWrg Po)) :
    FnOk P w K mg base (L2.CX P w) 8 f fd ["book", "telling"] (spChk C Po) := by
  refine F.okX scChk (fun vs H Q E h => ?_) (fun cdv A outer s H vs Q E hr h => ?_)
  · obtain ⟨v, t, tvs, css, tss, rfl, _⟩ := h
    rfl
  · obtain ⟨v, t, tvs, css, tss, rfl, hb, hl, sb, st, l1, n2, l2, tg, q1, q2⟩ := h
    have hr7 : Room 7 _ := hr
    have l0 := List.length_pos_iff.mpr n2
    have lt := hl.2.1
    refine ⟨_, (pss_one (ps_if (PW.pt (pw_or (pt_not (pt_chain op_le op_le pe_int (pe_callB call_len_seq (by rfl) T.z_len (by decide +kernel) (pa_cons (pv 1) pa_nil)) (pe_glob (v := .int 12) rfl M12 ⟨_, rfl⟩))) (pw_or1 (pt_cmpR op_notN (pe_call GW hr7 (by rfl) gW FW.kp bW .nil pass0 (pa_cons (pv 0) (pa_cons (pv 1) pa_nil))) pe_non (nomark _))))) (pss_one (ps_raise rfl (takes_of rfl rfl rfl rfl) (pmk_own PySem.F.excBase_ValueError C'.xP C'.gP C'.kP (raises_own C'.bP C'.tP) rfl))) pss_nil)), ?_⟩
    refine ⟨_, rfl, t, _, rfl, .inl (.of hl.1), _, _, rfl, rfl, true, bl_t (decide_eq_true (by omega)), ?_⟩
    refine ⟨_, _, rfl, rfl, true, bl_t (decide_eq_true (by omega)), ?_⟩
    refine ⟨_, rfl, _, rfl, v, t, tvs, css, tss, rfl, hb, hl, sb, st, l1, by omega, tg, fun H1 n k1 wn _ => ?_, fun H1 k1 nw => ?_⟩
    · exact ⟨rfl, true, rfl, q2 H1 k1 (wr_not wn)⟩
    · exact ⟨rfl, false, rfl, q1 H1 k1 nw⟩
/-- spared(book, telling) -/
def spSpa (C Po : Addr) : Sp := fun vs H Q E => ∃ (v : V) (t : Addr) (tvs : List V) (css tss : List (List Int)), vs = [v, .ref t] ∧ Bk H v css ∧ Lc H t tvs tss ∧ (∀ cs ∈ css, Sy cs) ∧ (∀ cs ∈ tss, Sy cs) ∧ css.length ≤ 40 ∧ tss ≠ [] ∧ tss.length ≤ 12 ∧ TabG H Po ∧
  (∀ H' p rvs rss, Ke Nof H H' → Frs H p → Lc H' p rvs rss → Part tss 0 rss → NoWr css tss → NoWr css rss → Fast css [] rss → Q (.ref p) H') ∧ ∀ H', Ke Nof H H' → ¬ NoWr css tss → E (.ref C) none H'
theorem Lc.ke {H H' : Hp} {t : Addr} {tvs : List V} {tss : List (List Int)} (h : Lc H t tvs tss) (k : Ke Nof H H') : Lc H' t tvs tss := ⟨k.lst h.1 fun z => z, h.2.1, fun i x cs e1 e2 => (h.2.2 i x cs e1 e2).ke k⟩
theorem Part.ne {T : List (List Int)} {m : Nat} {K : List (List Int)} (h : Part T m K) : K ≠ [] := fun z => by
  obtain ⟨x, h1, _⟩ := h.last
  rw [z] at h1
  cases h1
theorem ok_spa {f fW fK C Po : Addr} {fd fdW fdK : FuncData} (F : Fun K "spared" "spared" sSpa f fd) (T : Zv mg)
    (FW : Fun K "wrong_at" "wrong_at" sWrg fW fdW) (bW : Binds K fdW ["book", "telling"] []) (gW : mg "wrong_at" = some (.ref fW)) (GW : FnOk P w K mg base CX0 7 fW fdW ["book", "telling"] (spWrg Po))
    (FK : Fun K "check_telling" "check_telling" sChk fK fdK) (bK : Binds K fdK ["book", "telling"] []) (gK : mg "check_telling" = some (.ref fK)) (GK : FnOk P w K mg base (L2.CX P w) 8 fK fdK ["book", "telling"] (spChk C Po)) :
    FnOk P w K mg base (L2.CX P w) 9 f fd ["book", "telling"] (spSpa C Po) := by
  refine F.okX scSpa (fun vs H Q E h => ?_) (fun cdv A outer s H vs Q E hr h => ?_)
  · obtain ⟨v, t, tvs, css, tss, rfl, _⟩ := h
    rfl
  · obtain ⟨v, t, tvs, css, tss, rfl, hb, hl, sb, st, l1, n2, l2, tg, q1, q2⟩ := h
    have hr8 : Room 8 _ := hr
    have hr7 : Room 7 _ := hr.mono (by decide)
    have l0 := List.length_pos_iff.mpr n2
    have lt := hl.2.1
    refine ⟨_, (pss_cons (ps_expr (pe_call GK hr8 (by rfl) gK FK.kp bK .nil (passes_call (takes_of rfl rfl rfl rfl) (fun _ _ _ _ h => h)) (pa_cons (pv 0) (pa_cons (pv 1) pa_nil)))) (PSs.nox (Evl.pss_cut (ps_set (i := 2) scSpa.nd rfl (.inl rfl) (pe_callTy call_list_ofN (by rfl) T.z_list (by decide +kernel) (pa_cons (pv 1) pa_nil)))
      (Evl.pss_cut (ps_for PassesOwn.never rfl (pi_revR (by rfl) T.z_reversed (prg_1 (by rfl) T.z_range (pe_op op_sub (pe_callB call_len_seq (by rfl) T.z_len (by decide +kernel) (pa_cons (pv 1) pa_nil)) pe_int))) (pg_name (i := 3) scSpa.nd rfl (.inl rfl)) (Evl.pss_cut (ps_set (i := 4) scSpa.nd rfl (.inl rfl) (pe_op op_catN (pe_slice sl_listN (pv 2) po_none (po_some (pv 3))) (pe_slice sl_listN (pv 2) (po_some (pe_op op_add (pv 3) pe_int)) po_none)))
      (pss_one (ps_if (pt_cmpR op_isN (pe_call GW hr7 (by rfl) gW FW.kp bW .nil pass0 (pa_cons (pv 0) (pa_cons (pv 4) pa_nil))) pe_non (nomark _)) (pss_one (ps_set (i := 2) scSpa.nd rfl (.inl rfl) (pv 4))) pss_nil))))
      (pss_one (ps_ret (pv 2))))))), ?_⟩
    refine ⟨_, rfl, _, rfl, v, t, tvs, css, tss, rfl, hb, hl, sb, st, l1, n2, l2, tg, fun H1 k1 nw => ?_, fun H1 k1 nn => q2 H1 k1 nn⟩
    have ht1 := (hl.ke k1).1
    have tw := nowr_iff.mp nw
    obtain ⟨m, hm⟩ : ∃ m, tss.length = m + 1 := ⟨tss.length - 1, by omega⟩
    have hx := List.getElem?_eq_getElem (show m < tss.length by omega)
    have dm := List.drop_eq_getElem_cons (show m < tss.length by omega)
    rw [List.drop_eq_nil_of_le (show tss.length ≤ m + 1 by omega)] at dm
    generalize tss[m]'(by omega) = z at hx dm
    have gl : tss.getLast? = some z := by
      rw [List.getLast?_eq_getElem?, show tss.length - 1 = m by omega]
      exact hx
    have tm : tss = tss.take m ++ [z] := by
      rw [← take_snoc hx, ← hm, List.take_length]
    -- left
    refine Evl.q_cut (M := fun σ' H' => ∃ L, σ' = [some v, some (.ref t), some (.ref L), none, none] ∧ H1 L = none ∧ Same H1 H' ∧ H' L = some (.lst tvs)) ?_ ?_
    · exact ⟨_, rfl, t, _, rfl, .inl (.of ht1), fun L H2 nL s2 hL _ => ⟨L, rfl, nL, s2, hL⟩⟩
    rintro σ' H2 ⟨L, rfl, nL, s2, hL⟩
    have k2 : Ke Nof H H2 := k1.trans (.same s2)
    have l2' := hl.ke k2
    -- the loop
    refine Evl.q_cut (M := fun σ' H' => ∃ (y3 y4 : Option V) (L : Addr) (lvs : List V) (Kk : List (List Int)), σ' = [some v, some (.ref t), some (.ref L), y3, y4] ∧ Ke Nof H H' ∧ Frs H L ∧ Lc H' L lvs Kk ∧ Part tss 0 Kk ∧ Tell css [] Kk ∧ Fast css [] Kk) ?_ ?_
    · refine ⟨_, rfl, t, _, rfl, .inl (.of l2'.1), _, _, rfl, rfl, _, rfl, by omega, by omega, by omega, by omega, ?_⟩
      have en : ((((tvs.length : Nat) : Int) - 1) - 0).toNat = m := by omega
      rw [en]
      refine for_rangeC (n := m) (Pv := fun i σ H' => ∃ (y3 y4 : Option V) (L : Addr) (lvs : List V) (Kk : List (List Int)), σ = [some v, some (.ref t), some (.ref L), y3, y4] ∧ Ke Nof H H' ∧ Frs H L ∧ Lc H' L lvs (tss.take (m - i) ++ Kk) ∧ Part tss (m - i) Kk ∧ Tell css [] (tss.take (m - i) ++ Kk) ∧ Fast css (tss.take (m - i)) Kk) ?_ ?_ ?_
      · refine ⟨none, none, L, tvs, [z], rfl, k2, .ke0 k1 (.of nL), ?_, ?_, ?_, .one⟩
        · rw [Nat.sub_zero, ← tm]
          exact ⟨hL, lt, l2'.2.2⟩
        · refine ⟨?_, _, rfl, gl⟩
          rw [Nat.sub_zero, dm]
          exact .refl _
        · rw [Nat.sub_zero, ← tm]
          exact tw
      · clear l2' k2 hL s2 nL L H2
        rintro i σ H2 hi ⟨y3, y4, L, lvs, Kk, rfl, k2, frL, lc, pt, tl, fa⟩
        obtain ⟨n, hn⟩ : ∃ n, m = i + n + 1 := ⟨m - i - 1, by omega⟩
        have e1 : m - i = n + 1 := by omega
        have e2 : m - (i + 1) = n := by omega
        have ei : (0 : Int) + ((m : Nat) : Int) - 1 + (i : Nat) * (-1) = (n : Nat) := by omega
        rw [e1] at lc pt tl fa
        rw [ei, e2]
        have ln : n < tss.length := by omega
        have hxn := List.getElem?_eq_getElem ln
        generalize hga : tss[n] = a at hxn
        have ts := take_snoc hxn
        rw [ts] at lc tl fa
        have la : (tss.take n).length = n := by rw [List.length_take]; omega
        -- shorter
        have cut : (tss.take n ++ [a] ++ Kk).take n ++ (tss.take n ++ [a] ++ Kk).drop (n + 1) = tss.take n ++ Kk := by
          have c1 : (tss.take n ++ ([a] ++ Kk)).take n = tss.take n := by
            rw [List.take_append_of_le_length (by omega), List.take_of_length_le (by omega)]
          have c2 : ((tss.take n ++ [a]) ++ Kk).drop (n + 1) = Kk := by
            rw [List.drop_append_of_le_length (by rw [List.length_append, la]; exact Nat.le_refl _), List.drop_eq_nil_of_le (by rw [List.length_append, la]; exact Nat.le_refl _), List.nil_append]
          rw [c2, List.append_assoc, c1]
        have lk : Kk.length ≤ tss.length := Nat.le_trans pt.sub.length_le (by rw [List.length_drop]; omega)
        have ll := lc.2.1
        rw [List.length_append, List.length_append, la] at ll
        have ll : lvs.length = n + 1 + Kk.length := ll
        refine Evl.q_cut (M := fun σ' H' => ∃ (R : Addr) (rvs : List V), σ' = [some v, some (.ref t), some (.ref L), some (.int (n : Nat)), some (.ref R)] ∧ Same H2 H' ∧ H2 R = none ∧ Lc H' R rvs (tss.take n ++ Kk)) ?_ ?_
        · refine ⟨_, rfl, _, rfl, (n : Nat), rfl, L, _, rfl, .of lc.1, fun L1 H3 nL1 s3 hL1 _ => ?_⟩
          refine ⟨_, rfl, _, rfl, _, _, rfl, rfl, (n : Int) + 1, rfl, L, _, rfl, .of (s3 _ _ lc.1), fun R1 H4 nR1 s4 hR1 _ => ?_⟩
          rw [cut_to] at hL1
          rw [cut_to1] at hR1
          refine ⟨L1, R1, _, _, rfl, rfl, s4 _ _ hL1, hR1, small1000' (by rw [List.length_take, List.length_drop]; omega), fun R H5 nR s5 hR _ => ?_⟩
          obtain ⟨p1, p2⟩ := pw_out (n := n) lc.2.1 lc.2.2
          rw [cut] at p1 p2
          have s25 := (s3.trans s4).trans s5
          exact ⟨R, _, rfl, s25, (s3.trans s4).free nR, hR, p1, fun i x cs z1 z2 => (p2 i x cs z1 z2).ke (.same s25 : Ke Nof _ _)⟩
        rintro σ' H3 ⟨R, rvs, rfl, s3, nR, lR⟩
        have k3 : Ke Nof H H3 := k2.trans (.same s3)
        have sy2 : ∀ cs ∈ tss.take n ++ Kk, Sy cs := fun cs hc => by
          rcases List.mem_append.mp hc with z | z
          · exact st cs (List.mem_of_mem_take z)
          · exact st cs (List.mem_of_mem_drop (pt.sub.subset z))
        have frR : Frs H R := .ke0 k2 (.of nR)
        refine ⟨_, rfl, _, rfl, v, R, rvs, css, _, rfl, hb.ke k3, lR, sb, sy2, l1, by rw [List.length_append, la]; omega, k3.tabs _ tg, fun H4 wn k4 wr _ => ?_, fun H4 k4 nw => ?_⟩
        · have no : ¬ Tell css [] (tss.take n ++ Kk) := fun z => wr_not wr (nowr_iff.mpr z)
          refine ⟨rfl, false, rfl, _, _, L, lvs, a :: Kk, rfl, k3.trans k4, frL, ?_, ?_, ?_, fa.kept no⟩
          · have := lc.ke ((Ke.same s3).trans k4)
            rw [List.append_assoc] at this
            exact this
          · refine ⟨?_, ?_⟩
            · rw [List.drop_eq_getElem_cons ln, hga]
              exact pt.sub.cons_cons a
            · obtain ⟨x, h1, h2⟩ := pt.last
              refine ⟨x, ?_, h2⟩
              rw [List.getLast?_cons, h1]
              rfl
          · rw [List.append_assoc] at tl
            exact tl
        · refine ⟨rfl, true, rfl, _, rfl, _, _, R, rvs, Kk, rfl, k3.trans k4, frR, lR.ke k4, ?_, nowr_iff.mp nw, fa.out (tell_cat.mp tl).1⟩
          refine ⟨pt.sub.trans ?_, pt.last⟩
          rw [← List.drop_drop]
          exact List.drop_sublist _ _
      · rintro σ H3 ⟨y3, y4, L, lvs, Kk, rfl, k3, frL, lc, pt, tl, fa⟩
        rw [Nat.sub_self] at lc pt tl fa
        exact ⟨y3, y4, L, lvs, Kk, rfl, k3, frL, lc, pt, tl, fa⟩
    rintro σ' H3 ⟨y3, y4, L, lvs, Kk, rfl, k3, frL, lc, pt, tl, fa⟩
    exact ⟨_, rfl, q1 H3 L lvs Kk k3 frL lc pt nw (nowr_iff.mpr tl) fa⟩
end
end Te
namespace Rp
open PySem PySem.Spec PyProof.Rows L2
/-- repr of a list or a tuple, where nothing is being shown -/
theorem cr_repr {X : Cx} (hg : X.A.guards = some []) (hu : X.A.units + 70 < cLine) : CallR X (.builtin "repr") (fun xs H Q => ∃ (a : Addr) (d : PyData), xs = [V.ref a] ∧ Dp X.K H (.ref a) d ∧ d.showable = true ∧ d.hasDict = false ∧ d.depth ≤ 64 ∧ d.shown.length ≤ sizeLine ∧ Q (.str d.shown) H) := by
  intro pins s σ H xs us Q I r h
  obtain ⟨a, d, rfl, hd, hs, hn, dp, sz, q⟩ := h
  obtain ⟨u, rfl, hu'⟩ := vals1 r
  obtain rfl : u = .ref a := hu'
  obtain ⟨as, r1⟩ := Dp.reads I d (.ref a) (.ref a) hd rfl
  exact repr_of_reads' r1 hs (PyData.noDict_hsm hn) hg (by omega) (fun _ _ e => e) (fun h' u tk k => ⟨.str _, H, I.turnedL (ch := []) (fun b o _ e => k b o e) (fun b hb => absurd hb (by simp)), ⟨_, rfl⟩, q⟩) sz
end Rp
namespace Sw
open PySem PySem.Spec PyProof.Rows L2 Nw
theorem say_shown : ∀ n : Fin 17, PyData.showable (.int ((n.val : Int) - 8)) = true ∧ (PyData.shown (.int ((n.val : Int) - 8))).length ≤ 3 := by decide +kernel
theorem say_at {n : Int} (h0 : -8 ≤ n) (h1 : n ≤ 8) : PyData.showable (.int n) = true ∧ (PyData.shown (.int n)).length ≤ 3 := by
  have := say_shown ⟨(n + 8).toNat, by omega⟩
  rw [show (((n + 8).toNat : Nat) : Int) - 8 = n by omega] at this
  exact this
theorem says_show : ∀ ns : List Int, (∀ n ∈ ns, -8 ≤ n ∧ n ≤ 8) → PyData.showableAll (ns.map PyData.int) = true
  | [], _ => rfl
  | n :: r, h => by
    show (PyData.showable (.int n) && PyData.showableAll (r.map PyData.int)) = true
    rw [says_show r fun m hm => h m (List.mem_cons_of_mem _ hm), (say_at (h n List.mem_cons_self).1 (h n List.mem_cons_self).2).1]
    rfl
theorem says_nodict : ∀ ns : List Int, PyData.hasDictAll (ns.map PyData.int) = false
  | [] => rfl
  | _ :: r => says_nodict r
theorem says_map : ∀ ns : List Int, PyData.shownAll (ns.map PyData.int) = ns.map fun n => PyData.shown (.int n)
  | [] => rfl
  | n :: r => congrArg (PyData.shown (.int n) :: ·) (says_map r)
theorem sum_at {B : Nat} : ∀ {l : List Nat}, (∀ x ∈ l, x ≤ B) → l.sum ≤ B * l.length
  | [], _ => Nat.zero_le _
  | x :: r, h => by
    have h1 := h x List.mem_cons_self
    have h2 := sum_at (l := r) fun y hy => h y (List.mem_cons_of_mem _ hy)
    rw [List.sum_cons, List.length_cons, Nat.mul_add]
    omega
theorem says_len {ns : List Int} (h : ∀ n ∈ ns, -8 ≤ n ∧ n ≤ 8) (l : ns.length ≤ 20) : (PyData.shown (.tuple (ns.map PyData.int))).length ≤ 200 := by
  have e := tupleText_len_le (PyData.shownAll (ns.map PyData.int))
  have s1 : ((PyData.shownAll (ns.map PyData.int)).map (·.length)).sum ≤ 3 * ((PyData.shownAll (ns.map PyData.int)).map (·.length)).length := sum_at fun x hx => by
    rw [says_map] at hx
    obtain ⟨y, hy, rfl⟩ := List.mem_map.mp hx
    obtain ⟨n, hn, rfl⟩ := List.mem_map.mp hy
    exact (say_at (h n hn).1 (h n hn).2).2
  have l2 : (PyData.shownAll (ns.map PyData.int)).length = ns.length := by rw [says_map, List.length_map]
  rw [List.length_map] at s1
  rw [l2] at s1 e
  show (tupleText (PyData.shownAll (ns.map PyData.int))).length ≤ 200
  omega
theorem says_deep (ns : List Int) : PyData.depth (.tuple (ns.map PyData.int)) ≤ 64 := by
  have := flat_depth _ (flat_ints ns)
  show PyData.depthAll (ns.map PyData.int) + 1 ≤ 64
  omega
end Sw
namespace Te
open PySem PySem.Spec PyProof.Rows L2 GxR Nw Dr Kp Se Cl En Fo Fd
theorem takes0 {X : Cx} : Takes X (fun _ _ _ _ => False) := fun _ _ x => by
  obtain ⟨_, _, _, _, _, _, _, _, _, _, _, _, _, _, _, _, z⟩ := x
  exact z.elim
abbrev sIsp : Stmt := topS 33
theorem scIsp : FnScope ["some", "telling", "at", "claim"] ["some", "telling"] (defScope sIsp) := ⟨rfl, rfl, rfl, by decide +kernel, rfl, by decide +kernel, by decide +kernel⟩
abbrev sTld : Stmt := topS 34
theorem scTld : FnScope ["book", "telling", "found", "refused"] ["book", "telling"] (defScope sTld) := ⟨rfl, rfl, rfl, by decide +kernel, rfl, by decide +kernel, by decide +kernel⟩
abbrev sSrt : Stmt := topS 35
theorem scSrt : FnScope ["book", "telling", "found", "at"] ["book", "telling", "found"] (defScope sSrt) := ⟨rfl, rfl, rfl, by decide +kernel, rfl, by decide +kernel, by decide +kernel⟩
structure Zr (mg : Str → Option Value) : Prop where
  z_len : mg "len" = none
  z_list : mg "list" = none
  z_range : mg "range" = none
  z_repr : mg "repr" = none
  z_isinstance : mg "isinstance" = none
theorem lc_at {H : Hp} {p : Addr} {rvs : List V} {rss : List (List Int)} (h : Lc H p rvs rss) {i : Nat} (hi : i < rss.length) : ∃ (a : Addr) (cs : List Int), rvs[i]? = some (.ref a) ∧ rss[i]? = some cs ∧ H a = some (.tup (cs.map V.int)) := by
  have e1 := List.getElem?_eq_getElem (show i < rvs.length by rw [h.2.1]; exact hi)
  have e2 := List.getElem?_eq_getElem hi
  obtain ⟨a, ea, ha⟩ := h.2.2 i _ _ e1 e2
  exact ⟨a, _, by rw [e1, ea], e2, ha⟩
theorem lc_last {H : Hp} {p : Addr} {rvs : List V} {rss : List (List Int)} {x : List Int} (h : Lc H p rvs rss) (hx : rss.getLast? = some x) : ∃ a : Addr, atI rvs (-1) = some (.ref a) ∧ H a = some (.tup (x.map V.int)) := by
  have ne : rss ≠ [] := fun z => by
    rw [z] at hx
    cases hx
  have l0 := List.length_pos_iff.mpr ne
  obtain ⟨a, cs, e1, e2, ha⟩ := lc_at h (show rss.length - 1 < rss.length by omega)
  rw [List.getLast?_eq_getElem?, e2] at hx
  cases hx
  refine ⟨a, ?_, ha⟩
  have nr : rvs ≠ [] := fun z => by
    rw [z] at e1
    cases e1
  have e3 : rvs = rvs.dropLast ++ [rvs.getLast nr] := (List.dropLast_concat_getLast nr).symm
  have e4 : rvs.getLast nr = .ref a := by
    have := List.getLast?_eq_some_getLast nr
    rw [List.getLast?_eq_getElem?, h.2.1, e1] at this
    exact (Option.some.inj this).symm
  rw [e3, e4]
  exact atI_last _ _
theorem Ke.wr {H : Hp} {p : Addr} {xs : List V} {o : HO} (hp : H p = some (.lst xs)) : Ke (· = p) H (L2.upd H p o) := by
  refine ⟨fun b x e _ m => by rw [upd_ne m]; exact e, fun Q hQ => ?_, fun b ys e => upd_tup hp _ _ e⟩
  obtain ⟨qs, e, t⟩ := hQ
  exact ⟨qs, by rw [upd_ne fun z => by rw [z, hp] at e; cases e]; exact e, t⟩
theorem Ke.thru {F : Addr → Prop} {H H1 H2 : Hp} {p : Addr} (a : Ke F H H1) (b : Ke (· = p) H1 H2) (fr : Frs H p) : Ke F H H2 := ⟨fun x o h n m => b.keep x o (a.keep x o h n m) n (fr x o h n), fun Q h => b.tabs Q (a.tabs Q h), fun x xs h => b.tups x xs (a.tups x xs h)⟩
section
variable {P : Program} {w : World} {K : PySem.W.Frag} {mg : Str → Option Value} {base : Heap}
/-- is_part(some, telling), of a part -/
def spIsp : Sp := fun vs H Q _ => ∃ (p t : Addr) (rvs tvs : List V) (rss tss : List (List Int)), vs = [.ref p, .ref t] ∧ Lc H p rvs rss ∧ Lc H t tvs tss ∧ (∀ cs ∈ rss, Sy cs) ∧ (∀ cs ∈ tss, Sy cs) ∧ rss.length ≤ 40 ∧ tss.length ≤ 40 ∧ rss.Sublist tss ∧ Q (.bl true) H
theorem ok_isp {f : Addr} {fd : FuncData} (F : Fun K "_law_e_is_part" "_law_e_is_part" sIsp f fd) (T : Zr mg) : Gx2.FnX P w K mg base CX0 1 f fd ["some", "telling"] spIsp := by
  refine Gx2.okX F scIsp (fun vs H Q E h => ?_) (fun cdv A outer s H vs Q E gd0 hr h => ?_)
  · obtain ⟨p, t, rvs, tvs, rss, tss, rfl, _⟩ := h
    rfl
  · obtain ⟨p, t, rvs, tvs, rss, tss, rfl, hp, ht, sr, st, l1, l2, sub, q⟩ := h
    have gd : (A.deeper (envOfC "_law_e_is_part" (defScope sIsp) s.heap.objs.size f cdv)).guards = some [] := gd0
    have hu : (A.deeper (envOfC "_law_e_is_part" (defScope sIsp) s.heap.objs.size f cdv)).units + 70 < cLine := by
      have := hr.un
      omega
    have lp := hp.2.1
    have big : ∀ {x : Str}, x.length ≤ 200 → x.length ≤ sizeLine := fun h => Nat.le_trans h (by decide)
    refine ⟨_, (PSs.nox (pss_cons (ps_set (i := 2) scIsp.nd rfl (.inl rfl) pe_int)
      (pss_cons (ps_for PassesOwn.never rfl (pi_list (pv 1)) (pg_name (i := 3) scIsp.nd rfl (.inl rfl)) (pss_one (ps_if (PW.pt (pw_and (pt_cmpR op_lt (pv 2) (pe_callB call_len_seq (by rfl) T.z_len (by decide +kernel) (pa_cons (pv 0) pa_nil)) (nomark _)) (pw_and1 (pt_cmpR op_eq (pe_callB (Rp.cr_repr gd hu) (by rfl) T.z_repr (by decide +kernel) (pa_cons (pe_ix ix_list (pv 0) (pv 2) (fun _ _ => rfl)) pa_nil)) (pe_callB (Rp.cr_repr gd hu) (by rfl) T.z_repr (by decide +kernel) (pa_cons (pv 3) pa_nil)) (nomark _))))) (pss_one (ps_set (i := 2) scIsp.nd rfl (.inl rfl) (pe_op op_add (pv 2) pe_int))) pss_nil)))
      (pss_one (ps_ret (pe_cmpR op_eq (pv 2) (pe_callB call_len_seq (by rfl) T.z_len (by decide +kernel) (pa_cons (pv 0) pa_nil)) (nomark _))))))), ?_⟩
    refine ⟨_, rfl, t, rfl, ⟨_, .of ht.1⟩, for_list (K := K) (a := t) (xs := tvs) (Pv := fun i σ H' => ∃ (a : Nat) (y3 : Option V), σ = [some (.ref p), some (.ref t), some (.int (a : Nat)), y3] ∧ H' = H ∧ a ≤ rss.length ∧ (rss.drop a).Sublist (tss.drop i)) ?_ (fun i σ H' _ z => ?_) ?_ ?_⟩
    · exact ⟨0, none, rfl, rfl, Nat.zero_le _, sub⟩
    · obtain ⟨_, _, _, rfl, _⟩ := z
      exact .of ht.1
    · rintro i x σ H' hx ⟨a, y3, rfl, rfl, la, su⟩
      have li := (List.getElem?_eq_some_iff.mp hx).1
      obtain ⟨ca, cs, e1, e2, hca⟩ := lc_at ht (show i < tss.length by rw [← ht.2.1]; exact li)
      rw [hx] at e1
      cases e1
      have scs := st cs (List.mem_of_getElem? e2)
      have lcs := scs.len
      have dt : tss.drop i = cs :: tss.drop (i + 1) := by
        rw [List.drop_eq_getElem_cons (show i < tss.length by rw [← ht.2.1]; exact li)]
        rw [List.getElem?_eq_getElem (show i < tss.length by rw [← ht.2.1]; exact li)] at e2
        rw [Option.some.inj e2]
      refine ⟨_, rfl, _, rfl, p, _, rfl, .inl (.of hp.1), _, _, rfl, rfl, _, rfl, ite2 (fun e => ?_) (fun e => ?_)⟩
      · have al : a < rss.length := by
          have e : ((a : Nat) : Int) < ((rvs.length : Nat) : Int) := of_decide_eq_true e
          omega
        obtain ⟨ra, rs, f1, f2, hra⟩ := lc_at hp al
        have srs := sr rs (List.mem_of_getElem? f2)
        have lrs := srs.len
        have dr : rss.drop a = rs :: rss.drop (a + 1) := by
          rw [List.drop_eq_getElem_cons al]
          rw [List.getElem?_eq_getElem al] at f2
          rw [Option.some.inj f2]
        have tail : (rss.drop (a + 1)).Sublist (tss.drop (i + 1)) := by
          rw [dr, dt] at su
          cases su with
          | cons _ h => exact (List.sublist_cons_self _ _).trans h
          | cons_cons _ h => exact h
        refine ⟨_, rfl, _, rfl, p, _, _, .ref ra, rfl, rfl, .of hp.1, at_of (j := a) rfl f1, ra, .tuple (rs.map PyData.int), rfl, .tup (.of hra) (dp_ints rs), Sw.says_show rs srs.bd, Sw.says_nodict rs, Sw.says_deep rs, big (Sw.says_len srs.bd (by omega)), ?_⟩
        refine ⟨_, rfl, ca, .tuple (cs.map PyData.int), rfl, .tup (.of hca) (dp_ints cs), Sw.says_show cs scs.bd, Sw.says_nodict cs, Sw.says_deep cs, big (Sw.says_len scs.bd (by omega)), rfl, _, rfl, ite2 (fun e => ?_) (fun e => ?_)⟩
        · exact ⟨_, rfl, _, _, rfl, rfl, a + 1, _, rfl, rfl, al, tail⟩
        · refine ⟨a, _, rfl, rfl, la, ?_⟩
          have ne : rs ≠ cs := fun z => by
            rw [z] at e
            simp at e
          rw [dr, dt] at su
          rw [dr]
          cases su with
          | cons _ h => exact h
          | cons_cons _ h => exact absurd rfl ne
      · have al : ¬ a < rss.length := fun z => e (decide_eq_true (by omega))
        refine ⟨a, _, rfl, rfl, la, ?_⟩
        rw [List.drop_eq_nil_of_le (by omega)]
        exact List.nil_sublist _
    · rintro σ H' ⟨a, y3, rfl, rfl, la, su⟩
      rw [show tss.drop tvs.length = [] from List.drop_eq_nil_of_le (by rw [ht.2.1]; exact Nat.le_refl _)] at su
      have al : a = rss.length := by
        have := List.drop_eq_nil_iff.mp (List.sublist_nil.mp su)
        omega
      refine ⟨_, rfl, _, rfl, p, _, rfl, .inl (.of hp.1), rfl, ?_⟩
      rw [lp, al, decide_eq_true rfl]
      exact q
/-- told(book, telling) -/
def spTld (Po : Addr) : Sp := fun vs H Q _ => ∃ (v : V) (t : Addr) (tvs : List V) (css tss : List (List Int)), vs = [v, .ref t] ∧ Bk H v css ∧ Lc H t tvs tss ∧ (∀ cs ∈ css, Sy cs) ∧ (∀ cs ∈ tss, Sy cs) ∧ css.length ≤ 40 ∧ tss ≠ [] ∧ tss.length ≤ 12 ∧ TabG H Po ∧
  (∀ H' p r rvs rss, Ke Nof H H' → H' p = some (.tup [.bl false, .ref r]) → Frs H r → Lc H' r rvs rss → Part tss 0 rss → NoWr css tss → NoWr css rss → Fast css [] rss → Q (.ref p) H') ∧ ∀ H' p, Ke Nof H H' → H' p = some (.tup [.bl true, .non]) → ¬ NoWr css tss → Q (.ref p) H'
theorem ok_tld {f fP C Po : Addr} {fd fdP : FuncData} (F : Fun K "_law_e_told" "_law_e_told" sTld f fd) (C' : CT K mg C) (eC : PySem.W.exmOne K (.ref C) (.ref C) = some true)
    (FP : Fun K "spared" "spared" sSpa fP fdP) (bP : Binds K fdP ["book", "telling"] []) (gP : mg "spared" = some (.ref fP)) (GP : FnOk P w K mg base (L2.CX P w) 9 fP fdP ["book", "telling"] (spSpa C Po)) :
    FnOk P w K mg base CX0 10 f fd ["book", "telling"] (spTld Po) := by
  refine F.ok scTld (fun vs H Q E h => ?_) (fun cdv A outer s H vs Q E hr h => ?_)
  · obtain ⟨v, t, tvs, css, tss, rfl, _⟩ := h
    rfl
  · obtain ⟨v, t, tvs, css, tss, rfl, hb, hl, sb, st, l1, n2, l2, tg, q1, q2⟩ := h
    have hr9 : Room 9 _ := hr
    refine ⟨_, (Evl.pss_cut (ps_set (i := 2) scTld.nd rfl (.inl rfl) pe_non) (Evl.pss_cut (ps_set (i := 3) scTld.nd rfl (.inl rfl) pe_bl) (Evl.pss_cut (ps_try_only (tb := fun W => tAsg (tCallS (spSpa C Po) (WE W) (tCons (tVar 0) (tCons (tVar 1) tNil))) (gName 2)) (ts := fun _ _ _ => tAsg (tC (.bl true)) (gName 3)) (Wout := fun _ _ _ _ => False) rfl rfl ⟨rfl, by decide, .inl C'.gP⟩ takes0
      (fun W pn xe tk _ => pss_one (ps_set (i := 2) scTld.nd rfl (.inl rfl) (by exact (pe_callS GP hr9 rfl gP FP.kp bP (fun σ => passAt tk σ) (by exact (pa_cons (pv 0) (pa_cons (pv 1) pa_nil)))))))
      (fun a oe cls d pn _ _ => pss_one (ps_set (i := 3) scTld.nd rfl (.inl rfl) pe_bl)))
      (pss_one (ps_ret (pe_tupN (pa_cons (pv 3) (pa_cons (pv 2) pa_nil)))))))), ?_⟩
    refine Evl.q_cut (M := fun σ' H' => σ' = [some v, some (.ref t), some .non, none] ∧ H' = H) ⟨rfl, rfl⟩ ?_
    rintro σ' H0 ⟨rfl, rfl⟩
    refine Evl.q_cut (M := fun σ' H' => σ' = [some v, some (.ref t), some .non, some (.bl false)] ∧ H' = H0) ⟨rfl, rfl⟩ ?_
    rintro σ' H ⟨rfl, rfl⟩
    refine Evl.q_cut (M := fun σ' H' => Ke Nof H H' ∧ ((∃ r rvs rss, σ' = [some v, some (.ref t), some (.ref r), some (.bl false)] ∧ Frs H r ∧ Lc H' r rvs rss ∧ Part tss 0 rss ∧ NoWr css tss ∧ NoWr css rss ∧ Fast css [] rss) ∨ (σ' = [some v, some (.ref t), some .non, some (.bl true)] ∧ ¬ NoWr css tss))) ?_ ?_
    · refine ⟨_, rfl, _, rfl, v, t, tvs, css, tss, rfl, hb, hl, sb, st, l1, n2, l2, tg, fun H1 r rvs rss k1 fr lc pt nw nr fa => ?_, fun H1 k1 nn => ?_⟩
      · exact ⟨k1, .inl ⟨r, rvs, rss, rfl, fr, lc, pt, nw, nr, fa⟩⟩
      · exact ⟨true, eC, fun _ a ha => ⟨k1, .inr ⟨rfl, nn⟩⟩, fun z => (nomatch z)⟩
    rintro σ' H1 ⟨k1, ⟨r, rvs, rss, rfl, fr, lc, pt, nw, nr, fa⟩ | ⟨rfl, nn⟩⟩
    · refine ⟨_, rfl, _, rfl, by show 2 ≤ sizeLine; decide, fun p H2 np s2 hp _ => ?_⟩
      exact q1 H2 p r rvs rss (k1.trans (.same s2)) hp fr (lc.ke (.same s2)) pt nw nr fa
    · refine ⟨_, rfl, _, rfl, by show 2 ≤ sizeLine; decide, fun p H2 np s2 hp _ => ?_⟩
      exact q2 H2 p (k1.trans (.same s2)) hp nn
/-- spared_right(book, telling, found), of what spared tells -/
def spSrt (Po : Addr) : Sp := fun vs H Q _ => ∃ (v : V) (t p : Addr) (tvs rvs : List V) (css tss rss : List (List Int)), vs = [v, .ref t, .ref p] ∧ Bk H v css ∧ Lc H t tvs tss ∧ Lc H p rvs rss ∧ (∀ cs ∈ css, Sy cs) ∧ (∀ cs ∈ tss, Sy cs) ∧ css.length ≤ 40 ∧ tss.length ≤ 12 ∧ TabG H Po ∧
  Part tss 0 rss ∧ NoWr css rss ∧ Fast css [] rss ∧ ∀ H', Ke (· = p) H H' → Q (.bl true) H'
theorem ok_srt {f fE fI Po : Addr} {fd fdE fdI : FuncData} (F : Fun K "_law_e_spared_right" "_law_e_spared_right" sSrt f fd) (T : Zr mg)
    (FE : Fun K "_law_e_wrong" "_law_e_wrong" sEwr fE fdE) (bE : Binds K fdE ["book", "telling"] []) (gE : mg "_law_e_wrong" = some (.ref fE)) (GE : FnOk P w K mg base CX0 4 fE fdE ["book", "telling"] (spWrg Po))
    (FI : Fun K "_law_e_is_part" "_law_e_is_part" sIsp fI fdI) (bI : Binds K fdI ["some", "telling"] []) (gI : mg "_law_e_is_part" = some (.ref fI)) (GI : Gx2.FnX P w K mg base CX0 1 fI fdI ["some", "telling"] spIsp) :
    Gx2.FnX P w K mg base CX0 5 f fd ["book", "telling", "found"] (spSrt Po) := by
  refine Gx2.okX F scSrt (fun vs H Q E h => ?_) (fun cdv A outer s H vs Q E gd0 hr h => ?_)
  · obtain ⟨v, t, p, tvs, rvs, css, tss, rss, rfl, _⟩ := h
    rfl
  · obtain ⟨v, t, p, tvs, rvs, css, tss, rss, rfl, hb, ht, hp, sb, st, l1, l2, tg, pt, nr, fa, q⟩ := h
    have gd : (A.deeper (envOfC "_law_e_spared_right" (defScope sSrt) s.heap.objs.size f cdv)).guards = some [] := gd0
    have hr4 : Room 4 _ := hr
    have hr1 : Room 1 _ := hr.mono (by decide)
    have sub : rss.Sublist tss := pt.sub
    have sr : ∀ cs ∈ rss, Sy cs := fun cs hc => st cs (sub.subset hc)
    have lr : rss.length ≤ 12 := Nat.le_trans sub.length_le l2
    have l0 := List.length_pos_iff.mpr pt.ne
    have lp := hp.2.1
    obtain ⟨x, gx1, gx2⟩ := pt.last
    obtain ⟨xa, ax, hxa⟩ := lc_last hp gx1
    obtain ⟨ya, ay, hya⟩ := lc_last ht gx2
    refine ⟨_, (PSs.nox (Evl.pss_cut (ps_if (PW.pt (pw_or (pt_not (pt_val (pe_callB call_isi (by rfl) T.z_isinstance (by decide +kernel) (pa_cons (pv 2) (pa_cons (pe_bltn (v := .ty "list") (u := .type "list") (by rfl) T.z_list (by decide +kernel) rfl) pa_nil))))) (pw_or (pt_cmpR (op_eqD hr.units) (pv 2) (pe_lstN pa_nil) (nomark _)) (pw_or (pt_cmpR (op_neD hr.units) (pe_ix ix_list (pv 2) (pe_un un_neg pe_int) (fun _ _ => rfl)) (pe_ix ix_list (pv 1) (pe_un un_neg pe_int) (fun _ _ => rfl)) (nomark _)) (pw_or1 (pt_not (pt_val (Gx2.pe_callX GI gd hr1 (by rfl) gI FI.kp bI .nil pass0 (pa_cons (pv 2) (pa_cons (pv 1) pa_nil)))))))))) pss_never pss_nil)
      (Evl.pss_cut (ps_if (pt_cmpR op_notN (pe_call GE hr4 (by rfl) gE FE.kp bE .nil pass0 (pa_cons (pv 0) (pa_cons (pv 2) pa_nil))) pe_non (nomark _)) pss_never pss_nil)
      (Evl.pss_cut (ps_for PassesOwn.never rfl (pi_range1 (by rfl) T.z_range (pa_cons (pe_op op_sub (pe_callB call_len_seq (by rfl) T.z_len (by decide +kernel) (pa_cons (pv 2) pa_nil)) pe_int) pa_nil)) (pg_name (i := 3) scSrt.nd rfl (.inl rfl)) (pss_one (ps_if (pt_cmpR op_isN (pe_call GE hr4 (by rfl) gE FE.kp bE .nil pass0 (pa_cons (pv 0) (pa_cons (pe_op op_catN (pe_slice sl_listN (pv 2) po_none (po_some (pv 3))) (pe_slice sl_listN (pv 2) (po_some (pe_op op_add (pv 3) pe_int)) po_none)) pa_nil))) pe_non (nomark _)) pss_never pss_nil)))
      (Evl.pss_cut (ps_expr (pe_bm PySem.F.plainAttrs_list PySem.F.slot_list_append PySem.F.type_list_append mt_append (pv 2) (pa_cons (pe_tupN pa_nil) pa_nil)))
      (pss_one (ps_ret pe_bl))))))), ?_⟩
    -- the first look
    refine Evl.q_cut (M := fun σ' H' => σ' = [some v, some (.ref t), some (.ref p), none] ∧ Same H H') ?_ ?_
    · refine ⟨_, rfl, .ref p, .ty "list", .type "list", .type "list", true, rfl, .ty _, .base (.lst hp.1), kit_ty (by decide +kernel), _, rfl, ?_⟩
      refine ⟨_, rfl, Nat.zero_le _, fun n1 H1 nn1 s1 hn1 _ => ?_⟩
      refine ⟨_, _, .lst (.of (s1 _ _ hp.1)) (dp_cls hp.2.1 fun i y cs e1 e2 => (hp.2.2 i y cs e1 e2).ke (.same s1 : Ke Nof _ _)), .lst (.of hn1) .nil, shaped_cls _, shaped_list rfl, false, bl_f (Bool.eq_false_iff.mpr fun z => pt.ne (eqv_nil.mp z)), ?_⟩
      refine ⟨_, rfl, _, rfl, p, _, -1, .ref xa, rfl, rfl, .of (s1 _ _ hp.1), ax, _, rfl, _, rfl, t, _, -1, .ref ya, rfl, rfl, .of (s1 _ _ ht.1), ay, ?_⟩
      refine ⟨_, _, .tup (.of (s1 _ _ hxa)) (dp_ints x), .tup (.of (s1 _ _ hya)) (dp_ints x), shaped_tuple (flat_ints _), shaped_tuple (flat_ints _), false, bl_f (by rw [eqv_self (shaped_tuple (flat_ints x))]; rfl), ?_⟩
      exact ⟨_, rfl, _, rfl, p, t, rvs, tvs, rss, tss, rfl, hp.ke (.same s1), ht.ke (.same s1), sr, st, by omega, by omega, sub, true, rfl, rfl, s1⟩
    rintro σ' H1 ⟨rfl, s1⟩
    have k1 : Ke Nof H H1 := .same s1
    -- is it a telling
    refine Evl.q_cut (M := fun σ' H' => σ' = [some v, some (.ref t), some (.ref p), none] ∧ Ke Nof H H') ?_ ?_
    · refine ⟨_, rfl, _, rfl, v, p, rvs, css, rss, rfl, hb.ke k1, hp.ke k1, sb, sr, l1, by omega, k1.tabs _ tg, fun H2 n k2 wn _ => (wn.no nr).elim, fun H2 k2 _ => ⟨rfl, false, rfl, rfl, k1.trans k2⟩⟩
    clear k1 s1 H1
    rintro σ' H1 ⟨rfl, k1⟩
    -- none can be left out
    refine Evl.q_cut (M := fun σ' H' => ∃ y3, σ' = [some v, some (.ref t), some (.ref p), y3] ∧ Ke Nof H H') ?_ ?_
    · have hp1 := hp.ke k1
      refine ⟨_, rfl, p, _, rfl, .inl (.of hp1.1), _, _, rfl, rfl, _, rfl, by omega, by omega, for_range (Pv := fun i σ H' => ∃ y3, σ = [some v, some (.ref t), some (.ref p), y3] ∧ Ke Nof H H') ?_ ?_ ?_⟩
      · exact ⟨none, rfl, k1⟩
      · clear hp1 k1 H1
        rintro i σ H1 hi ⟨y3, rfl, k1⟩
        have hi : i < (((rvs.length : Nat) : Int) - 1).toNat := hi
        have hp1 := hp.ke k1
        have e0 : (0 : Int) + (i : Nat) = (i : Nat) := Int.zero_add _
        rw [e0]
        refine ⟨_, rfl, _, rfl, _, rfl, (i : Nat), rfl, p, _, rfl, .of hp1.1, fun L1 H3 nL1 s3 hL1 _ => ?_⟩
        refine ⟨_, rfl, _, rfl, _, _, rfl, rfl, (i : Int) + 1, rfl, p, _, rfl, .of (s3 _ _ hp1.1), fun R1 H4 nR1 s4 hR1 _ => ?_⟩
        rw [cut_to] at hL1
        rw [cut_to1] at hR1
        refine ⟨L1, R1, _, _, rfl, rfl, s4 _ _ hL1, hR1, small1000' (by rw [List.length_take, List.length_drop]; omega), fun R H5 nR s5 hR _ => ?_⟩
        have k5 : Ke Nof H H5 := k1.trans (.same ((s3.trans s4).trans s5))
        obtain ⟨p1, p2⟩ := pw_out (n := i) hp.2.1 hp.2.2
        have lo : (rss.take i ++ rss.drop (i + 1)).length ≤ 40 := by
          rw [List.length_append, List.length_take, List.length_drop]
          omega
        have il : i < rss.length := by omega
        have no : ¬ NoWr css (rss.take i ++ rss.drop (i + 1)) := fun z => by
          have ne : rss.drop (i + 1) ≠ [] := fun y => by
            have := List.drop_eq_nil_iff.mp y
            omega
          refine fa (rss.take i) (rss[i]) (rss.drop (i + 1)) ?_ ne (nowr_iff.mp z)
          rw [← List.drop_eq_getElem_cons il, List.take_append_drop]
        refine ⟨v, R, _, css, _, rfl, hb.ke k5, ⟨hR, p1, fun j y cs z1 z2 => (p2 j y cs z1 z2).ke k5⟩, sb, fun cs hc => ?_, l1, lo, k5.tabs _ tg, fun H6 n k6 wn _ => ⟨rfl, false, rfl, _, rfl, k5.trans k6⟩, fun H6 k6 nw => absurd nw no⟩
        rcases List.mem_append.mp hc with z | z
        · exact sr cs (List.mem_of_mem_take z)
        · exact sr cs (List.mem_of_mem_drop z)
      · rintro σ H2 ⟨y3, rfl, k2⟩
        exact ⟨y3, rfl, k2⟩
    clear k1 H1
    rintro σ' H1 ⟨y3, rfl, k1⟩
    refine Evl.q_cut (M := fun σ' H' => σ' = [some v, some (.ref t), some (.ref p), y3] ∧ Ke (· = p) H H') ?_ ?_
    · have hp1 := (hp.ke k1).1
      refine ⟨_, rfl, .inl ⟨rfl, _, .of hp1⟩, Nat.zero_le _, fun n2 H2 nn2 s2 hn2 _ => ?_⟩
      have hp2 := s2 _ _ hp1
      exact ⟨p, _, _, rfl, rfl, hp2, small1000 (by omega), rfl, (k1.all.trans (.same s2)).trans (Ke.wr hp2)⟩
    rintro σ' H2 ⟨rfl, k2⟩
    exact q H2 k2
end
end Te
namespace Nw
open PySem PySem.Spec PyProof.Rows L2
theorem cr_sortedTB {X : Cx} {K : PySem.W.Frag} (h : X.K = K) : CallR X (.builtin "sorted") (fun vs H Q => ∃ (a : Addr) (ns : List Int), vs = [V.ref a] ∧ SqT K H a (ns.map V.int) ∧ ∀ ns' : List Int, ns'.Perm ns → ns'.Pairwise (· ≤ ·) → New H (.lst (ns'.map V.int)) Q) := by subst h; exact St.cr_sortedT
end Nw
namespace K54
open PySem PySem.Spec PyProof.Rows L2 GxR Nw Dr Kp Se Cl En Fo Fd Te
theorem passF {X : Cx} : Passes (L2.CX X.prog X.w) X (fun _ _ _ => False) := fun _ _ _ _ _ _ _ h => by
  obtain ⟨_, _, _, _, _, _, _, _, _, _, _, _, z⟩ := h
  exact z.elim
/-! ### the book of the idle claims -/
structure Idl (css tss : List (List Int)) : Prop where
  ex : ∃ (a b c d e : Int) (n0 n1 n2 n3 n4 n5 n6 : List Int), css = [n0, n1, n2, n3, n4] ∧ tss = [n5, n6, n4] ∧ n0.Perm [a, b, c] ∧ n1.Perm [a, b, 0 - c] ∧ n2.Perm [a, 0 - b, d] ∧ n3.Perm [a, 0 - b, 0 - d] ∧ n4.Perm [e] ∧ n5.Perm [a, b] ∧ n6.Perm [a]
theorem fall_own {css : List (List Int)} {n : List Int} (h : n ∈ css) : Fall css (neg n) := ⟨n, h, fun y hy => .base (List.mem_map.mpr ⟨y, hy, rfl⟩)⟩
theorem base_of {css : List (List Int)} {n : List Int} {y : Int} (h : y ∈ n) : Der css (neg n) (-y) := .base (List.mem_map.mpr ⟨y, h, rfl⟩)
variable {css tss rss : List (List Int)} {a b c d e : Int} {n0 n1 n2 n3 n4 n5 n6 : List Int}
theorem fall5 (h0 : n0 ∈ css) (h1 : n1 ∈ css) (p0 : n0.Perm [a, b, c]) (p1 : n1.Perm [a, b, 0 - c]) (p5 : n5.Perm [a, b]) : Fall css (neg n5) := by
  have ba : a ∈ n5 := p5.mem_iff.mpr (by simp)
  have bb : b ∈ n5 := p5.mem_iff.mpr (by simp)
  have dc : Der css (neg n5) c := .step h0 (p0.mem_iff.mpr (by simp)) fun y hy ne => by
    have := p0.mem_iff.mp hy
    simp only [List.mem_cons, List.not_mem_nil, or_false] at this
    rcases this with rfl | rfl | rfl
    · exact base_of ba
    · exact base_of bb
    · exact absurd rfl ne
  refine ⟨n1, h1, fun y hy => ?_⟩
  have := p1.mem_iff.mp hy
  simp only [List.mem_cons, List.not_mem_nil, or_false] at this
  rcases this with rfl | rfl | rfl
  · exact base_of ba
  · exact base_of bb
  · rw [show -(0 - c) = c by omega]
    exact dc
theorem fall6 (h2 : n2 ∈ css) (h3 : n3 ∈ css) (h5 : n5 ∈ css) (p2 : n2.Perm [a, 0 - b, d]) (p3 : n3.Perm [a, 0 - b, 0 - d]) (p5 : n5.Perm [a, b]) (p6 : n6.Perm [a]) : Fall css (neg n6) := by
  have ba : a ∈ n6 := p6.mem_iff.mpr (by simp)
  have db : Der css (neg n6) b := .step h5 (p5.mem_iff.mpr (by simp)) fun y hy ne => by
    have := p5.mem_iff.mp hy
    simp only [List.mem_cons, List.not_mem_nil, or_false] at this
    rcases this with rfl | rfl
    · exact base_of ba
    · exact absurd rfl ne
  have dd : Der css (neg n6) d := .step h2 (p2.mem_iff.mpr (by simp)) fun y hy ne => by
    have := p2.mem_iff.mp hy
    simp only [List.mem_cons, List.not_mem_nil, or_false] at this
    rcases this with rfl | rfl | rfl
    · exact base_of ba
    · rw [show -(0 - b) = b by omega]
      exact db
    · exact absurd rfl ne
  refine ⟨n3, h3, fun y hy => ?_⟩
  have := p3.mem_iff.mp hy
  simp only [List.mem_cons, List.not_mem_nil, or_false] at this
  rcases this with rfl | rfl | rfl
  · exact base_of ba
  · rw [show -(0 - b) = b by omega]
    exact db
  · rw [show -(0 - d) = d by omega]
    exact dd
theorem Idl.tell (h : Idl css tss) : NoWr css tss := by
  obtain ⟨a, b, c, d, e, n0, n1, n2, n3, n4, n5, n6, rfl, rfl, p0, p1, p2, p3, p4, p5, p6⟩ := h.ex
  exact nowr_iff.mpr ⟨fall5 (by simp) (by simp) p0 p1 p5, fall6 (n5 := n5) (by simp) (by simp) (by simp) p2 p3 p5 p6, fall_own (by simp), trivial⟩
theorem Idl.res (h : Idl css tss) (pt : Part tss 0 rss) (fa : Fast css [] rss) : rss = tss.drop 2 := by
  obtain ⟨a, b, c, d, e, n0, n1, n2, n3, n4, n5, n6, rfl, rfl, p0, p1, p2, p3, p4, p5, p6⟩ := h.ex
  obtain ⟨x, g1, g2⟩ := pt.last
  have gx : n4 = x := Option.some.inj g2
  subst gx
  have sub : rss.Sublist [n5, n6, n4] := pt.sub
  have ll : rss.length ≤ 3 := sub.length_le
  show rss = [n4]
  match rss, g1, sub, ll, fa with
  | [], g1, _, _, _ => cases g1
  | [y], g1, _, _, _ =>
    have : y = n4 := Option.some.inj g1
    rw [this]
  | [y, z], g1, _, _, fa =>
    have e : z = n4 := Option.some.inj g1
    subst e
    exact absurd (⟨fall_own (by simp), trivial⟩ : Tell [n0, n1, n2, n3, z] [] ([] ++ ([] ++ [z]))) (fa [] y [z] rfl (by simp))
  | [y, z, u], g1, sub, _, fa =>
    have e := sub.eq_of_length rfl
    cases e
    exact absurd (⟨fall5 (by simp) (by simp) p0 p1 p5, fall_own (by simp), trivial⟩ : Tell [n0, n1, n2, n3, n4] [] ([] ++ ([n5] ++ [n4]))) (fa [n5] n6 [n4] rfl (by simp))
  | _ :: _ :: _ :: _ :: _, _, _, ll, _ => simp at ll
abbrev sIdl : Stmt := topS 36
abbrev nIdl : List Str := ["pen", "things", "says", "turn", "thing", "a", "b", "c", "d", "e", "rows", "row"]
theorem scIdl : FnScope nIdl ["pen"] (defScope sIdl) := ⟨rfl, rfl, rfl, by decide +kernel, rfl, by decide +kernel, by decide +kernel⟩
abbrev sLaw : Stmt := topS 37
theorem scL : FnScope ["script", "pen", "book", "telling", "turn", "some", "kept", "refused", "found"] ["script"] (defScope sLaw) := ⟨rfl, rfl, rfl, by decide +kernel, rfl, by decide +kernel, by decide +kernel⟩
structure Zk (mg : Str → Option Value) : Prop where
  z_len : mg "len" = none
  z_range : mg "range" = none
  z_list : mg "list" = none
  z_tuple : mg "tuple" = none
  z_sorted : mg "sorted" = none
theorem sy_abs {a b c : Int} (h : [(a.natAbs : Int), b.natAbs, c.natAbs].Nodup) (ha : (a.natAbs : Int) ≤ 8) (hb : (b.natAbs : Int) ≤ 8) (hc : (c.natAbs : Int) ≤ 8) : Sy [a, b, c] := by
  simp only [List.nodup_cons, List.mem_cons, List.not_mem_nil, or_false, not_or] at h
  refine ⟨?_, fun s hs => ?_⟩
  · simp only [List.nodup_cons, List.mem_cons, List.not_mem_nil, or_false, not_or]
    refine ⟨⟨?_, ?_⟩, ?_, ?_⟩ <;> first | omega | simp
  · simp only [List.mem_cons, List.not_mem_nil, or_false] at hs
    omega
section
variable {P : Program} {w : World} {K : PySem.W.Frag} {mg : Str → Option Value} {base : Heap}
def spIdl : Sp := fun vs H Q _ => ∃ (f c : Addr) (B : Nat), vs = [.ref f] ∧ Feed H f c B ∧ B ≤ 2 ^ 25 ∧
  ∀ p b t bvs tvs css tss H', Feed H' f c (B + 20) → Ke (· = f) H H' → H' p = some (.tup [.ref b, .ref t]) → H' b = some (.tup bvs) → bvs.length = css.length → (∀ (i : Nat) (x : V) (cs : List Int), bvs[i]? = some x → css[i]? = some cs → TupI H' x cs) → Lc H' t tvs tss → (∀ cs ∈ css, Sy cs) → (∀ cs ∈ tss, Sy cs) → Idl css tss → Q (.ref p) H'
theorem ok_idl {f fD : Addr} {fd fdD : FuncData} {k : Nat} (F : Fun K "_law_e_idle" "_law_e_idle" sIdl f fd) (T : Zk mg) (FD : Fun K "_law_e_take" "_law_e_take" sDrw fD fdD) (bD : Binds K fdD ["pen", "many"] []) (gD : mg "_law_e_take" = some (.ref fD)) (GD : FnOk P w K mg base CX0 2 fD fdD ["pen", "many"] spDrw) :
    FnOk P w K mg base CX0 (k + 3) f fd ["pen"] spIdl := by
  refine F.ok scIdl (fun vs H Q E h => ?_) (fun cdv A outer s H vs Q E hr h => ?_)
  · obtain ⟨f, c, B, rfl, _⟩ := h
    rfl
  · obtain ⟨f, c, B, rfl, hF, hB, q⟩ := h
    have hr2 : Room 2 _ := hr.mono (by omega)
    refine ⟨_, (Evl.pss_cut (ps_set (i := 1) scIdl.nd rfl (.inl rfl) (pe_listRgN rfl (by rfl) T.z_list (prg_2 (by rfl) T.z_range pe_int pe_int)))
      (Evl.pss_cut (ps_set (i := 2) scIdl.nd rfl (.inl rfl) (pe_lstN pa_nil))
      (Evl.pss_cut (ps_for PassesOwn.never rfl (pi_range1 (by rfl) T.z_range (pa_cons pe_int pa_nil)) (pg_name (i := 3) scIdl.nd rfl (.inl rfl)) (Evl.pss_cut (ps_set (i := 4) scIdl.nd rfl (.inl rfl) (pe_bm PySem.F.plainAttrs_list PySem.F.slot_list_pop PySem.F.type_list_pop mt_popAt (pv 1) (pa_cons (pe_call GD hr2 (by rfl) gD FD.kp bD .nil pass0 (pa_cons (pv 0) (pa_cons (pe_callB call_len_seq (by rfl) T.z_len (by decide +kernel) (pa_cons (pv 1) pa_nil)) pa_nil))) pa_nil)))
      (pss_one (ps_expr (pe_bm PySem.F.plainAttrs_list PySem.F.slot_list_append PySem.F.type_list_append mt_append (pv 2) (pa_cons (pe_ix ix_list (pe_lstN (pa_cons (pv 4) (pa_cons (pe_op op_sub pe_int (pv 4)) pa_nil))) (pe_call GD hr2 (by rfl) gD FD.kp bD .nil pass0 (pa_cons (pv 0) (pa_cons pe_int pa_nil))) (fun _ _ => rfl)) pa_nil))))))
      (Evl.pss_cut (ps_asg (pv 2) (pg_lst rfl (pgs_cons (pg_name (i := 5) scIdl.nd rfl (.inl rfl)) (pgs_cons (pg_name (i := 6) scIdl.nd rfl (.inl rfl)) (pgs_cons (pg_name (i := 7) scIdl.nd rfl (.inl rfl)) (pgs_cons (pg_name (i := 8) scIdl.nd rfl (.inl rfl)) (pgs_cons (pg_name (i := 9) scIdl.nd rfl (.inl rfl)) pgs_nil)))))))
      (Evl.pss_cut (ps_set (i := 10) scIdl.nd rfl (.inl rfl) (pe_lstN (pa_cons (pe_tupN (pa_cons (pv 5) (pa_cons (pv 6) (pa_cons (pv 7) pa_nil)))) (pa_cons (pe_tupN (pa_cons (pv 5) (pa_cons (pv 6) (pa_cons (pe_op op_sub pe_int (pv 7)) pa_nil)))) (pa_cons (pe_tupN (pa_cons (pv 5) (pa_cons (pe_op op_sub pe_int (pv 6)) (pa_cons (pv 8) pa_nil)))) (pa_cons (pe_tupN (pa_cons (pv 5) (pa_cons (pe_op op_sub pe_int (pv 6)) (pa_cons (pe_op op_sub pe_int (pv 8)) pa_nil)))) (pa_cons (pe_tupN (pa_cons (pv 9) pa_nil)) (pa_cons (pe_tupN (pa_cons (pv 5) (pa_cons (pv 6) pa_nil))) (pa_cons (pe_tupN (pa_cons (pv 5) pa_nil)) pa_nil)))))))))
      (Evl.pss_cut (ps_setLc (i := 10) (own := [("row", 11)]) (g := (gName 11)) (tt := tYes) rfl scIdl.nd rfl rfl (sw_true rfl rfl rfl (by decide +kernel)) (pi_list (pv 10)) (blkOk_by (N := nIdl) (sc := defScope sIdl) (by decide +kernel)) (fun _ _ _ _ _ => (pg_name (i := 11) scIdl.nd rfl (.inl rfl))) (fun _ _ _ _ _ => pts_nil) (fun _ _ _ _ _ => (pe_callTy (call_tuple_ofNB (K := K) rfl) (by rfl) T.z_tuple (by decide +kernel) (pa_cons (pe_callB (cr_sortedTB (K := K) rfl) (by rfl) T.z_sorted (by decide +kernel) (pa_cons (pv 11) pa_nil)) pa_nil))))
      (pss_one (ps_ret (pe_tupN (pa_cons (pe_callTy call_tuple_ofN (by rfl) T.z_tuple (by decide +kernel) (pa_cons (pe_slice sl_listN (pv 10) po_none (po_some pe_int)) pa_nil)) (pa_cons (pe_lstN (pa_cons (pe_ix ix_list (pv 10) pe_int (fun _ _ => rfl)) (pa_cons (pe_ix ix_list (pv 10) pe_int (fun _ _ => rfl)) (pa_cons (pe_ix ix_list (pv 10) pe_int (fun _ _ => rfl)) pa_nil)))) pa_nil))))))))))), ?_⟩
    -- things
    refine Evl.q_cut (M := fun σ' H' => ∃ L, σ' = [some (.ref f), some (.ref L), none, none, none, none, none, none, none, none, none, none] ∧ H L = none ∧ Same H H' ∧ H' L = some (.lst (([1, 2, 3, 4, 5, 6, 7, 8] : List Int).map V.int))) ?_ ?_
    · exact ⟨1, 9, rfl, rfl, .of_le (by omega) (by omega) (by omega) (by omega), fun L H2 nL s2 hL _ => ⟨L, rfl, nL, s2, hL⟩⟩
    rintro σ' H4 ⟨L, rfl, nL, s4, hL⟩
    refine Evl.q_cut (M := fun σ' H' => ∃ S, σ' = [some (.ref f), some (.ref L), some (.ref S), none, none, none, none, none, none, none, none, none] ∧ H4 S = none ∧ Same H4 H' ∧ H' S = some (.lst [])) ?_ ?_
    · exact ⟨Nat.zero_le _, fun S H5 nS s5 hS _ => ⟨S, rfl, nS, s5, hS⟩⟩
    rintro σ' H5 ⟨S, rfl, nS, s5, hS⟩
    have s35 := s4.trans s5
    have F5 := hF.same s35
    have k5 : Ke (· = f) H H5 := .same s35
    have frL : Frs H L := .of nL
    have frS : Frs H S := .of (s4.free nS)
    have nLf : L ≠ f := hF.nf nL
    have nLc : L ≠ c := hF.nc nL
    have nSf : S ≠ f := (hF.same s4).nf nS
    have nSc : S ≠ c := (hF.same s4).nc nS
    have nSL : S ≠ L := Ne.symm (ne_of_none hL nS)
    have hL5 := s5 _ _ hL
    -- the loop
    refine Evl.q_cut (M := fun σ' H' => ∃ (y6 y7 : Option V) (says lf : List Int), σ' = [some (.ref f), some (.ref L), some (.ref S), y6, y7, none, none, none, none, none, none, none] ∧ Feed H' f c (B + 10) ∧ Ke (· = f) H H' ∧ H' S = some (.lst (says.map V.int)) ∧ says.length = 5 ∧ ((says.map fun s => (s.natAbs : Int)) ++ lf).Perm ([1, 2, 3, 4, 5, 6, 7, 8] : List Int)) ?_ ?_
    · refine ⟨5, rfl, by omega, by omega, for_range (Pv := fun i σ H' => ∃ (y6 y7 : Option V) (lf says : List Int), σ = [some (.ref f), some (.ref L), some (.ref S), y6, y7, none, none, none, none, none, none, none] ∧ Feed H' f c (B + 2 * i) ∧ Ke (· = f) H H' ∧ H' L = some (.lst (lf.map V.int)) ∧ H' S = some (.lst (says.map V.int)) ∧
        lf.length = 8 - i ∧ says.length = i ∧ ((says.map fun s => (s.natAbs : Int)) ++ lf).Perm ([1, 2, 3, 4, 5, 6, 7, 8] : List Int)) ?_ ?_ ?_⟩
      · exact ⟨none, none, _, [], rfl, F5, k5, hL5, hS, rfl, rfl, .refl _⟩
      · rintro i σ H7 hi ⟨y6, y7, lf, says, rfl, F7, k7, hL7, hS7, ll, ls, pm⟩
        have hi : i < 5 := hi
        -- thing
        refine Evl.q_cut (M := fun σ' H' => ∃ (d : Nat) (y : Int), σ' = [some (.ref f), some (.ref L), some (.ref S), some (.int (0 + (i : Int))), some (.int y), none, none, none, none, none, none, none] ∧ Feed H' f c (B + 2 * i + 1) ∧ Ke (· = f) H H' ∧ H' L = some (.lst ((lf.eraseIdx d).map V.int)) ∧ H' S = some (.lst (says.map V.int)) ∧ lf[d]? = some y) ?_ ?_
        · refine ⟨_, rfl, .inl ⟨rfl, _, .of hL7⟩, _, rfl, _, rfl, L, _, rfl, .inl (.of hL7), f, c, _, B + 2 * i, rfl, ?_, ?_, F7, by omega, fun d H8 d0 d1 F8 b8 => ?_⟩
          · rw [List.length_map]
            omega
          · rw [List.length_map]
            omega
          rw [List.length_map] at d1
          have dl : d.toNat < lf.length := by omega
          have hL8 := b8.lst hL7 nLf
          refine ⟨L, _, d, d.toNat, .int lf[d.toNat], rfl, rfl, hL8, by omega, by omega, by rw [List.length_map]; exact ix_seq d0 d1, by rw [List.getElem?_map, List.getElem?_eq_getElem dl]; rfl, ?_⟩
          exact ⟨d.toNat, _, rfl, F8.upd nLf nLc, (k7.trans b8).write frL hL8, by rw [upd_same, erase_map], by rw [upd_ne nSL]; exact b8.lst hS7 nSf, List.getElem?_eq_getElem dl⟩
        clear hL7 hS7 F7 k7
        rintro σ' H7 ⟨d, y, rfl, F7, k7, hL7, hS7, hy⟩
        have dl := (List.getElem?_eq_some_iff.mp hy).1
        have pp := perm_pop hy
        have y1 : 1 ≤ y := by
          have := pm.mem_iff.mp (List.mem_append_right _ (List.mem_of_getElem? hy))
          simp only [List.mem_cons, List.not_mem_nil, or_false] at this
          omega
        refine ⟨_, rfl, .inl ⟨rfl, _, .of hS7⟩, _, rfl, _, rfl, _, _, rfl, rfl, by show 2 ≤ sizeLine; decide, fun p H8 np s8 hp _ => ?_⟩
        refine ⟨_, rfl, f, c, 2, _, rfl, by decide, by decide, F7.same s8, by omega, fun e H9 e0 e1 F9 b9 => ?_⟩
        have hp9 := b9.lst hp (F7.nf np)
        have hS9 := b9.lst (s8 _ _ hS7) nSf
        have hL9 := b9.lst (s8 _ _ hL7) nLf
        have k9 : Ke (· = f) H H9 := (k7.trans (.same s8)).trans b9
        have two : e = 0 ∨ e = 1 := by omega
        have go : ∀ z : Int, (z.natAbs : Int) = y → ((says ++ [z]).map (fun s => (s.natAbs : Int)) ++ lf.eraseIdx d).Perm ([1, 2, 3, 4, 5, 6, 7, 8] : List Int) := fun z hz => by
          refine List.Perm.trans ?_ pm
          rw [List.map_append, List.append_assoc, List.map_singleton, hz]
          exact (List.Perm.refl _).append pp
        rcases two with rfl | rfl
        · refine ⟨p, _, 0, .int y, rfl, rfl, .of hp9, rfl, S, _, _, rfl, rfl, hS9, by rw [List.length_map]; exact small1000 (by omega), ?_⟩
          exact ⟨_, _, lf.eraseIdx d, says ++ [y], rfl, (F9.upd nSf nSc).mono (by omega), k9.write frS hS9, by rw [upd_ne (Ne.symm nSL)]; exact hL9, by rw [upd_same, List.map_append]; rfl, by rw [erase_len dl]; omega, by rw [List.length_append, ls]; rfl, go y (by omega)⟩
        · refine ⟨p, _, 1, .int (0 - y), rfl, rfl, .of hp9, rfl, S, _, _, rfl, rfl, hS9, by rw [List.length_map]; exact small1000 (by omega), ?_⟩
          exact ⟨_, _, lf.eraseIdx d, says ++ [0 - y], rfl, (F9.upd nSf nSc).mono (by omega), k9.write frS hS9, by rw [upd_ne (Ne.symm nSL)]; exact hL9, by rw [upd_same, List.map_append]; rfl, by rw [erase_len dl]; omega, by rw [List.length_append, ls]; rfl, go (0 - y) (by omega)⟩
      · rintro σ H7 ⟨y6, y7, lf, says, rfl, F7, k7, hL7, hS7, ll, ls, pm⟩
        exact ⟨y6, y7, says, lf, rfl, F7.mono (by omega), k7, hS7, ls, pm⟩
    rintro σ' H6 ⟨y6, y7, says, lf, rfl, F6, k6, hS6, ls, pm⟩
    obtain ⟨a, b, c', d, e, rfl⟩ : ∃ a b c' d e, says = [a, b, c', d, e] := by
      match says, ls with
      | [a, b, c', d, e], _ => exact ⟨a, b, c', d, e, rfl⟩
    have nd : ([a, b, c', d, e].map fun s => (s.natAbs : Int)).Nodup := (List.nodup_append.mp (pm.nodup_iff.mpr (by decide))).1
    have bd : ∀ s ∈ [a, b, c', d, e], 1 ≤ (s.natAbs : Int) ∧ (s.natAbs : Int) ≤ 8 := fun s hs => by
      have := pm.mem_iff.mp (List.mem_append_left _ (List.mem_map.mpr ⟨s, hs, rfl⟩))
      simp only [List.mem_cons, List.not_mem_nil, or_false] at this
      omega
    have ba := bd a (by simp)
    have bb := bd b (by simp)
    have bc := bd c' (by simp)
    have bd' := bd d (by simp)
    have be := bd e (by simp)
    clear bd pm
    simp only [List.map_cons, List.map_nil, List.nodup_cons, List.mem_cons, List.not_mem_nil, or_false, not_or] at nd
    refine Evl.q_cut (M := fun σ' H' => σ' = [some (.ref f), some (.ref L), some (.ref S), y6, y7, some (.int a), some (.int b), some (.int c'), some (.int d), some (.int e), none, none] ∧ H' = H6) ?_ ?_
    · exact ⟨_, rfl, S, _, rfl, .of hS6, rfl, _, _, rfl, _, _, rfl, _, _, rfl, _, _, rfl, _, _, rfl, rfl, rfl, rfl⟩
    rintro σ' H6' ⟨rfl, rfl⟩
    -- rows
    refine Evl.q_cut (M := fun σ' H' => ∃ (R q0 q1 q2 q3 q4 q5 q6 : Addr), σ' = [some (.ref f), some (.ref L), some (.ref S), y6, y7, some (.int a), some (.int b), some (.int c'), some (.int d), some (.int e), some (.ref R), none] ∧ Same H6' H' ∧ H' R = some (.lst [.ref q0, .ref q1, .ref q2, .ref q3, .ref q4, .ref q5, .ref q6]) ∧ H' q0 = some (.tup ([a, b, c'].map V.int)) ∧ H' q1 = some (.tup ([a, b, 0 - c'].map V.int)) ∧ H' q2 = some (.tup ([a, 0 - b, d].map V.int)) ∧ H' q3 = some (.tup ([a, 0 - b, 0 - d].map V.int)) ∧ H' q4 = some (.tup ([e].map V.int)) ∧ H' q5 = some (.tup ([a, b].map V.int)) ∧ H' q6 = some (.tup ([a].map V.int))) ?_ ?_
    · refine ⟨_, rfl, _, rfl, _, rfl, by show 3 ≤ sizeLine; decide, fun q0 G0 _ t0 h0 _ => ?_⟩
      refine ⟨_, rfl, _, rfl, _, rfl, _, _, rfl, rfl, by show 3 ≤ sizeLine; decide, fun q1 G1 _ t1 h1 _ => ?_⟩
      refine ⟨_, rfl, _, rfl, _, _, rfl, rfl, _, rfl, by show 3 ≤ sizeLine; decide, fun q2 G2 _ t2 h2 _ => ?_⟩
      refine ⟨_, rfl, _, rfl, _, _, rfl, rfl, _, rfl, _, _, rfl, rfl, by show 3 ≤ sizeLine; decide, fun q3 G3 _ t3 h3 _ => ?_⟩
      refine ⟨_, rfl, by show 1 ≤ sizeLine; decide, fun q4 G4 _ t4 h4 _ => ?_⟩
      refine ⟨_, rfl, _, rfl, by show 2 ≤ sizeLine; decide, fun q5 G5 _ t5 h5 _ => ?_⟩
      refine ⟨_, rfl, by show 1 ≤ sizeLine; decide, fun q6 G6 _ t6 h6 _ => ?_⟩
      refine ⟨by show 7 ≤ sizeLine; decide, fun R G7 _ t7 h7 _ => ?_⟩
      have u6 := t7
      have u5 := t6.trans u6
      have u4 := t5.trans u5
      have u3 := t4.trans u4
      have u2 := t3.trans u3
      have u1 := t2.trans u2
      have u0 := t1.trans u1
      exact ⟨R, q0, q1, q2, q3, q4, q5, q6, rfl, t0.trans u0, h7, u0 _ _ h0, u1 _ _ h1, u2 _ _ h2, u3 _ _ h3, u4 _ _ h4, u5 _ _ h5, u6 _ _ h6⟩
    rintro σ' H7 ⟨R, q0, q1, q2, q3, q4, q5, q6, rfl, s7, hR, h0, h1, h2, h3, h4, h5, h6⟩
    -- rows sorted
    let rows : List (List Int) := [[a, b, c'], [a, b, 0 - c'], [a, 0 - b, d], [a, 0 - b, 0 - d], [e], [a, b], [a]]
    have hrow : ∀ (j : Nat) (x : V), ([V.ref q0, .ref q1, .ref q2, .ref q3, .ref q4, .ref q5, .ref q6])[j]? = some x → ∃ (qa : Addr) (r : List Int), x = .ref qa ∧ rows[j]? = some r ∧ H7 qa = some (.tup (r.map V.int)) := fun j x hx => by
      match j, hx with
      | 0, hx => cases hx; exact ⟨q0, _, rfl, rfl, h0⟩
      | 1, hx => cases hx; exact ⟨q1, _, rfl, rfl, h1⟩
      | 2, hx => cases hx; exact ⟨q2, _, rfl, rfl, h2⟩
      | 3, hx => cases hx; exact ⟨q3, _, rfl, rfl, h3⟩
      | 4, hx => cases hx; exact ⟨q4, _, rfl, rfl, h4⟩
      | 5, hx => cases hx; exact ⟨q5, _, rfl, rfl, h5⟩
      | 6, hx => cases hx; exact ⟨q6, _, rfl, rfl, h6⟩
      | n + 7, hx => simp at hx
    refine Evl.q_cut (M := fun σ' H' => ∃ (D : Addr) (vs : List V) (ms : List (List Int)), σ' = [some (.ref f), some (.ref L), some (.ref S), y6, y7, some (.int a), some (.int b), some (.int c'), some (.int d), some (.int e), some (.ref D), none] ∧ Same H6' H' ∧ Lc H' D vs ms ∧ ms.length = 7 ∧ ∀ (j : Nat) (m r : List Int), ms[j]? = some m → rows[j]? = some r → m.Perm r) ?_ ?_
    · refine ⟨_, rfl, R, rfl, ⟨_, .of hR⟩, fun D nD => ?_⟩
      refine lc_list (xs := [V.ref q0, .ref q1, .ref q2, .ref q3, .ref q4, .ref q5, .ref q6]) (Pv := fun j H' => Same H7 H' ∧ ∃ (vs : List V) (ms : List (List Int)), Lc H' D vs ms ∧ ms.length = j ∧ ∀ (j : Nat) (m r : List Int), ms[j]? = some m → rows[j]? = some r → m.Perm r) ⟨same_new nD, [], [], ⟨upd_same, rfl, fun i x cs h => by simp at h⟩, rfl, fun i m r h => by simp at h⟩ (fun j H' _ p => .of (p.1 _ _ hR)) ?_ ?_
      · rintro j x H8 hx ⟨s8, vs, ms, lc, lm, pr⟩
        have lj := (List.getElem?_eq_some_iff.mp hx).1
        have lj : j < 7 := lj
        obtain ⟨qa, r, rfl, hr1, hqa⟩ := hrow j x hx
        refine ⟨rfl, _, rfl, qa, r, rfl, .of (s8 _ _ hqa), fun ns pn so p9 H9 np9 s9 hp9 _ => ⟨p9, _, rfl, .of hp9, fun p10 H10 np10 s10 hp10 _ => ?_⟩⟩
        have s810 := s9.trans s10
        have hD10 := s810 _ _ lc.1
        refine ⟨_, hD10, small1000 (by rw [lc.2.1, lm]; omega), fun b o z => by rw [upd_ne (ne_of_none z nD)]; exact s810 _ _ (s8 _ _ z), vs ++ [.ref p10], ms ++ [ns], ⟨upd_same, by rw [List.length_append, List.length_append, lc.2.1]; rfl, ix_append lc.2.1 (fun i y cs e1 e2 => ?_) ⟨p10, rfl, upd_tup hD10 _ _ hp10⟩⟩, by rw [List.length_append, lm]; rfl, fun i m r' e1 e2 => ?_⟩
        · obtain ⟨ya, ey, hya⟩ := lc.2.2 i y cs e1 e2
          exact ⟨ya, ey, upd_tup hD10 _ _ (s810 _ _ hya)⟩
        · by_cases il : i < ms.length
          · rw [List.getElem?_append_left il] at e1
            exact pr i m r' e1 e2
          · have ei : i = ms.length := by
              have := (List.getElem?_eq_some_iff.mp e1).1
              rw [List.length_append, List.length_singleton] at this
              omega
            subst ei
            rw [List.getElem?_append_right (Nat.le_refl _), Nat.sub_self] at e1
            cases e1
            rw [lm, hr1] at e2
            cases e2
            exact pn
      · rintro H8 ⟨s8, vs, ms, lc, lm, pr⟩
        exact ⟨D, vs, ms, rfl, s7.trans s8, lc, lm, pr⟩
    rintro σ' H8 ⟨D, vs, ms, rfl, s8, lc, lm, pr⟩
    obtain ⟨n0, n1, n2, n3, n4, n5, n6, rfl⟩ : ∃ n0 n1 n2 n3 n4 n5 n6, ms = [n0, n1, n2, n3, n4, n5, n6] := by
      match ms, lm with
      | [n0, n1, n2, n3, n4, n5, n6], _ => exact ⟨n0, n1, n2, n3, n4, n5, n6, rfl⟩
    obtain ⟨v0, v1, v2, v3, v4, v5, v6, rfl⟩ : ∃ v0 v1 v2 v3 v4 v5 v6, vs = [v0, v1, v2, v3, v4, v5, v6] := by
      match vs, lc.2.1 with
      | [v0, v1, v2, v3, v4, v5, v6], _ => exact ⟨v0, v1, v2, v3, v4, v5, v6, rfl⟩
    have p0 : n0.Perm [a, b, c'] := pr 0 _ _ rfl rfl
    have p1 : n1.Perm [a, b, 0 - c'] := pr 1 _ _ rfl rfl
    have p2 : n2.Perm [a, 0 - b, d] := pr 2 _ _ rfl rfl
    have p3 : n3.Perm [a, 0 - b, 0 - d] := pr 3 _ _ rfl rfl
    have p4 : n4.Perm [e] := pr 4 _ _ rfl rfl
    have p5 : n5.Perm [a, b] := pr 5 _ _ rfl rfl
    have p6 : n6.Perm [a] := pr 6 _ _ rfl rfl
    have y0 : Sy n0 := sy_perm p0 (sy_abs (by simp; omega) (by omega) (by omega) (by omega))
    have y1 : Sy n1 := sy_perm p1 (sy_abs (by simp; omega) (by omega) (by omega) (by omega))
    have y2 : Sy n2 := sy_perm p2 (sy_abs (by simp; omega) (by omega) (by omega) (by omega))
    have y3 : Sy n3 := sy_perm p3 (sy_abs (by simp; omega) (by omega) (by omega) (by omega))
    have y4 : Sy n4 := sy_perm p4 (sy_one (by omega))
    have y5 : Sy n5 := sy_perm p5 (sy_two (by omega) (by omega) (by omega))
    have y6' : Sy n6 := sy_perm p6 (sy_one (by omega))
    refine ⟨_, rfl, 5, rfl, D, _, rfl, .of lc.1, fun B5 H9 nB s9 hB5 _ => ⟨B5, _, rfl, .of hB5, fun b5 H10 nb5 s10 hb5 _ => ?_⟩⟩
    have hD10 := s10 _ _ (s9 _ _ lc.1)
    refine ⟨_, rfl, D, _, 5, v5, rfl, rfl, .of hD10, rfl, _, rfl, D, _, 6, v6, rfl, rfl, .of hD10, rfl, _, rfl, D, _, 4, v4, rfl, rfl, .of hD10, rfl, by show 3 ≤ sizeLine; decide, fun t5 H11 nt5 s11 ht5 _ => ?_⟩
    refine ⟨by show 2 ≤ sizeLine; decide, fun p5' H12 np5 s12 hp5 _ => ?_⟩
    have s812 := ((s9.trans s10).trans s11).trans s12
    have s612 := s8.trans s812
    have tp : ∀ (j : Nat) (x : V) (cs : List Int), ([v0, v1, v2, v3, v4, v5, v6])[j]? = some x → ([n0, n1, n2, n3, n4, n5, n6])[j]? = some cs → TupI H12 x cs := fun j x cs e1 e2 => (lc.2.2 j x cs e1 e2).ke (.same s812 : Ke Nof _ _)
    rw [show (5 : Int) = ((5 : Nat) : Int) from rfl, cut_to] at hb5
    refine q p5' b5 t5 [v0, v1, v2, v3, v4] [v5, v6, v4] [n0, n1, n2, n3, n4] [n5, n6, n4] H12 ((F6.same s612).mono (by omega)) (k6.trans (.same s612)) hp5 (s12 _ _ (s11 _ _ hb5)) rfl (fun j x cs e1 e2 => ?_) ⟨s12 _ _ ht5, rfl, fun j x cs e1 e2 => ?_⟩ (fun cs hc => ?_) (fun cs hc => ?_) ⟨a, b, c', d, e, n0, n1, n2, n3, n4, n5, n6, rfl, rfl, p0, p1, p2, p3, p4, p5, p6⟩
    · match j, e1, e2 with
      | 0, e1, e2 => exact tp 0 x cs e1 e2
      | 1, e1, e2 => exact tp 1 x cs e1 e2
      | 2, e1, e2 => exact tp 2 x cs e1 e2
      | 3, e1, e2 => exact tp 3 x cs e1 e2
      | 4, e1, e2 => exact tp 4 x cs e1 e2
      | n + 5, e1, _ => simp at e1
    · match j, e1, e2 with
      | 0, e1, e2 => exact tp 5 x cs e1 e2
      | 1, e1, e2 => exact tp 6 x cs e1 e2
      | 2, e1, e2 => exact tp 4 x cs e1 e2
      | n + 3, e1, _ => simp at e1
    · simp only [List.mem_cons, List.not_mem_nil, or_false] at hc
      rcases hc with rfl | rfl | rfl | rfl | rfl <;> assumption
    · simp only [List.mem_cons, List.not_mem_nil, or_false] at hc
      rcases hc with rfl | rfl | rfl <;> assumption
end
end K54
namespace K54
open PySem PySem.Spec PyProof.Rows L2 GxR Nw Dr Kp Se Cl En Fo Fd Te
/-- a list of claims, a telling perhaps -/
def LL (H : Hp) (v : V) : Prop := ∃ (p : Addr) (rvs : List V), v = .ref p ∧ H p = some (.lst rvs) ∧ GoodL H rvs ∧ rvs ≠ [] ∧ rvs.length ≤ 12
section
variable {P : Program} {w : World} {K : PySem.W.Frag} {mg : Str → Option Value} {base : Heap}
def spLaw (Po : Addr) (K : PySem.W.Frag) : Sp := fun vs H Q _ => ∃ (a : Addr) (ns : List Int), vs = [.ref a] ∧ SqL K H a (ns.map V.int) ∧ TabG H Po ∧ ∀ H', Q (.bl true) H'
theorem ok_law {f fO fD fB fT fU fE fI fP fA fR C Po : Addr} {fd fdO fdD fdB fdT fdU fdE fdI fdP fdA fdR : FuncData} (FL : Fun K "law" "law" sLaw f fd) (T : Zk mg)
    (FO : Fun K "_law_e_pen" "_law_e_pen" sOpn fO fdO) (bO : Binds K fdO ["script"] []) (gO : mg "_law_e_pen" = some (.ref fO)) (GO : FnOk P w K mg base CX0 1 fO fdO ["script"] (spOpn K))
    (FD : Fun K "_law_e_take" "_law_e_take" sDrw fD fdD) (bD : Binds K fdD ["pen", "many"] []) (gD : mg "_law_e_take" = some (.ref fD)) (GD : FnOk P w K mg base CX0 2 fD fdD ["pen", "many"] spDrw)
    (FB : Fun K "_law_e_book" "_law_e_book" sBok fB fdB) (bB : Binds K fdB ["pen", "most"] []) (gB : mg "_law_e_book" = some (.ref fB)) (GB : FnOk P w K mg base CX0 4 fB fdB ["pen", "most"] spBok)
    (FT : Fun K "_law_e_telling" "_law_e_telling" sEtl fT fdT) (bT : Binds K fdT ["pen", "book"] []) (gT : mg "_law_e_telling" = some (.ref fT)) (GT : FnOk P w K mg base CX0 3 fT fdT ["pen", "book"] spEtl)
    (FU : Fun K "_law_e_turned" "_law_e_turned" sEtu fU fdU) (bU : Binds K fdU ["pen", "telling"] []) (gU : mg "_law_e_turned" = some (.ref fU)) (GU : FnOk P w K mg base CX0 4 fU fdU ["pen", "telling"] spEtu)
    (FE : Fun K "_law_e_wrong" "_law_e_wrong" sEwr fE fdE) (bE : Binds K fdE ["book", "telling"] []) (gE : mg "_law_e_wrong" = some (.ref fE)) (GE : FnOk P w K mg base CX0 4 fE fdE ["book", "telling"] (spWrg Po))
    (FI : Fun K "_law_e_idle" "_law_e_idle" sIdl fI fdI) (bI : Binds K fdI ["pen"] []) (gI : mg "_law_e_idle" = some (.ref fI)) (GI : FnOk P w K mg base CX0 3 fI fdI ["pen"] spIdl)
    (FP : Fun K "spared" "spared" sSpa fP fdP) (bP : Binds K fdP ["book", "telling"] []) (gP : mg "spared" = some (.ref fP)) (GP : FnOk P w K mg base (L2.CX P w) 9 fP fdP ["book", "telling"] (spSpa C Po))
    (FA : Fun K "_law_e_told" "_law_e_told" sTld fA fdA) (bA : Binds K fdA ["book", "telling"] []) (gA : mg "_law_e_told" = some (.ref fA)) (GA : FnOk P w K mg base CX0 10 fA fdA ["book", "telling"] (spTld Po))
    (FR : Fun K "_law_e_spared_right" "_law_e_spared_right" sSrt fR fdR) (bR : Binds K fdR ["book", "telling", "found"] []) (gR : mg "_law_e_spared_right" = some (.ref fR)) (GR : Gx2.FnX P w K mg base CX0 5 fR fdR ["book", "telling", "found"] (spSrt Po)) :
    Gd.FnG P w K mg base 12 f fd ["script"] (spLaw Po K) := by
  refine Gd.okG FL scL (fun vs H Q E h => ?_) (fun cdv A outer s H vs Q E gd0 hr h => ?_)
  · obtain ⟨a, ns, rfl, _⟩ := h
    rfl
  · obtain ⟨a, ns, rfl, hS, tg, q⟩ := h
    have gd : (A.deeper (envOfC "law" (defScope sLaw) s.heap.objs.size f cdv)).guards = some [] := gd0
    have hr1 : Room 1 _ := hr.mono (by decide)
    have hr2 : Room 2 _ := hr.mono (by decide)
    have hr3 : Room 3 _ := hr.mono (by decide)
    have hr4 : Room 4 _ := hr.mono (by decide)
    have hr5 : Room 5 _ := hr.mono (by decide)
    have hr9 : Room 9 _ := hr.mono (by decide)
    have hr10 : Room 10 _ := hr.mono (by decide)
    refine ⟨_, (Evl.pss_cut (ps_set (i := 1) scL.nd rfl (.inl rfl) (pe_call GO hr1 (by rfl) gO FO.kp bO .nil pass0 (pa_cons (pv 0) pa_nil)))
      (Evl.pss_cut (ps_asg (pe_call GI hr3 (by rfl) gI FI.kp bI .nil pass0 (pa_cons (pv 1) pa_nil)) (pg_tup rfl (pgs_cons (pg_name (i := 2) scL.nd rfl (.inl rfl)) (pgs_cons (pg_name (i := 3) scL.nd rfl (.inl rfl)) pgs_nil))))
      (Evl.pss_cut (ps_if (PW.pt (pw_or (pt_cmpR op_notN (pe_call GE hr4 (by rfl) gE FE.kp bE .nil pass0 (pa_cons (pv 2) (pa_cons (pv 3) pa_nil))) pe_non (nomark _)) (pw_or1 (pt_cmpR (op_neD hr.units) (pe_call GP hr9 (by rfl) gP FP.kp bP .nil passF (pa_cons (pv 2) (pa_cons (pv 3) pa_nil))) (pe_slice sl_listN (pv 3) (po_some pe_int) po_none) (nomark _))))) pss_never pss_nil)
      (pss_cons (ps_for PassesOwn.never rfl (pi_range1 (by rfl) T.z_range (pa_cons pe_int pa_nil)) (pg_name (i := 4) scL.nd rfl (.inl rfl)) (Evl.pss_cut (ps_set (i := 2) scL.nd rfl (.inl rfl) (pe_call GB hr4 (by rfl) gB FB.kp bB .nil pass0 (pa_cons (pv 1) (pa_cons (pe_ix ix_list (pe_lstN (pa_cons pe_int (pa_cons pe_int (pa_cons pe_int pa_nil)))) (pe_call GD hr2 (by rfl) gD FD.kp bD .nil pass0 (pa_cons (pv 1) (pa_cons pe_int pa_nil))) (fun _ _ => rfl)) pa_nil))))
      (Evl.pss_cut (ps_set (i := 3) scL.nd rfl (.inl rfl) (pe_call GT hr3 (by rfl) gT FT.kp bT .nil pass0 (pa_cons (pv 1) (pa_cons (pv 2) pa_nil))))
      (pss_one (ps_for PassesOwn.never rfl (pi_list (pe_lstN (pa_cons (pv 3) (pa_cons (pe_call GU hr4 (by rfl) gU FU.kp bU .nil pass0 (pa_cons (pv 1) (pa_cons (pv 3) pa_nil))) (pa_cons (pv 3) pa_nil))))) (pg_name (i := 5) scL.nd rfl (.inl rfl)) (Evl.pss_cut (ps_set (i := 6) scL.nd rfl (.inl rfl) (pe_callTy call_list_ofN (by rfl) T.z_list (by decide +kernel) (pa_cons (pv 5) pa_nil)))
      (Evl.pss_cut (ps_asg (pe_call GA hr10 (by rfl) gA FA.kp bA .nil pass0 (pa_cons (pv 2) (pa_cons (pv 5) pa_nil))) (pg_tup rfl (pgs_cons (pg_name (i := 7) scL.nd rfl (.inl rfl)) (pgs_cons (pg_name (i := 8) scL.nd rfl (.inl rfl)) pgs_nil))))
      (Evl.pss_cut (ps_if (PW.pt (pw_or (pt_cmpR (op_neD hr.units) (pv 5) (pv 6) (nomark _)) (pw_or1 (pt_cmpR op_ne (pv 7) (pe_cmpR op_notN (pe_call GE hr4 (by rfl) gE FE.kp bE .nil pass0 (pa_cons (pv 2) (pa_cons (pv 5) pa_nil))) pe_non (nomark _)) (nomark _))))) pss_never pss_nil)
      (pss_one (ps_if (PW.pt (pw_or (PW.pt (pw_and (pt_not (pt_val (pv 7))) (pw_and1 (pt_not (pt_val (Gx2.pe_callX GR gd hr5 (by rfl) gR FR.kp bR .nil pass0 (pa_cons (pv 2) (pa_cons (pv 5) (pa_cons (pv 8) pa_nil))))))))) (pw_or1 (pt_cmpR (op_neD hr.units) (pv 5) (pv 6) (nomark _))))) pss_never pss_nil))))))))))
      (pss_one (ps_ret pe_bl)))))), ?_⟩
    refine Evl.q_cut (M := fun σ' H' => ∃ fe c : Addr, σ' = [some (.ref a), some (.ref fe), none, none, none, none, none, none, none] ∧ Feed H' fe c 0 ∧ TabG H' Po) ?_ ?_
    · exact ⟨.ref a, rfl, a, ns, rfl, hS, fun fe c H1 nf nc s1 F1 => ⟨fe, c, rfl, F1, (Ke.same (F := Nof) s1).tabs _ tg⟩⟩
    rintro σ' H1 ⟨fe, c, rfl, F1, t1⟩
    -- the idle book
    refine Evl.q_cut (M := fun σ' H' => ∃ (b t : Addr) (bvs tvs : List V) (css tss : List (List Int)), σ' = [some (.ref a), some (.ref fe), some (.ref b), some (.ref t), none, none, none, none, none] ∧ Feed H' fe c 20 ∧ TabG H' Po ∧ Bk H' (.ref b) css ∧ Lc H' t tvs tss ∧ (∀ cs ∈ css, Sy cs) ∧ (∀ cs ∈ tss, Sy cs) ∧ Idl css tss) ?_ ?_
    · refine ⟨_, rfl, fe, c, 0, rfl, F1, by decide, fun p b t bvs tvs css tss H2 F2 k2 hp hb lv hv lc sb st id => ?_⟩
      exact ⟨p, _, rfl, .of hp, rfl, _, _, rfl, _, _, rfl, rfl, b, t, bvs, tvs, css, tss, rfl, F2, k2.tabs _ t1, ⟨b, bvs, rfl, hb, lv, hv⟩, lc, sb, st, id⟩
    rintro σ' H2 ⟨b, t, bvs, tvs, css, tss, rfl, F2, t2, hb, lc, sb, st, id⟩
    have lcs : css.length = 5 ∧ tss.length = 3 := by
      obtain ⟨_, _, _, _, _, _, _, _, _, _, _, _, rfl, rfl, _⟩ := id.ex
      exact ⟨rfl, rfl⟩
    refine Evl.q_cut (M := fun σ' H' => σ' = [some (.ref a), some (.ref fe), some (.ref b), some (.ref t), none, none, none, none, none] ∧ Ke Nof H2 H') ?_ ?_
    · refine ⟨_, rfl, _, rfl, .ref b, t, tvs, css, tss, rfl, hb, lc, sb, st, by omega, by omega, t2, fun H3 n k3 wn _ => (wn.no id.tell).elim, fun H3 k3 _ => ⟨rfl, false, rfl, ?_⟩⟩
      refine ⟨_, rfl, _, rfl, .ref b, t, tvs, css, tss, rfl, hb.ke k3, lc.ke k3, sb, st, by omega, fun z => ?_, by omega, k3.tabs _ t2, fun H4 p rvs rss k4 fr lr pt _ nr fa => ?_, fun H4 k4 nn => absurd id.tell nn⟩
      · rw [z] at lcs
        exact absurd lcs.2 (by decide)
      have e := id.res pt fa
      subst e
      have k34 := k3.trans k4
      have lc4 := lc.ke k34
      refine ⟨_, rfl, 2, rfl, t, _, rfl, .of lc4.1, fun q5 H5 nq5 s5 hq5 _ => ?_⟩
      rw [show (2 : Int) = ((2 : Nat) : Int) from rfl, cut_from] at hq5
      have lr5 := lr.ke (.same s5)
      have dd : DpAll K H5 (tvs.drop 2) ((tss.drop 2).map cdat) := dp_cls (by rw [List.length_drop, List.length_drop, lc.2.1]) fun i x cs e1 e2 => by
        rw [List.getElem?_drop] at e1 e2
        exact (lc4.2.2 _ x cs e1 e2).ke (.same s5 : Ke Nof _ _)
      exact ⟨_, _, .lst (.of lr5.1) (dp_cls lr5.2.1 lr5.2.2), .lst (.of hq5) dd, shaped_cls _, shaped_cls _, false, bl_f (by rw [eqv_self (shaped_cls _)]; rfl), rfl, k34.trans (.same s5)⟩
    rintro σ' H3 ⟨rfl, k3⟩
    have F3 := k3.feed F2
    have t3 := k3.tabs _ t2
    clear t1 F1 hb lc sb st id lcs k3 t2 F2
    -- the loop
    refine ⟨4, rfl, by decide, by decide, for_range (Pv := fun i σ H' => ∃ y2 y3 y4 y5 y6 y7 y8 : Option V, σ = [some (.ref a), some (.ref fe), y2, y3, y4, y5, y6, y7, y8] ∧ Feed H' fe c (20 + 1000 * i) ∧ TabG H' Po) ?_ ?_ ?_⟩
    · exact ⟨_, _, _, _, _, _, _, rfl, F3, t3⟩
    · clear F3 t3 H3 H2 H1 b t
      rintro i σ H2 hi ⟨y2, y3, y4, y5, y6, y7, y8, rfl, F2, t2⟩
      have hi : i < 4 := hi
      -- book
      refine Evl.q_cut (M := fun σ' H' => ∃ (b : Addr) (bvs : List V) (css : List (List Int)), σ' = [some (.ref a), some (.ref fe), some (.ref b), y3, some (.int (0 + (i : Int))), y5, y6, y7, y8] ∧ Feed H' fe c (20 + 1000 * i + 501) ∧ TabG H' Po ∧ H' b = some (.tup bvs) ∧ bvs.length = css.length ∧ (∀ (i : Nat) (x : V) (cs : List Int), bvs[i]? = some x → css[i]? = some cs → TupI H' x cs) ∧ (∀ cs ∈ css, Sy cs) ∧ 1 ≤ css.length ∧ css.length ≤ 16) ?_ ?_
      · refine ⟨_, rfl, by show 3 ≤ sizeLine; decide, fun p3 H3 np3 s3 hp3 _ => ⟨_, rfl, fe, c, 3, _, rfl, by decide, by decide, F2.same s3, by omega, fun e H4 e0 e1 F4 k4 => ?_⟩⟩
        have pk : ∃ mm : Int, 1 ≤ mm ∧ mm ≤ 8 ∧ atI [V.int 3, V.int 5, V.int 8] e = some (.int mm) := by
          have three : e = 0 ∨ e = 1 ∨ e = 2 := by omega
          rcases three with rfl | rfl | rfl <;> exact ⟨_, by decide, by decide, rfl⟩
        obtain ⟨mm, mm0, mm1, ha⟩ := pk
        refine ⟨p3, _, e, .int mm, rfl, rfl, .of (k4.lst hp3 (F2.nf np3)), ha, fe, c, mm, _, rfl, mm0, mm1, F4, by omega, fun css p H5 F5 k5 _ b5 o5 l5 m5 => ?_⟩
        obtain ⟨b, bvs, e1, hb, lv, hv⟩ := b5
        cases e1
        exact ⟨p, bvs, css, rfl, F5.mono (by omega), k5.tabs _ (k4.tabs _ ((Ke.same (F := Nof) s3).tabs _ t2)), hb, lv, hv, fun cs hc => .of (o5 cs hc).1, l5, m5⟩
      rintro σ' H3 ⟨b, bvs, css, rfl, F3, t3, hb, lv, hv, sb, l1, l16⟩
      -- telling
      refine Evl.q_cut (M := fun σ' H' => ∃ (t : Addr) (tvs : List V), σ' = [some (.ref a), some (.ref fe), some (.ref b), some (.ref t), some (.int (0 + (i : Int))), y5, y6, y7, y8] ∧ Feed H' fe c (20 + 1000 * i + 701) ∧ Ke (· = fe) H3 H' ∧ H' t = some (.lst tvs) ∧ GoodL H' tvs ∧ tvs ≠ [] ∧ tvs.length ≤ 12) ?_ ?_
      · refine ⟨_, rfl, _, rfl, fe, c, b, _, bvs, rfl, F3, by omega, hb, good_of lv hv sb, fun z => ?_, by omega, fun p tvs H4 F4 k4 _ hp g4 n4 l4 => ⟨p, tvs, rfl, F4, k4, hp, g4, n4, l4⟩⟩
        rw [z] at lv
        simp at lv
        omega
      rintro σ' H4 ⟨t, tvs, rfl, F4, k4, ht, gt, nt, lt⟩
      have ntf := good_nf F4 ht gt
      -- all tellings
      refine ⟨_, rfl, _, rfl, _, rfl, fe, c, t, _, tvs, rfl, F4, by omega, ht, gt, nt, lt, fun p7 rvs7 H6 F6 k6 fr7 hp7 g7 n7 l7 => ?_⟩
      refine ⟨_, rfl, by show 3 ≤ sizeLine; decide, fun Z H7 nZ s7 hZ _ => ?_⟩
      have lt7 : LL H7 (.ref t) := ⟨t, tvs, rfl, s7 _ _ (k6.lst ht ntf), (gt.tups k6.tups).tups fun b xs h => s7 _ _ h, nt, lt⟩
      have hall : ∀ v ∈ [V.ref t, V.ref p7, V.ref t], LL H7 v := fun v hv => by
        simp only [List.mem_cons, List.not_mem_nil, or_false] at hv
        rcases hv with rfl | rfl | rfl
        · exact lt7
        · exact ⟨p7, rvs7, rfl, s7 _ _ hp7, g7.tups fun b xs h => s7 _ _ h, n7, l7⟩
        · exact lt7
      have k37 : Ke (· = fe) H3 H7 := k4.trans (k6.trans (.same s7))
      have hb7 := k37.tups _ _ hb
      have hv7 : ∀ (i : Nat) (x : V) (cs : List Int), bvs[i]? = some x → css[i]? = some cs → TupI H7 x cs := fun i x cs e1 e2 => (hv i x cs e1 e2).ke k37
      have t7 := k37.tabs _ t3
      have F7 := F6.same s7
      refine ⟨Z, rfl, ⟨_, .of hZ⟩, for_list (K := K) (a := Z) (xs := [V.ref t, V.ref p7, V.ref t]) (Pv := fun j σ H' => ∃ y5 y6 y7 y8 : Option V, σ = [some (.ref a), some (.ref fe), some (.ref b), some (.ref t), some (.int (0 + (i : Int))), y5, y6, y7, y8] ∧ Ke Nof H7 H') ?_ (fun j σ H' _ p => ?_) ?_ ?_⟩
      · exact ⟨y5, y6, y7, y8, rfl, .refl _ _⟩
      · obtain ⟨_, _, _, _, _, kk⟩ := p
        exact .of (kk.lst hZ fun z => z)
      · clear y5 y6 y7 y8
        rintro j v σ H8 hv8 ⟨y5, y6, y7, y8, rfl, k8⟩
        obtain ⟨p, rvs, rfl, hp, gp, np, lp⟩ := hall v (List.mem_of_getElem? hv8)
        have hp8 := k8.lst hp fun z => z
        refine Evl.q_cut (M := fun σ' H' => ∃ kp, σ' = [some (.ref a), some (.ref fe), some (.ref b), some (.ref t), some (.int (0 + (i : Int))), some (.ref p), some (.ref kp), y7, y8] ∧ Same H8 H' ∧ H' kp = some (.lst rvs)) ?_ ?_
        · exact ⟨_, rfl, p, _, rfl, .inl (.of hp8), fun kp H9 nk s9 hk _ => ⟨kp, rfl, s9, hk⟩⟩
        rintro σ' H9 ⟨kp, rfl, s9, hk⟩
        have k9 : Ke Nof H7 H9 := k8.trans (.same s9)
        obtain ⟨tss, lts, tts, sts⟩ := good_css gp
        have ltn : tss ≠ [] := fun z => by
          rw [z] at lts
          exact np (List.eq_nil_of_length_eq_zero lts)
        have bk9 : ∀ {H' : Hp}, Ke Nof H7 H' → Bk H' (.ref b) css := fun {H'} k => ⟨b, bvs, rfl, k.tups _ _ hb7, lv, fun i x cs e1 e2 => (hv7 i x cs e1 e2).ke k⟩
        have lc9 : ∀ {H' : Hp}, Ke Nof H7 H' → Lc H' p rvs tss := fun {H'} k => ⟨k.lst hp fun z => z, lts, fun i x cs e1 e2 => (tts i x cs e1 e2).ke k⟩
        have last : ∀ {H' : Hp}, Ke Nof H9 H' → (∃ d e, Dp K H' (.ref p) d ∧ Dp K H' (.ref kp) e ∧ SeqAt.shaped d = true ∧ SeqAt.shaped e = true ∧ (!PyData.eqv d e) = false) := fun {H'} k => by
          have z := lc9 (k9.trans k)
          exact ⟨_, _, .lst (.of z.1) (dp_cls z.2.1 z.2.2), .lst (.of (k.lst hk fun z => z)) (dp_cls z.2.1 z.2.2), shaped_cls _, shaped_cls _, by rw [eqv_self (shaped_cls _)]; rfl⟩
        -- refused, found
        refine Evl.q_cut (M := fun σ' H' => Ke Nof H9 H' ∧ ((∃ (r : Addr) (fvs : List V) (rss : List (List Int)), σ' = [some (.ref a), some (.ref fe), some (.ref b), some (.ref t), some (.int (0 + (i : Int))), some (.ref p), some (.ref kp), some (.bl false), some (.ref r)] ∧ Frs H9 r ∧ Lc H' r fvs rss ∧ Part tss 0 rss ∧ NoWr css tss ∧ NoWr css rss ∧ Fast css [] rss) ∨ (σ' = [some (.ref a), some (.ref fe), some (.ref b), some (.ref t), some (.int (0 + (i : Int))), some (.ref p), some (.ref kp), some (.bl true), some .non] ∧ ¬ NoWr css tss))) ?_ ?_
        · refine ⟨_, rfl, _, rfl, .ref b, p, rvs, css, tss, rfl, bk9 k9, lc9 k9, sb, sts, by omega, ltn, by omega, k9.tabs _ t7, fun H10 u r fvs rss k10 hu fr lr pt nw nr fa => ?_, fun H10 u k10 hu nn => ?_⟩
          · exact ⟨u, _, rfl, .of hu, rfl, _, _, rfl, _, _, rfl, rfl, k10, .inl ⟨r, fvs, rss, rfl, fr, lr, pt, nw, nr, fa⟩⟩
          · exact ⟨u, _, rfl, .of hu, rfl, _, _, rfl, _, _, rfl, rfl, k10, .inr ⟨rfl, nn⟩⟩
        rintro σ' H10 ⟨k10, ⟨r, fvs, rss, rfl, fr, lr, pt, nw, nr, fa⟩ | ⟨rfl, nn⟩⟩
        · have k910 := k9.trans k10
          -- refused as due
          refine Evl.q_cut (M := fun σ' H' => σ' = [some (.ref a), some (.ref fe), some (.ref b), some (.ref t), some (.int (0 + (i : Int))), some (.ref p), some (.ref kp), some (.bl false), some (.ref r)] ∧ Ke Nof H10 H') ?_ ?_
          · obtain ⟨d, e, d1, d2, d3, d4, d5⟩ := last k10
            refine ⟨_, rfl, _, rfl, d, e, d1, d2, d3, d4, false, bl_f d5, ?_⟩
            refine ⟨_, rfl, _, rfl, _, rfl, .ref b, p, rvs, css, tss, rfl, bk9 k910, lc9 k910, sb, sts, by omega, by omega, k910.tabs _ t7, fun H11 n k11 wn _ => (wn.no nw).elim, fun H11 k11 _ => ?_⟩
            exact ⟨rfl, rfl, false, rfl, rfl, k11⟩
          rintro σ' H11 ⟨rfl, k11⟩
          have k911 := k910.trans k11
          refine ⟨_, rfl, false, rfl, ?_⟩
          refine ⟨_, rfl, _, rfl, _, rfl, .ref b, p, r, rvs, fvs, css, tss, rss, rfl, bk9 k911, lc9 k911, lr.ke k11, sb, sts, by omega, by omega, k911.tabs _ t7, pt, nr, fa, fun H12 k12 => ⟨true, rfl, ?_⟩⟩
          have k1012 : Ke Nof H9 H12 := Te.Ke.thru (k10.trans k11) k12 fr
          obtain ⟨d, e, d1, d2, d3, d4, d5⟩ := last k1012
          exact ⟨_, rfl, _, rfl, d, e, d1, d2, d3, d4, false, bl_f d5, _, _, _, _, rfl, k9.trans k1012⟩
        · have k910 := k9.trans k10
          refine Evl.q_cut (M := fun σ' H' => σ' = [some (.ref a), some (.ref fe), some (.ref b), some (.ref t), some (.int (0 + (i : Int))), some (.ref p), some (.ref kp), some (.bl true), some .non] ∧ Ke Nof H10 H') ?_ ?_
          · obtain ⟨d, e, d1, d2, d3, d4, d5⟩ := last k10
            refine ⟨_, rfl, _, rfl, d, e, d1, d2, d3, d4, false, bl_f d5, ?_⟩
            refine ⟨_, rfl, _, rfl, _, rfl, .ref b, p, rvs, css, tss, rfl, bk9 k910, lc9 k910, sb, sts, by omega, by omega, k910.tabs _ t7, fun H11 n k11 wn _ => ?_, fun H11 k11 nw => absurd nw nn⟩
            exact ⟨rfl, rfl, false, rfl, rfl, k11⟩
          rintro σ' H11 ⟨rfl, k11⟩
          refine ⟨_, rfl, true, rfl, ?_⟩
          obtain ⟨d, e, d1, d2, d3, d4, d5⟩ := last (k10.trans k11)
          exact ⟨_, rfl, _, rfl, d, e, d1, d2, d3, d4, false, bl_f d5, _, _, _, _, rfl, k910.trans k11⟩
      · rintro σ H8 ⟨z5, z6, z7, z8, rfl, k8⟩
        exact ⟨_, _, _, _, _, _, _, rfl, (k8.feed F7).mono (by omega), k8.tabs _ t7⟩
    · rintro σ H2 ⟨y2, y3, y4, y5, y6, y7, y8, rfl, F2, t2⟩
      exact q H2
end
end K54
namespace Eg
open PySem PySem.Spec PyProof.Rows L2 GxR Nw Dr Kp
/-! ### the end of a law that shows lists: defs whose code objects have tables -/
/-- what stands where a def's code object has its table -/
abbrev Own (K : PySem.W.Frag) (h : Heap) (mg : Str → Option Value) (ys : List Str) : Prop := ∀ y ∈ ys, ∀ f, mg y = some (.ref f) → LamX.OwnTab K f h
/-- what is to be known of a law at the heap h -/
def LawG (l : PySem.W.OpenLaw) (w : World) (K : PySem.W.Frag) (k m : Nat) (x : Str) (mg : Str → Option Value) (g : Addr) (h : Heap) : Prop :=
  ∃ (fd : FuncData) (cs : List (Addr × Addr)) (sp : Sp), (∀ p ∈ cs, h.get? p.2 = some (PySem.W.tabObj #[])) ∧ (∀ p ∈ cs, K.lookup p.2 = none) ∧ (∀ p ∈ cs, PySem.W.CodeHd h p.1 p.2) ∧ (∀ (s : Shared) (u : Value), BindsTo s fd ⟨[u], []⟩ [(x, u)]) ∧
    (∀ (H : Hp) (a : Addr) (ns : List Int), ns.length ≤ m → (∀ p ∈ cs, H p.2 = some (.tbl #[])) → SqL K H a (ns.map V.int) → sp [.ref a] H (fun v _ => v = .bl true) fun _ _ _ => False) ∧
    ∀ base : Heap, K.In base → base.Ns mainGlobals mg → (∀ p ∈ cs, LamX.TabB base mg p.1 p.2) → Gd.FnG l.prog w K mg base k g fd [x] sp
theorem walk_own {l : PySem.W.OpenLaw} {m k : Nat} {pr : Program} {ls : List Str} {XP : (Str → Option Value) → Heap → Prop} {YP : World → Heap → Prop} {d : DefRec} {K : Params → PySem.W.Frag} {x : Str} (ys : List Str)
    (e1 : l.most = some m) (e2 : m ≤ sizeLine) (e3 : d.params.defaults = []) (room : Room k callerA) (named : ∀ y ∈ ys, ((recsOf pr).any fun e => e.name == y) = true) (inK : ∀ (w : World) (h : Heap), YP w h → (K w.params).In h)
    (go : ∀ (w : World) (mg : Str → Option Value) (g : Addr) (h : Heap), YP w h → (K w.params).In h → h.Ns mainGlobals mg → mg d.name = some (.ref g) → Own (K w.params) h mg ys → LawG l w (K w.params) k m x mg g h) :
    PySem.W.WalkO pr ls XP YP l.row.toRowW d [] (fun f vs => PySem.call f vs) := by
  refine Att.attach_callB e1 e3 fun w s0 s1 mg mb fa o pm cd doc a us ns G Y ho hd hcd hmg hobj hints hlen hbits hg => ?_
  have inH := inK w _ Y
  have tabs : Own (K w.params) s1.heap mg ys := fun y hy f hf c P ob fd e dd vs sl q1 q2 q3 q4 q5 => by
    obtain ⟨r, hr1, hr2⟩ := List.any_eq_true.mp (named y hy)
    obtain ⟨f', ob', fd', c', P', t1, t2, t3, t4, t5, ⟨⟨oc, vc, u1, _, u3, u4⟩, u5⟩⟩ := G.T.tab r hr1
    rw [show r.name = y from beq_iff_eq.mp hr2, hf] at t1
    cases t1
    rw [inH _ _ q1] at t2
    cases t2
    rw [q2] at t3
    cases t3
    rw [q3] at t4
    cases t4
    rw [inH _ _ q4] at u1
    cases u1
    cases u3
    rw [q5] at u4
    cases u4
    exact u5
  obtain ⟨fd, cs, sp, h1, h2, h3, h4, h5, h6⟩ := go w mg fa _ Y inH G.T.g hmg tabs
  exact Gd.law_at inH G.T.g G.T.b G.T.builtins G.T.nolimit hg h1 h2 h3 G.T.bmain hobj hints (Nat.le_trans hlen e2) room h6 h4 fun H z1 z2 => h5 H a ns hlen z1 z2
end Eg
namespace K54
open PySem PySem.Spec PyProof.Rows L2 GxR Nw Dr Kp Se Cl En Fo Fd Te Eg
theorem all_mk {l : PySem.W.OpenLaw} {w : World} {K : PySem.W.Frag} {h : Heap} {mg : Str → Option Value} {top : Addr} (X : K.In h) (G : h.Ns mainGlobals mg) (htop : mg "law" = some (.ref top)) (ow : Own K h mg ["falls"]) {fM fD fO fC fB fl fc fe fw fu ft fr fY fA fS fF fP fb fW fk fp fi fd fq fI fL gH cH PH : Addr}
    {od_fM an_fM : Option Addr} {sl_fM : Array (Option Value)} {oc_fM kV_fM dc_fM pm_fM ct_fM : Value} {cd_fM : Value} {od_fD an_fD : Option Addr} {sl_fD : Array (Option Value)} {oc_fD kV_fD dc_fD pm_fD ct_fD : Value} {cd_fD : Value} {od_fO an_fO : Option Addr} {sl_fO : Array (Option Value)} {oc_fO kV_fO dc_fO pm_fO ct_fO : Value} {cd_fO : Value} {od_fC an_fC : Option Addr} {sl_fC : Array (Option Value)} {oc_fC kV_fC dc_fC pm_fC ct_fC : Value} {cd_fC : Value} {od_fB an_fB : Option Addr} {sl_fB : Array (Option Value)} {oc_fB kV_fB dc_fB pm_fB ct_fB : Value} {cd_fB : Value} {od_fl an_fl : Option Addr} {sl_fl : Array (Option Value)} {oc_fl kV_fl dc_fl pm_fl ct_fl : Value} {cd_fl : Value} {od_fc an_fc : Option Addr} {sl_fc : Array (Option Value)} {oc_fc kV_fc dc_fc pm_fc ct_fc : Value} {cd_fc : Value} {od_fe an_fe : Option Addr} {sl_fe : Array (Option Value)} {oc_fe kV_fe dc_fe pm_fe ct_fe : Value} {cd_fe : Value} {od_fw an_fw : Option Addr} {sl_fw : Array (Option Value)} {oc_fw kV_fw dc_fw pm_fw ct_fw : Value} {cd_fw : Value} {od_fu an_fu : Option Addr} {sl_fu : Array (Option Value)} {oc_fu kV_fu dc_fu pm_fu ct_fu : Value} {cd_fu : Value} {od_ft an_ft : Option Addr} {sl_ft : Array (Option Value)} {oc_ft kV_ft dc_ft pm_ft ct_ft : Value} {cd_ft : Value} {od_fr an_fr : Option Addr} {sl_fr : Array (Option Value)} {oc_fr kV_fr dc_fr pm_fr ct_fr : Value} {cd_fr : Value} {od_fY an_fY : Option Addr} {sl_fY : Array (Option Value)} {oc_fY kV_fY dc_fY pm_fY ct_fY : Value} {cd_fY : Value} {od_fA an_fA : Option Addr} {sl_fA : Array (Option Value)} {oc_fA kV_fA dc_fA pm_fA ct_fA : Value} {cd_fA : Value} {od_fS an_fS : Option Addr} {sl_fS : Array (Option Value)} {oc_fS kV_fS dc_fS pm_fS ct_fS : Value} {cd_fS : Value} {od_fF an_fF : Option Addr} {sl_fF : Array (Option Value)} {oc_fF kV_fF dc_fF pm_fF ct_fF : Value} {cd_fF : Value} {od_fP an_fP : Option Addr} {sl_fP : Array (Option Value)} {oc_fP kV_fP dc_fP pm_fP ct_fP : Value} {cd_fP : Value} {od_fb an_fb : Option Addr} {sl_fb : Array (Option Value)} {oc_fb kV_fb dc_fb pm_fb ct_fb : Value} {cd_fb : Value} {od_fW an_fW : Option Addr} {sl_fW : Array (Option Value)} {oc_fW kV_fW dc_fW pm_fW ct_fW : Value} {cd_fW : Value} {od_fk an_fk : Option Addr} {sl_fk : Array (Option Value)} {oc_fk kV_fk dc_fk pm_fk ct_fk : Value} {cd_fk : Value} {od_fp an_fp : Option Addr} {sl_fp : Array (Option Value)} {oc_fp kV_fp dc_fp pm_fp ct_fp : Value} {cd_fp : Value} {od_fi an_fi : Option Addr} {sl_fi : Array (Option Value)} {oc_fi kV_fi dc_fi pm_fi ct_fi : Value} {cd_fi : Value} {od_fd an_fd : Option Addr} {sl_fd : Array (Option Value)} {oc_fd kV_fd dc_fd pm_fd ct_fd : Value} {cd_fd : Value} {od_fq an_fq : Option Addr} {sl_fq : Array (Option Value)} {oc_fq kV_fq dc_fq pm_fq ct_fq : Value} {cd_fq : Value} {od_fI an_fI : Option Addr} {sl_fI : Array (Option Value)} {oc_fI kV_fI dc_fI pm_fI ct_fI : Value} {cd_fI : Value} {od_fL an_fL : Option Addr} {sl_fL : Array (Option Value)} {oc_fL kV_fL dc_fL pm_fL ct_fL : Value} {cd_fL : Value} {od_gH an_gH : Option Addr} {sl_gH : Array (Option Value)} {oc_gH kV_gH dc_gH pm_gH ct_gH : Value} {e_H : Value} {dd_H : Option Addr} {vs_H : Array Value} {sf_H : Array (Option Value)} {tk_MOST_TOLD : Tok}
    {CC : Addr}
    (b_fM : PySem.W.nsIn K mainGlobals "_law_e_fresh" = some (some (.ref fM)))
    (l_fM : K.lookup fM = some ⟨oc_fM, od_fM, .func (PySem.W.fnOf "_law_e_fresh" "_law_e_fresh" (defArgs sFre) (defBody sFre) (defScope sFre) .none kV_fM dc_fM pm_fM an_fM cd_fM ct_fM), sl_fM⟩)
    (c_fM : PySem.W.codeIn K cd_fM "_law_e_fresh" = true)
    (k_fM : PySem.W.keepIn K (.ref fM) = true)
    (b_fD : PySem.W.nsIn K mainGlobals "_law_e_take" = some (some (.ref fD)))
    (l_fD : K.lookup fD = some ⟨oc_fD, od_fD, .func (PySem.W.fnOf "_law_e_take" "_law_e_take" (defArgs sDrw) (defBody sDrw) (defScope sDrw) .none kV_fD dc_fD pm_fD an_fD cd_fD ct_fD), sl_fD⟩)
    (c_fD : PySem.W.codeIn K cd_fD "_law_e_take" = true)
    (k_fD : PySem.W.keepIn K (.ref fD) = true)
    (b_fO : PySem.W.nsIn K mainGlobals "_law_e_pen" = some (some (.ref fO)))
    (l_fO : K.lookup fO = some ⟨oc_fO, od_fO, .func (PySem.W.fnOf "_law_e_pen" "_law_e_pen" (defArgs sOpn) (defBody sOpn) (defScope sOpn) .none kV_fO dc_fO pm_fO an_fO cd_fO ct_fO), sl_fO⟩)
    (c_fO : PySem.W.codeIn K cd_fO "_law_e_pen" = true)
    (k_fO : PySem.W.keepIn K (.ref fO) = true)
    (b_fC : PySem.W.nsIn K mainGlobals "_law_e_claim" = some (some (.ref fC)))
    (l_fC : K.lookup fC = some ⟨oc_fC, od_fC, .func (PySem.W.fnOf "_law_e_claim" "_law_e_claim" (defArgs sClm) (defBody sClm) (defScope sClm) .none kV_fC dc_fC pm_fC an_fC cd_fC ct_fC), sl_fC⟩)
    (c_fC : PySem.W.codeIn K cd_fC "_law_e_claim" = true)
    (k_fC : PySem.W.keepIn K (.ref fC) = true)
    (b_fB : PySem.W.nsIn K mainGlobals "_law_e_book" = some (some (.ref fB)))
    (l_fB : K.lookup fB = some ⟨oc_fB, od_fB, .func (PySem.W.fnOf "_law_e_book" "_law_e_book" (defArgs sBok) (defBody sBok) (defScope sBok) .none kV_fB dc_fB pm_fB an_fB cd_fB ct_fB), sl_fB⟩)
    (c_fB : PySem.W.codeIn K cd_fB "_law_e_book" = true)
    (k_fB : PySem.W.keepIn K (.ref fB) = true)
    (b_fl : PySem.W.nsIn K mainGlobals "_law_e_left" = some (some (.ref fl)))
    (l_fl : K.lookup fl = some ⟨oc_fl, od_fl, .func (PySem.W.fnOf "_law_e_left" "_law_e_left" (defArgs sElf) (defBody sElf) (defScope sElf) .none kV_fl dc_fl pm_fl an_fl cd_fl ct_fl), sl_fl⟩)
    (c_fl : PySem.W.codeIn K cd_fl "_law_e_left" = true)
    (k_fl : PySem.W.keepIn K (.ref fl) = true)
    (b_fc : PySem.W.nsIn K mainGlobals "_law_e_closed" = some (some (.ref fc)))
    (l_fc : K.lookup fc = some ⟨oc_fc, od_fc, .func (PySem.W.fnOf "_law_e_closed" "_law_e_closed" (defArgs sClo) (defBody sClo) (defScope sClo) .none kV_fc dc_fc pm_fc an_fc cd_fc ct_fc), sl_fc⟩)
    (c_fc : PySem.W.codeIn K cd_fc "_law_e_closed" = true)
    (k_fc : PySem.W.keepIn K (.ref fc) = true)
    (b_fe : PySem.W.nsIn K mainGlobals "_law_e_falls" = some (some (.ref fe)))
    (l_fe : K.lookup fe = some ⟨oc_fe, od_fe, .func (PySem.W.fnOf "_law_e_falls" "_law_e_falls" (defArgs sEfa) (defBody sEfa) (defScope sEfa) .none kV_fe dc_fe pm_fe an_fe cd_fe ct_fe), sl_fe⟩)
    (c_fe : PySem.W.codeIn K cd_fe "_law_e_falls" = true)
    (k_fe : PySem.W.keepIn K (.ref fe) = true)
    (b_fw : PySem.W.nsIn K mainGlobals "_law_e_wrong" = some (some (.ref fw)))
    (l_fw : K.lookup fw = some ⟨oc_fw, od_fw, .func (PySem.W.fnOf "_law_e_wrong" "_law_e_wrong" (defArgs sEwr) (defBody sEwr) (defScope sEwr) .none kV_fw dc_fw pm_fw an_fw cd_fw ct_fw), sl_fw⟩)
    (c_fw : PySem.W.codeIn K cd_fw "_law_e_wrong" = true)
    (k_fw : PySem.W.keepIn K (.ref fw) = true)
    (b_fu : PySem.W.nsIn K mainGlobals "_law_e_cut" = some (some (.ref fu)))
    (l_fu : K.lookup fu = some ⟨oc_fu, od_fu, .func (PySem.W.fnOf "_law_e_cut" "_law_e_cut" (defArgs sEcu) (defBody sEcu) (defScope sEcu) .none kV_fu dc_fu pm_fu an_fu cd_fu ct_fu), sl_fu⟩)
    (c_fu : PySem.W.codeIn K cd_fu "_law_e_cut" = true)
    (k_fu : PySem.W.keepIn K (.ref fu) = true)
    (b_ft : PySem.W.nsIn K mainGlobals "_law_e_telling" = some (some (.ref ft)))
    (l_ft : K.lookup ft = some ⟨oc_ft, od_ft, .func (PySem.W.fnOf "_law_e_telling" "_law_e_telling" (defArgs sEtl) (defBody sEtl) (defScope sEtl) .none kV_ft dc_ft pm_ft an_ft cd_ft ct_ft), sl_ft⟩)
    (c_ft : PySem.W.codeIn K cd_ft "_law_e_telling" = true)
    (k_ft : PySem.W.keepIn K (.ref ft) = true)
    (b_fr : PySem.W.nsIn K mainGlobals "_law_e_turned" = some (some (.ref fr)))
    (l_fr : K.lookup fr = some ⟨oc_fr, od_fr, .func (PySem.W.fnOf "_law_e_turned" "_law_e_turned" (defArgs sEtu) (defBody sEtu) (defScope sEtu) .none kV_fr dc_fr pm_fr an_fr cd_fr ct_fr), sl_fr⟩)
    (c_fr : PySem.W.codeIn K cd_fr "_law_e_turned" = true)
    (k_fr : PySem.W.keepIn K (.ref fr) = true)
    (b_fY : PySem.W.nsIn K mainGlobals "forced_say" = some (some (.ref fY)))
    (l_fY : K.lookup fY = some ⟨oc_fY, od_fY, .func (PySem.W.fnOf "forced_say" "forced_say" (defArgs sFsy) (defBody sFsy) (defScope sFsy) .none kV_fY dc_fY pm_fY an_fY cd_fY ct_fY), sl_fY⟩)
    (c_fY : PySem.W.codeIn K cd_fY "forced_say" = true)
    (k_fY : PySem.W.keepIn K (.ref fY) = true)
    (b_fA : PySem.W.nsIn K mainGlobals "first_fall" = some (some (.ref fA)))
    (l_fA : K.lookup fA = some ⟨oc_fA, od_fA, .func (PySem.W.fnOf "first_fall" "first_fall" (defArgs sFfa) (defBody sFfa) (defScope sFfa) .none kV_fA dc_fA pm_fA an_fA cd_fA ct_fA), sl_fA⟩)
    (c_fA : PySem.W.codeIn K cd_fA "first_fall" = true)
    (k_fA : PySem.W.keepIn K (.ref fA) = true)
    (b_fS : PySem.W.nsIn K mainGlobals "first_step" = some (some (.ref fS)))
    (l_fS : K.lookup fS = some ⟨oc_fS, od_fS, .func (PySem.W.fnOf "first_step" "first_step" (defArgs sFst) (defBody sFst) (defScope sFst) .none kV_fS dc_fS pm_fS an_fS cd_fS ct_fS), sl_fS⟩)
    (c_fS : PySem.W.codeIn K cd_fS "first_step" = true)
    (k_fS : PySem.W.keepIn K (.ref fS) = true)
    (b_fF : PySem.W.nsIn K mainGlobals "forced" = some (some (.ref fF)))
    (l_fF : K.lookup fF = some ⟨oc_fF, od_fF, .func (PySem.W.fnOf "forced" "forced" (defArgs sFod) (defBody sFod) (defScope sFod) .none kV_fF dc_fF pm_fF an_fF cd_fF ct_fF), sl_fF⟩)
    (c_fF : PySem.W.codeIn K cd_fF "forced" = true)
    (k_fF : PySem.W.keepIn K (.ref fF) = true)
    (b_fP : PySem.W.nsIn K mainGlobals "opposites" = some (some (.ref fP)))
    (l_fP : K.lookup fP = some ⟨oc_fP, od_fP, .func (PySem.W.fnOf "opposites" "opposites" (defArgs sOpp) (defBody sOpp) (defScope sOpp) .none kV_fP dc_fP pm_fP an_fP cd_fP ct_fP), sl_fP⟩)
    (c_fP : PySem.W.codeIn K cd_fP "opposites" = true)
    (k_fP : PySem.W.keepIn K (.ref fP) = true)
    (b_fb : PySem.W.nsIn K mainGlobals "follows_by_force" = some (some (.ref fb)))
    (l_fb : K.lookup fb = some ⟨oc_fb, od_fb, .func (PySem.W.fnOf "follows_by_force" "follows_by_force" (defArgs sFbf) (defBody sFbf) (defScope sFbf) .none kV_fb dc_fb pm_fb an_fb cd_fb ct_fb), sl_fb⟩)
    (c_fb : PySem.W.codeIn K cd_fb "follows_by_force" = true)
    (k_fb : PySem.W.keepIn K (.ref fb) = true)
    (b_fW : PySem.W.nsIn K mainGlobals "wrong_at" = some (some (.ref fW)))
    (l_fW : K.lookup fW = some ⟨oc_fW, od_fW, .func (PySem.W.fnOf "wrong_at" "wrong_at" (defArgs sWrg) (defBody sWrg) (defScope sWrg) .none kV_fW dc_fW pm_fW an_fW cd_fW ct_fW), sl_fW⟩)
    (c_fW : PySem.W.codeIn K cd_fW "wrong_at" = true)
    (k_fW : PySem.W.keepIn K (.ref fW) = true)
    (b_fk : PySem.W.nsIn K mainGlobals "check_telling" = some (some (.ref fk)))
    (l_fk : K.lookup fk = some ⟨oc_fk, od_fk, .func (PySem.W.fnOf "check_telling" "check_telling" (defArgs sChk) (defBody sChk) (defScope sChk) .none kV_fk dc_fk pm_fk an_fk cd_fk ct_fk), sl_fk⟩)
    (c_fk : PySem.W.codeIn K cd_fk "check_telling" = true)
    (k_fk : PySem.W.keepIn K (.ref fk) = true)
    (b_fp : PySem.W.nsIn K mainGlobals "spared" = some (some (.ref fp)))
    (l_fp : K.lookup fp = some ⟨oc_fp, od_fp, .func (PySem.W.fnOf "spared" "spared" (defArgs sSpa) (defBody sSpa) (defScope sSpa) .none kV_fp dc_fp pm_fp an_fp cd_fp ct_fp), sl_fp⟩)
    (c_fp : PySem.W.codeIn K cd_fp "spared" = true)
    (k_fp : PySem.W.keepIn K (.ref fp) = true)
    (b_fi : PySem.W.nsIn K mainGlobals "_law_e_is_part" = some (some (.ref fi)))
    (l_fi : K.lookup fi = some ⟨oc_fi, od_fi, .func (PySem.W.fnOf "_law_e_is_part" "_law_e_is_part" (defArgs sIsp) (defBody sIsp) (defScope sIsp) .none kV_fi dc_fi pm_fi an_fi cd_fi ct_fi), sl_fi⟩)
    (c_fi : PySem.W.codeIn K cd_fi "_law_e_is_part" = true)
    (k_fi : PySem.W.keepIn K (.ref fi) = true)
    (b_fd : PySem.W.nsIn K mainGlobals "_law_e_told" = some (some (.ref fd)))
    (l_fd : K.lookup fd = some ⟨oc_fd, od_fd, .func (PySem.W.fnOf "_law_e_told" "_law_e_told" (defArgs sTld) (defBody sTld) (defScope sTld) .none kV_fd dc_fd pm_fd an_fd cd_fd ct_fd), sl_fd⟩)
    (c_fd : PySem.W.codeIn K cd_fd "_law_e_told" = true)
    (k_fd : PySem.W.keepIn K (.ref fd) = true)
    (b_fq : PySem.W.nsIn K mainGlobals "_law_e_spared_right" = some (some (.ref fq)))
    (l_fq : K.lookup fq = some ⟨oc_fq, od_fq, .func (PySem.W.fnOf "_law_e_spared_right" "_law_e_spared_right" (defArgs sSrt) (defBody sSrt) (defScope sSrt) .none kV_fq dc_fq pm_fq an_fq cd_fq ct_fq), sl_fq⟩)
    (c_fq : PySem.W.codeIn K cd_fq "_law_e_spared_right" = true)
    (k_fq : PySem.W.keepIn K (.ref fq) = true)
    (b_fI : PySem.W.nsIn K mainGlobals "_law_e_idle" = some (some (.ref fI)))
    (l_fI : K.lookup fI = some ⟨oc_fI, od_fI, .func (PySem.W.fnOf "_law_e_idle" "_law_e_idle" (defArgs sIdl) (defBody sIdl) (defScope sIdl) .none kV_fI dc_fI pm_fI an_fI cd_fI ct_fI), sl_fI⟩)
    (c_fI : PySem.W.codeIn K cd_fI "_law_e_idle" = true)
    (k_fI : PySem.W.keepIn K (.ref fI) = true)
    (b_fL : PySem.W.nsIn K mainGlobals "law" = some (some (.ref fL)))
    (l_fL : K.lookup fL = some ⟨oc_fL, od_fL, .func (PySem.W.fnOf "law" "law" (defArgs sLaw) (defBody sLaw) (defScope sLaw) .none kV_fL dc_fL pm_fL an_fL cd_fL ct_fL), sl_fL⟩)
    (c_fL : PySem.W.codeIn K cd_fL "law" = true)
    (k_fL : PySem.W.keepIn K (.ref fL) = true)
    (b_gH : PySem.W.nsIn K mainGlobals "falls" = some (some (.ref gH)))
    (l_gH : K.lookup gH = some ⟨oc_gH, od_gH, .func (PySem.W.fnOf "falls" "falls" (defArgs sFal) (defBody sFal) (defScope sFal) .none kV_gH dc_gH pm_gH an_gH (.ref cH) ct_gH), sl_gH⟩)
    (c_gH : PySem.W.codeIn K (.ref cH) "falls" = true)
    (k_gH : PySem.W.keepIn K (.ref gH) = true)
    (lc_H : K.lookup cH = some ⟨e_H, dd_H, .fields vs_H, sf_H⟩)
    (v_H : vs_H[11]? = some (Value.ref PH))
    (hd_H : PySem.W.codeHdIn K cH PH = true)
    (np_H : K.lookup PH = none)
    (b_MOST_TOLD : PySem.W.nsIn K mainGlobals "MOST_TOLD" = some (some (.int 12 tk_MOST_TOLD)))
    (z_range : PySem.W.nsIn K mainGlobals "range" = some none)
    (z_isinstance : PySem.W.nsIn K mainGlobals "isinstance" = some none)
    (z_len : PySem.W.nsIn K mainGlobals "len" = some none)
    (z_list : PySem.W.nsIn K mainGlobals "list" = some none)
    (z_min : PySem.W.nsIn K mainGlobals "min" = some none)
    (z_tuple : PySem.W.nsIn K mainGlobals "tuple" = some none)
    (z_sorted : PySem.W.nsIn K mainGlobals "sorted" = some none)
    (z_all : PySem.W.nsIn K mainGlobals "all" = some none)
    (z_any : PySem.W.nsIn K mainGlobals "any" = some none)
    (z_bool : PySem.W.nsIn K mainGlobals "bool" = some none)
    (z_int : PySem.W.nsIn K mainGlobals "int" = some none)
    (z_enumerate : PySem.W.nsIn K mainGlobals "enumerate" = some none)
    (z_repr : PySem.W.nsIn K mainGlobals "repr" = some none)
    (z_reversed : PySem.W.nsIn K mainGlobals "reversed" = some none)
    (nT : PySem.W.nsIn K mainGlobals "NoTelling" = some (some (.ref CC)))
    (xT : PySem.W.excIn K CC Te.veB "ValueError.__new__" = true)
    (kT : PySem.W.keepIn K (.ref CC) = true)
    (bT : PySem.W.subIn K (.ref CC) (.type "BaseException") = some true)
    (tT : PySem.W.typeIn K (.ref CC) = some (.type "type"))
    (lT : PySem.W.isClsIn K CC = true)
    (sT : PySem.W.subIn K (.ref CC) (.ref CC) = some true) :
    LawG l w K 12 63 "script" mg top h := by
  have e := htop.symm.trans (PySem.W.mg_of X G b_fL)
  cases e
  have F_fM := fun_mk (st := sFre) l_fM c_fM k_fM
  have B_fM := F_fM.binds (ps := ["pen"]) fun _ _ _ _ _ _ us hl => match us, hl with | [_], _ => rfl
  have g_fM := PySem.W.mg_of X G b_fM
  have F_fD := fun_mk (st := sDrw) l_fD c_fD k_fD
  have B_fD := F_fD.binds (ps := ["pen", "many"]) fun _ _ _ _ _ _ us hl => match us, hl with | [_, _], _ => rfl
  have g_fD := PySem.W.mg_of X G b_fD
  have F_fO := fun_mk (st := sOpn) l_fO c_fO k_fO
  have B_fO := F_fO.binds (ps := ["script"]) fun _ _ _ _ _ _ us hl => match us, hl with | [_], _ => rfl
  have g_fO := PySem.W.mg_of X G b_fO
  have F_fC := fun_mk (st := sClm) l_fC c_fC k_fC
  have B_fC := F_fC.binds (ps := ["pen", "most", "wide"]) fun _ _ _ _ _ _ us hl => match us, hl with | [_, _, _], _ => rfl
  have g_fC := PySem.W.mg_of X G b_fC
  have F_fB := fun_mk (st := sBok) l_fB c_fB k_fB
  have B_fB := F_fB.binds (ps := ["pen", "most"]) fun _ _ _ _ _ _ us hl => match us, hl with | [_, _], _ => rfl
  have g_fB := PySem.W.mg_of X G b_fB
  have F_fl := fun_mk (st := sElf) l_fl c_fl k_fl
  have B_fl := F_fl.binds (ps := ["claim", "held"]) fun _ _ _ _ _ _ us hl => match us, hl with | [_, _], _ => rfl
  have g_fl := PySem.W.mg_of X G b_fl
  have F_fc := fun_mk (st := sClo) l_fc c_fc k_fc
  have B_fc := F_fc.binds (ps := ["claims", "says"]) fun _ _ _ _ _ _ us hl => match us, hl with | [_, _], _ => rfl
  have g_fc := PySem.W.mg_of X G b_fc
  have F_fe := fun_mk (st := sEfa) l_fe c_fe k_fe
  have B_fe := F_fe.binds (ps := ["claims", "claim"]) fun _ _ _ _ _ _ us hl => match us, hl with | [_, _], _ => rfl
  have g_fe := PySem.W.mg_of X G b_fe
  have F_fw := fun_mk (st := sEwr) l_fw c_fw k_fw
  have B_fw := F_fw.binds (ps := ["book", "telling"]) fun _ _ _ _ _ _ us hl => match us, hl with | [_, _], _ => rfl
  have g_fw := PySem.W.mg_of X G b_fw
  have F_fu := fun_mk (st := sEcu) l_fu c_fu k_fu
  have B_fu := F_fu.binds (ps := ["one", "other"]) fun _ _ _ _ _ _ us hl => match us, hl with | [_, _], _ => rfl
  have g_fu := PySem.W.mg_of X G b_fu
  have F_ft := fun_mk (st := sEtl) l_ft c_ft k_ft
  have B_ft := F_ft.binds (ps := ["pen", "book"]) fun _ _ _ _ _ _ us hl => match us, hl with | [_, _], _ => rfl
  have g_ft := PySem.W.mg_of X G b_ft
  have F_fr := fun_mk (st := sEtu) l_fr c_fr k_fr
  have B_fr := F_fr.binds (ps := ["pen", "telling"]) fun _ _ _ _ _ _ us hl => match us, hl with | [_, _], _ => rfl
  have g_fr := PySem.W.mg_of X G b_fr
  have F_fY := fun_mk (st := sFsy) l_fY c_fY k_fY
  have B_fY := F_fY.binds (ps := ["claim", "held"]) fun _ _ _ _ _ _ us hl => match us, hl with | [_, _], _ => rfl
  have g_fY := PySem.W.mg_of X G b_fY
  have F_fA := fun_mk (st := sFfa) l_fA c_fA k_fA
  have B_fA := F_fA.binds (ps := ["claims", "held"]) fun _ _ _ _ _ _ us hl => match us, hl with | [_, _], _ => rfl
  have g_fA := PySem.W.mg_of X G b_fA
  have F_fS := fun_mk (st := sFst) l_fS c_fS k_fS
  have B_fS := F_fS.binds (ps := ["claims", "held"]) fun _ _ _ _ _ _ us hl => match us, hl with | [_, _], _ => rfl
  have g_fS := PySem.W.mg_of X G b_fS
  have F_fF := fun_mk (st := sFod) l_fF c_fF k_fF
  have B_fF := F_fF.binds (ps := ["claims", "says"]) fun _ _ _ _ _ _ us hl => match us, hl with | [_, _], _ => rfl
  have g_fF := PySem.W.mg_of X G b_fF
  have F_fP := fun_mk (st := sOpp) l_fP c_fP k_fP
  have B_fP := F_fP.binds (ps := ["claim"]) fun _ _ _ _ _ _ us hl => match us, hl with | [_], _ => rfl
  have g_fP := PySem.W.mg_of X G b_fP
  have F_fb := fun_mk (st := sFbf) l_fb c_fb k_fb
  have B_fb := F_fb.binds (ps := ["claims", "claim"]) fun _ _ _ _ _ _ us hl => match us, hl with | [_, _], _ => rfl
  have g_fb := PySem.W.mg_of X G b_fb
  have F_fW := fun_mk (st := sWrg) l_fW c_fW k_fW
  have B_fW := F_fW.binds (ps := ["book", "telling"]) fun _ _ _ _ _ _ us hl => match us, hl with | [_, _], _ => rfl
  have g_fW := PySem.W.mg_of X G b_fW
  have F_fk := fun_mk (st := sChk) l_fk c_fk k_fk
  have B_fk := F_fk.binds (ps := ["book", "telling"]) fun _ _ _ _ _ _ us hl => match us, hl with | [_, _], _ => rfl
  have g_fk := PySem.W.mg_of X G b_fk
  have F_fp := fun_mk (st := sSpa) l_fp c_fp k_fp
  have B_fp := F_fp.binds (ps := ["book", "telling"]) fun _ _ _ _ _ _ us hl => match us, hl with | [_, _], _ => rfl
  have g_fp := PySem.W.mg_of X G b_fp
  have F_fi := fun_mk (st := sIsp) l_fi c_fi k_fi
  have B_fi := F_fi.binds (ps := ["some", "telling"]) fun _ _ _ _ _ _ us hl => match us, hl with | [_, _], _ => rfl
  have g_fi := PySem.W.mg_of X G b_fi
  have F_fd := fun_mk (st := sTld) l_fd c_fd k_fd
  have B_fd := F_fd.binds (ps := ["book", "telling"]) fun _ _ _ _ _ _ us hl => match us, hl with | [_, _], _ => rfl
  have g_fd := PySem.W.mg_of X G b_fd
  have F_fq := fun_mk (st := sSrt) l_fq c_fq k_fq
  have B_fq := F_fq.binds (ps := ["book", "telling", "found"]) fun _ _ _ _ _ _ us hl => match us, hl with | [_, _, _], _ => rfl
  have g_fq := PySem.W.mg_of X G b_fq
  have F_fI := fun_mk (st := sIdl) l_fI c_fI k_fI
  have B_fI := F_fI.binds (ps := ["pen"]) fun _ _ _ _ _ _ us hl => match us, hl with | [_], _ => rfl
  have g_fI := PySem.W.mg_of X G b_fI
  have F_fL := fun_mk (st := sLaw) l_fL c_fL k_fL
  have B_fL := F_fL.binds (ps := ["script"]) fun _ _ _ _ _ _ us hl => match us, hl with | [_], _ => rfl
  have g_fL := PySem.W.mg_of X G b_fL
  have F_gH := fun_mk (st := sFal) l_gH c_gH k_gH
  have B_gH := F_gH.binds (ps := ["claim", "held"]) fun _ _ _ _ _ _ us hl => match us, hl with | [_, _], _ => rfl
  have g_gH := PySem.W.mg_of X G b_gH
  have C_gH : Se.FunC K "falls" "falls" sFal gH cH _ := ⟨⟨_, _, _, _, _, _, _, _, rfl, l_gH, c_gH⟩, k_gH⟩
  have M_MOST_TOLD := PySem.W.mg_of X G b_MOST_TOLD
  have Z_range := PySem.W.mg_none_of X G z_range
  have Z_isinstance := PySem.W.mg_none_of X G z_isinstance
  have Z_len := PySem.W.mg_none_of X G z_len
  have Z_list := PySem.W.mg_none_of X G z_list
  have Z_min := PySem.W.mg_none_of X G z_min
  have Z_tuple := PySem.W.mg_none_of X G z_tuple
  have Z_sorted := PySem.W.mg_none_of X G z_sorted
  have Z_all := PySem.W.mg_none_of X G z_all
  have Z_any := PySem.W.mg_none_of X G z_any
  have Z_bool := PySem.W.mg_none_of X G z_bool
  have Z_int := PySem.W.mg_none_of X G z_int
  have Z_enumerate := PySem.W.mg_none_of X G z_enumerate
  have Z_repr := PySem.W.mg_none_of X G z_repr
  have Z_reversed := PySem.W.mg_none_of X G z_reversed
  refine ⟨PySem.W.fnOf "law" "law" (defArgs sLaw) (defBody sLaw) (defScope sLaw) .none kV_fL dc_fL pm_fL an_fL cd_fL ct_fL, [(cH, PH)], spLaw PH K, ?_, ?_, ?_, fun s u => .of_eq rfl, fun H a ns _ hT hS => ?_, fun base hb hn hT => ?_⟩
  · intro p hp
    simp only [List.mem_cons, List.not_mem_nil, or_false] at hp
    rcases hp with rfl
    · exact ow "falls" (by simp) _ g_gH cH PH _ _ _ _ _ _ l_gH rfl rfl lc_H v_H
  · intro p hp
    simp only [List.mem_cons, List.not_mem_nil, or_false] at hp
    rcases hp with rfl
    · exact np_H
  · intro p hp
    simp only [List.mem_cons, List.not_mem_nil, or_false] at hp
    rcases hp with rfl
    · exact PySem.W.codeHd_of_K X hd_H
  · exact ⟨a, ns, rfl, hS, ⟨#[], hT (cH, PH) (by simp), trivial⟩, fun _ => rfl⟩
  · have t_H := hT (cH, PH) (by simp)
    have T_H : TabB base mg cH PH := ⟨t_H.code, t_H.bm, t_H.gP⟩
    have Tp : Zp mg := ⟨Z_len, Z_list⟩
    have Ts : Zs mg := ⟨Z_len, Z_list, Z_range, Z_min, Z_tuple, Z_sorted⟩
    have Tf : Zf mg := ⟨Z_len, Z_list, Z_all, Z_enumerate⟩
    have Tl : Zl mg := ⟨Z_len, Z_list, Z_isinstance, Z_int, Z_bool, Z_tuple⟩
    have Tk : Zk mg := ⟨Z_len, Z_range, Z_list, Z_tuple, Z_sorted⟩
    have Tv : Zv mg := ⟨Z_len, Z_list, Z_range, Z_reversed⟩
    have Tr : Zr mg := ⟨Z_len, Z_list, Z_range, Z_repr, Z_isinstance⟩
    have Tc : CT K mg CC := ⟨xT, PySem.W.mg_of X G nT, kT, bT, tT⟩
    have eT := Cf.exm_t bT (Cf.cls_s lT) tT sT
    have Tt : Zt mg := ⟨Z_len, Z_tuple, Z_range, Z_enumerate⟩
    have Tu : Zu mg := ⟨Z_len, Z_list, Z_tuple, Z_range, Z_sorted, Z_any⟩
    have GD : FnOk l.prog w K mg base CX0 2 fD _ ["pen", "many"] spDrw := ok_drw F_fD F_fM B_fM g_fM Tp
    have GO : FnOk l.prog w K mg base CX0 1 fO _ ["script"] (spOpn K) := ok_opn F_fO Z_list
    have GC : FnOk l.prog w K mg base CX0 3 fC _ ["pen", "most", "wide"] spClm := ok_clm F_fC Ts F_fD B_fD g_fD GD
    have GB : FnOk l.prog w K mg base CX0 4 fB _ ["pen", "most"] spBok := ok_bok F_fB Ts F_fD B_fD g_fD GD F_fC B_fC g_fC GC
    have Gl : FnOk l.prog w K mg base CX0 1 fl _ ["claim", "held"] spElf := ok_elf F_fl
    have Gc : FnOk l.prog w K mg base CX0 2 fc _ ["claims", "says"] spClo := ok_clo F_fc Tl F_fl B_fl g_fl Gl
    have Ge : FnOk l.prog w K mg base CX0 3 fe _ ["claims", "claim"] (spFbf PH) := ok_efa F_fe F_fc B_fc g_fc Gc
    have Gw : FnOk l.prog w K mg base CX0 4 fw _ ["book", "telling"] (spWrg PH) := ok_ewr F_fw Tt F_fe B_fe g_fe Ge
    have Gu : FnOk l.prog w K mg base CX0 1 fu _ ["one", "other"] spEcu := ok_ecu F_fu Tu
    have Gt : FnOk l.prog w K mg base CX0 3 ft _ ["pen", "book"] spEtl := ok_etl F_ft Tu F_fD B_fD g_fD GD F_fu B_fu g_fu Gu
    have Gr : FnOk l.prog w K mg base CX0 4 fr _ ["pen", "telling"] spEtu := ok_etu F_fr Tu F_fD B_fD g_fD GD F_fC B_fC g_fC GC
    have GH : FnOk l.prog w K mg base CX0 3 gH _ ["claim", "held"] (spFal PH) := ok_fal C_gH Tf T_H
    have GY : FnOk l.prog w K mg base CX0 1 fY _ ["claim", "held"] spFsy := ok_fsy F_fY Tf
    have GA : FnOk l.prog w K mg base CX0 4 fA _ ["claims", "held"] (spFfa PH) := ok_ffa F_fA Tf k_gH B_gH g_gH GH
    have GS : FnOk l.prog w K mg base CX0 2 fS _ ["claims", "held"] spFst := ok_fst F_fS Tf F_fY B_fY g_fY GY
    have GF : FnOk l.prog w K mg base CX0 5 fF _ ["claims", "says"] (spFod PH) := ok_fod F_fF Tf F_fA B_fA g_fA GA F_fS B_fS g_fS GS
    have GP : FnOk l.prog w K mg base CX0 1 fP _ ["claim"] spOpp := ok_opp F_fP
    have Gb : FnOk l.prog w K mg base CX0 6 fb _ ["claims", "claim"] (spFbf PH) := ok_fbf F_fb F_fF B_fF g_fF GF F_fP B_fP g_fP GP
    have GW : FnOk l.prog w K mg base CX0 7 fW _ ["book", "telling"] (spWrg PH) := ok_wrg F_fW Tt F_fb B_fb g_fb Gb
    have Gk : FnOk l.prog w K mg base (L2.CX l.prog w) 8 fk _ ["book", "telling"] (spChk CC PH) := ok_chk F_fk Tv Tc M_MOST_TOLD F_fW B_fW g_fW GW
    have Gp : FnOk l.prog w K mg base (L2.CX l.prog w) 9 fp _ ["book", "telling"] (spSpa CC PH) := ok_spa F_fp Tv F_fW B_fW g_fW GW F_fk B_fk g_fk Gk
    have Gi : Gx2.FnX l.prog w K mg base CX0 1 fi _ ["some", "telling"] spIsp := ok_isp F_fi Tr
    have Gd2 : FnOk l.prog w K mg base CX0 10 fd _ ["book", "telling"] (spTld PH) := ok_tld F_fd Tc eT F_fp B_fp g_fp Gp
    have Gq : Gx2.FnX l.prog w K mg base CX0 5 fq _ ["book", "telling", "found"] (spSrt PH) := ok_srt F_fq Tr F_fw B_fw g_fw Gw F_fi B_fi g_fi Gi
    have GI : FnOk l.prog w K mg base CX0 3 fI _ ["pen"] spIdl := ok_idl F_fI Tk F_fD B_fD g_fD GD
    exact ok_law F_fL Tk F_fO B_fO g_fO GO F_fD B_fD g_fD GD F_fB B_fB g_fB GB F_ft B_ft g_ft Gt F_fr B_fr g_fr Gr F_fw B_fw g_fw Gw F_fI B_fI g_fI GI F_fp B_fp g_fp Gp F_fd B_fd g_fd Gd2 F_fq B_fq g_fq Gq
end K54
open PySem PySem.W PyProof.Rows
set_option maxHeartbeats 0 in
theorem PySem.Challenge.cw_sparecut_k54_tellings_spared_holds : PySem.Challenge.rw_sparecut_k54_tellings_spared.Holds := by
  w_on; o_law; k_head; (case hw => w_witness2)
  k_fill
  refine Eg.walk_own (l := PySem.Challenge.rw_sparecut_k54_tellings_spared) (m := 63) (k := 12) (x := "script") ["falls"] rfl (by decide) rfl ⟨rfl, by decide, by decide⟩ (by decide +kernel) (fun w h Y => PySem.W.kIn_of Y) ?F
  case F =>
    intro w mg fa h Y KX G hmg ow
    refine' K54.all_mk KX G hmg ow ?b_fM ?l_fM ?c_fM ?k_fM ?b_fD ?l_fD ?c_fD ?k_fD ?b_fO ?l_fO ?c_fO ?k_fO ?b_fC ?l_fC ?c_fC ?k_fC ?b_fB ?l_fB ?c_fB ?k_fB ?b_fl ?l_fl ?c_fl ?k_fl ?b_fc ?l_fc ?c_fc ?k_fc ?b_fe ?l_fe ?c_fe ?k_fe ?b_fw ?l_fw ?c_fw ?k_fw ?b_fu ?l_fu ?c_fu ?k_fu ?b_ft ?l_ft ?c_ft ?k_ft ?b_fr ?l_fr ?c_fr ?k_fr ?b_fY ?l_fY ?c_fY ?k_fY ?b_fA ?l_fA ?c_fA ?k_fA ?b_fS ?l_fS ?c_fS ?k_fS ?b_fF ?l_fF ?c_fF ?k_fF ?b_fP ?l_fP ?c_fP ?k_fP ?b_fb ?l_fb ?c_fb ?k_fb ?b_fW ?l_fW ?c_fW ?k_fW ?b_fk ?l_fk ?c_fk ?k_fk ?b_fp ?l_fp ?c_fp ?k_fp ?b_fi ?l_fi ?c_fi ?k_fi ?b_fd ?l_fd ?c_fd ?k_fd ?b_fq ?l_fq ?c_fq ?k_fq ?b_fI ?l_fI ?c_fI ?k_fI ?b_fL ?l_fL ?c_fL ?k_fL ?b_gH ?l_gH ?c_gH ?k_gH ?lc_H ?v_H ?hd_H ?np_H ?b_MOST_TOLD ?z_range ?z_isinstance ?z_len ?z_list ?z_min ?z_tuple ?z_sorted ?z_all ?z_any ?z_bool ?z_int ?z_enumerate ?z_repr ?z_reversed ?nT ?xT ?kT ?bT ?tT ?lT ?sT
    (case b_fM => k_is)
    (case l_fM => k_is)
    (case c_fM => k_is)
    (case k_fM => k_is)
    (case b_fD => k_is)
    (case l_fD => k_is)
    (case c_fD => k_is)
    (case k_fD => k_is)
    (case b_fO => k_is)
    (case l_fO => k_is)
    (case c_fO => k_is)
    (case k_fO => k_is)
    (case b_fC => k_is)
    (case l_fC => k_is)
    (case c_fC => k_is)
    (case k_fC => k_is)
    (case b_fB => k_is)
    (case l_fB => k_is)
    (case c_fB => k_is)
    (case k_fB => k_is)
    (case b_fl => k_is)
    (case l_fl => k_is)
    (case c_fl => k_is)
    (case k_fl => k_is)
    (case b_fc => k_is)
    (case l_fc => k_is)
    (case c_fc => k_is)
    (case k_fc => k_is)
    (case b_fe => k_is)
    (case l_fe => k_is)
    (case c_fe => k_is)
    (case k_fe => k_is)
    (case b_fw => k_is)
    (case l_fw => k_is)
    (case c_fw => k_is)
    (case k_fw => k_is)
    (case b_fu => k_is)
    (case l_fu => k_is)
    (case c_fu => k_is)
    (case k_fu => k_is)
    (case b_ft => k_is)
    (case l_ft => k_is)
    (case c_ft => k_is)
    (case k_ft => k_is)
    (case b_fr => k_is)
    (case l_fr => k_is)
    (case c_fr => k_is)
    (case k_fr => k_is)
    (case b_fY => k_is)
    (case l_fY => k_is)
    (case c_fY => k_is)
    (case k_fY => k_is)
    (case b_fA => k_is)
    (case l_fA => k_is)
    (case c_fA => k_is)
    (case k_fA => k_is)
    (case b_fS => k_is)
    (case l_fS => k_is)
    (case c_fS => k_is)
    (case k_fS => k_is)
    (case b_fF => k_is)
    (case l_fF => k_is)
    (case c_fF => k_is)
    (case k_fF => k_is)
    (case b_fP => k_is)
    (case l_fP => k_is)
    (case c_fP => k_is)
    (case k_fP => k_is)
    (case b_fb => k_is)
    (case l_fb => k_is)
    (case c_fb => k_is)
    (case k_fb => k_is)
    (case b_fW => k_is)
    (case l_fW => k_is)
    (case c_fW => k_is)
    (case k_fW => k_is)
    (case b_fk => k_is)
    (case l_fk => k_is)
    (case c_fk => k_is)
    (case k_fk => k_is)
    (case b_fp => k_is)
    (case l_fp => k_is)
    (case c_fp => k_is)
    (case k_fp => k_is)
    (case b_fi => k_is)
    (case l_fi => k_is)
    (case c_fi => k_is)
    (case k_fi => k_is)
    (case b_fd => k_is)
    (case l_fd => k_is)
    (case c_fd => k_is)
    (case k_fd => k_is)
    (case b_fq => k_is)
    (case l_fq => k_is)
    (case c_fq => k_is)
    (case k_fq => k_is)
    (case b_fI => k_is)
    (case l_fI => k_is)
    (case c_fI => k_is)
    (case k_fI => k_is)
    (case b_fL => k_is)
    (case l_fL => k_is)
    (case c_fL => k_is)
    (case k_fL => k_is)
    (case b_gH => k_is)
    (case l_gH => k_is)
    (case c_gH => k_is)
    (case k_gH => k_is)
    (case lc_H => k_is)
    (case v_H => exact rfl)
    (case hd_H => kernel_rfl)
    (case np_H => kernel_rfl)
    (case b_MOST_TOLD => k_is)
    (case z_range => k_is)
    (case z_isinstance => k_is)
    (case z_len => k_is)
    (case z_list => k_is)
    (case z_min => k_is)
    (case z_tuple => k_is)
    (case z_sorted => k_is)
    (case z_all => k_is)
    (case z_any => k_is)
    (case z_bool => k_is)
    (case z_int => k_is)
    (case z_enumerate => k_is)
    (case z_repr => k_is)
    (case z_reversed => k_is)
    (case nT => k_is)
    (case xT => k_exc)
    (case kT => k_is)
    (case bT => k_is)
    (case tT => k_is)
    (case lT => k_is)
    (case sT => k_is)
