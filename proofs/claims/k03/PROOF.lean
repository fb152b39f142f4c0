import PyProof.Rows.All
import Wide.All
import OpenK.AllK
import Wide.FinOn
import PyProof.EqAt
import PyProof.EqKinds
import PyProof.TupleCall
import PySem.Challenge.RW_sparecut_k03_what_follows
import HandS.ForMost
import HandS.Evl
import HandS.Conv
import HandS.Exc
import HandS.ExcOwn
import HandS.ExcInit
import HandS.ExcValue
import HandS.ExcIs
import KE.KExcIs
import KE.KxText
import HandS.AnyAll
import HandS.GenOver
import HandS.GenList
import HandS.SortInts
import HandS.TupAny
import HandS.TupMul
import HandS.Strs
import HandS.IsInst
import HandS.EndTab
import HandS.EndOwn
import HandS.SetFor
import KE.KNestM
set_option Elab.async false
set_option linter.all false
set_option maxRecDepth 100000
set_option maxHeartbeats 2000000
namespace Nw
open PySem PySem.Spec PyProof.Rows L2
/-! ### readings that hide the heap: what is new is told by its facts alone -/
theorem same_new {H : Hp} {p : Addr} {o : HO} (h : H p = none) : Same H (upd H p o) := fun b x e => by
  rw [upd_ne (ne_of_none e h)]
  exact e
theorem sqt {K : PySem.W.Frag} {H H' : Hp} {a : Addr} {xs : List V} (e : Same H H') (h : SqT K H a xs) : SqT K H' a xs := by
  rcases h with (h | ⟨o, h⟩) | h
  · exact .inl (.inl (e _ _ h))
  · exact .inl (.inr ⟨o, e _ _ h⟩)
  · exact .inr h
/-- a new object o at a place of its own -/
def New (H : Hp) (o : HO) (Q : VK) : Prop := ∀ p H2, H p = none → Same H H2 → H2 p = some o → (∀ b, b ≠ p → H2 b = H b) → Q (.ref p) H2
theorem New.to {H : Hp} {o : HO} {Q : VK} (h : New H o Q) : ∀ p, H p = none → Q (.ref p) (upd H p o) := fun p n => h p _ n (same_new n) upd_same fun b nb => upd_ne nb
section
variable {X : Cx} {e : Expr} {es : List Expr} {t t' : TE} {ta : TA} {pos : Pos}
theorem pe_weak (h : PE X e t) (i : ∀ σ H Q, t' σ H Q → t σ H Q) : PE X e t' := ⟨fun pins s σ H Q I q => h.run pins s σ H Q I (i σ H Q q)⟩
theorem op_weak {f : Value → Value → Sem Value} {r r' : R2} (h : OpR X f r) (i : ∀ x y H Q, r' x y H Q → r x y H Q) : OpR X f r' := fun pins s σ H x y v u Q I rx ry q => h pins s σ H x y v u Q I rx ry (i x y H Q q)
theorem call_weak {f : Value} {r r' : List V → Hp → VK → Prop} (h : CallR X f r) (i : ∀ xs H Q, r' xs H Q → r xs H Q) : CallR X f r' := fun pins s σ H xs us Q I rx q => h pins s σ H xs us Q I rx (i xs H Q q)
theorem mt_weak {id : String} {r r' : V → List V → Hp → VK → Prop} (h : MtR X id r) (i : ∀ x xs H Q, r' x xs H Q → r x xs H Q) : MtR X id r' := fun pins s σ H x xs v us Q I rx rs q => h pins s σ H x xs v us Q I rx rs (i x xs H Q q)
theorem sl_weak {r r' : V → Option Int → Option Int → Hp → VK → Prop} (h : SlR X r) (i : ∀ x lo hi H Q, r' x lo hi H Q → r x lo hi H Q) : SlR X r' := fun pins s σ H x v vl vu lo hi sl Q I rx a b c q => h pins s σ H x v vl vu lo hi sl Q I rx a b c (i x lo hi H Q q)
/-- what follows may be asked for less -/
def clA (t : TA) : TA := fun σ H R => ∃ R' : List V → Hp → Prop, (∀ xs H1, R' xs H1 → R xs H1) ∧ t σ H R'
theorem pa_cl (h : PA X es ta) : PA X es (clA ta) := ⟨fun ps pins s σ H Q I ⟨R', i, q⟩ => thn (h.run ps pins s σ H R' I q) fun us s1 ⟨vs, H1, I1, r1, q1⟩ => ⟨vs, H1, I1, r1, i vs H1 q1⟩⟩
def clE (t : TE) : TE := fun σ H R => ∃ R' : VK, (∀ v H1, R' v H1 → R v H1) ∧ t σ H R'
theorem pe_cl (h : PE X e t) : PE X e (clE t) := ⟨fun pins s σ H Q I ⟨R', i, q⟩ => thn (h.run pins s σ H R' I q) fun u s1 ⟨v, H1, I1, r1, q1⟩ => ⟨v, H1, I1, r1, i v H1 q1⟩⟩
def nLst (t : TA) : TE := fun σ H Q => t σ H fun xs H1 => xs.length ≤ sizeLine ∧ New H1 (.lst xs) Q
def nTup (t : TA) : TE := fun σ H Q => t σ H fun xs H1 => xs.length ≤ sizeLine ∧ New H1 (.tup xs) Q
theorem pe_lstN (h : PA X es ta) : PE X (.List es pos) (nLst ta) := pe_weak (pe_lst (pa_cl h)) fun _ _ _ q => ⟨_, fun _ _ z => ⟨z.1, z.2.to⟩, q⟩
theorem pe_tupN {x1} (h : PA X es ta) : PE X (.Tuple es x1 pos) (nTup ta) := pe_weak (pe_tup (pa_cl h)) fun _ _ _ q => ⟨_, fun _ _ z => ⟨z.1, z.2.to⟩, q⟩
/-- xs + ys (lists) -/
def rCatN : R2 := fun x y H Q => ∃ p q xs ys, x = .ref p ∧ y = .ref q ∧ H p = some (.lst xs) ∧ H q = some (.lst ys) ∧ xs.length + ys.length ≤ sizeLine ∧ New H (.lst (xs ++ ys)) Q
theorem op_catN : OpR X (binaryOp .Add) rCatN := op_weak op_cat fun x y H Q ⟨p, q, xs, ys, h1, h2, h3, h4, h5, h6⟩ => ⟨p, q, xs, ys, h1, h2, h3, h4, h5, h6.to⟩
/-- a tuple of xs, new or not -/
def ResT (H : Hp) (xs : List V) (Q : VK) : Prop := ∀ p H2, Same H H2 → H2 p = some (.tup xs) → Q (.ref p) H2
theorem call_list_ofN : CallR X (.type "list") (fun xs H Q => ∃ p ys, xs = [.ref p] ∧ (SqL X.K H p ys ∨ SqT X.K H p ys) ∧ New H (.lst ys) Q) := call_weak call_list_of fun _ _ _ ⟨p, ys, h1, h2, h3⟩ => ⟨p, ys, h1, h2, h3.to⟩
theorem call_tuple_ofN : CallR X (.type "tuple") (fun xs H Q => ∃ p ys, xs = [.ref p] ∧ SqL X.K H p ys ∧ New H (.tup ys) Q) := call_weak call_tuple_of fun _ _ _ ⟨p, ys, h1, h2, h3⟩ => ⟨p, ys, h1, .inl ⟨h2, h3.to⟩⟩
theorem sl_listN : SlR X (fun x lo hi H Q => ∃ a xs, x = .ref a ∧ SqL X.K H a xs ∧ New H (.lst (cutV xs lo hi)) Q) := sl_weak sl_list fun _ _ _ _ _ ⟨a, xs, h1, h2, h3⟩ => ⟨a, xs, h1, h2, h3.to⟩
end
/-! ### data by its values -/
theorem dp_bls {K : PySem.W.Frag} {H : Hp} : ∀ bs : List Bool, DpAll K H (bs.map V.bl) (bs.map PyData.bool)
  | [] => .nil
  | b :: r => .cons (.bl b) (dp_bls r)
theorem dp_ints {K : PySem.W.Frag} {H : Hp} : ∀ ns : List Int, DpAll K H (ns.map V.int) (ns.map PyData.int)
  | [] => .nil
  | b :: r => .cons (.int b) (dp_ints r)
/-- flat data: numbers, truths, None -/
def flatD : PyData → Bool
  | .none | .bool _ | .int _ => true
  | _ => false
theorem flat_lay : ∀ ds : List PyData, ds.all flatD = true → PyData.canLayAll0 ds = true
  | [], _ => rfl
  | d :: r, h => by
    rw [List.all_cons, Bool.and_eq_true] at h
    show (PyData.canLay0 d && PyData.canLayAll0 r) = true
    rw [flat_lay r h.2, Bool.and_true]
    cases d <;> first | rfl | exact Bool.noConfusion h.1
theorem flat_depth : ∀ ds : List PyData, ds.all flatD = true → PyData.depthAll ds ≤ 1
  | [], _ => by decide
  | d :: r, h => by
    rw [List.all_cons, Bool.and_eq_true] at h
    have ih := flat_depth r h.2
    have hd : PyData.depth d ≤ 1 := by
      cases d <;> first | decide | exact Bool.noConfusion h.1 | exact Nat.zero_le _ | exact Nat.le_refl _
    show Nat.max (PyData.depth d) (PyData.depthAll r) ≤ 1
    exact Nat.max_le.mpr ⟨hd, ih⟩
theorem shaped_list {ds : List PyData} (h : ds.all flatD = true) : SeqAt.shaped (.list ds) = true := by
  have e := flat_depth ds h
  have e2 : PyData.depth (.list ds) ≤ 64 := by
    show PyData.depthAll ds + 1 ≤ 64
    omega
  show (PyData.canLayAll0 ds && decide (PyData.depth (.list ds) ≤ 64)) = true
  rw [flat_lay ds h, decide_eq_true e2]
  rfl
theorem shaped_tuple {ds : List PyData} (h : ds.all flatD = true) : SeqAt.shaped (.tuple ds) = true := by
  have e := flat_depth ds h
  have e2 : PyData.depth (.tuple ds) ≤ 64 := by
    show PyData.depthAll ds + 1 ≤ 64
    omega
  show (PyData.canLayAll0 ds && decide (PyData.depth (.tuple ds) ≤ 64)) = true
  rw [flat_lay ds h, decide_eq_true e2]
  rfl
theorem flat_bls (bs : List Bool) : (bs.map PyData.bool).all flatD = true := by
  rw [List.all_map, List.all_eq_true]
  exact fun _ _ => rfl
theorem flat_ints (ns : List Int) : (ns.map PyData.int).all flatD = true := by
  rw [List.all_map, List.all_eq_true]
  exact fun _ _ => rfl
theorem eqv_self {d : PyData} (h : SeqAt.shaped d = true) : PyData.eqv d d = true := SeqAt.eqv_refl d (SeqAt.canLay_of_shaped h)
end Nw
namespace Nw
open PySem PySem.Spec PyProof.Rows L2
section
variable {X : Cx}
theorem cr_sortedN : CallR X (.builtin "sorted") (fun vs H Q => ∃ (a : Addr) (ns : List Int), vs = [V.ref a] ∧ SqL X.K H a (ns.map V.int) ∧ ∀ ns' : List Int, ns'.Perm ns → ns'.Pairwise (· ≤ ·) → New H (.lst (ns'.map V.int)) Q) :=
  call_weak cr_sortedI fun _ _ _ ⟨a, ns, h1, h2, h3⟩ => ⟨a, ns, h1, h2, fun ns' p hp hs np => (h3 ns' hp hs).to p np⟩
theorem cutV_all {xs : List V} {lo hi : Option Int} (h : HT.sIx xs.length 0 lo = 0 ∧ HT.sIx xs.length xs.length hi = xs.length) : cutV xs lo hi = xs := by
  unfold cutV
  rw [h.1, h.2]
  exact List.take_length
theorem sl_tupN : SlR X (fun x lo hi H Q => ∃ a xs, x = .ref a ∧ H a = some (.tup xs) ∧ ResT H (cutV xs lo hi) Q) := sl_weak sl_tupA fun _ lo hi H Q ⟨a, xs, h1, h2, h3⟩ =>
  ⟨a, xs, h1, .of h2, fun z => h3 a H (Same.refl H) (by rw [cutV_all z]; exact h2), fun _ p np => h3 p _ (same_new np) upd_same⟩
theorem op_catTN : OpR X (binaryOp .Add) (fun x y H Q => ∃ a b xs ys, x = .ref a ∧ y = .ref b ∧ H a = some (.tup xs) ∧ H b = some (.tup ys) ∧ xs.length + ys.length ≤ sizeLine ∧ ResT H (xs ++ ys) Q) :=
  op_weak op_catA fun _ _ H Q ⟨a, b, xs, ys, h1, h2, h3, h4, h5, h6⟩ => ⟨a, b, xs, ys, h1, h2, .of h3, .of h4, h5, fun z => h6 b H (Same.refl H) (by rw [z]; exact h4), fun _ z => h6 a H (Same.refl H) (by rw [z, List.append_nil]; exact h3), fun _ _ p np => h6 p _ (same_new np) upd_same⟩
theorem op_repTN : OpR X (binaryOp .Mult) (fun x y H Q => ∃ l k xs, x = .ref l ∧ y = .int k ∧ H l = some (.tup xs) ∧ xs ≠ [] ∧ 2 ≤ k ∧ k ≤ 1000 ∧ xs.length ≤ 1000 ∧ ResT H (List.replicate k.toNat xs).flatten Q) :=
  op_weak op_repT fun _ _ H Q ⟨l, k, xs, h1, h2, h3, h4, h5, h6, h7, h8⟩ => ⟨l, k, xs, h1, h2, .of h3, h4, h5, h6, h7, fun p np => h8 p _ (same_new np) upd_same⟩
/-! the same rules with the written part by its name (for comprehensions' blocks) -/
variable {K : PySem.W.Frag}
theorem ix_tupB (h : X.K = K) : IxR X (rIxT K) := by subst h; exact ix_tup
theorem ix_listB (h : X.K = K) : IxR X (rIxL K) := by subst h; exact ix_list
theorem op_in_seqB (h : X.K = K) : OpR X (compareOp .In) (rIn K false) := by subst h; exact op_in_seq
theorem op_notIn_seqB (h : X.K = K) : OpR X (compareOp .NotIn) (rIn K true) := by subst h; exact op_notIn_seq
theorem call_len_seqB (h : X.K = K) : CallR X (.builtin "len") (fun xs H Q => ∃ p ys, xs = [.ref p] ∧ (SqL K H p ys ∨ SqT K H p ys) ∧ Q (.int ys.length) H) := by subst h; exact call_len_seq
theorem call_isiB (h : X.K = K) : CallR X (.builtin "isinstance") (rIsi K) := by subst h; exact call_isi
theorem op_eqDB (h : X.K = K) (hu : X.A.units + 64 < cLine) : OpR X (compareOp .Eq) (rEqD K) := by subst h; exact op_eqD hu
theorem op_neDB (h : X.K = K) (hu : X.A.units + 64 < cLine) : OpR X (compareOp .NotEq) (rNeD K) := by subst h; exact op_neD hu
end
end Nw
namespace Ev1
open PySem PySem.Spec PyProof.Rows L2 Nw
/-! ### exceptions as values -/
/-- at a an exception of the class cls, its dict d -/
def ExV (cls : Value) (d : Option Addr) (a : Addr) : HO := .ext fun h => ∃ (oe : Obj) (vs : Array Value), h.get? a = some oe ∧ Zc cls d oe ∧ oe.data = .fields vs
/-- an exception that was made of the class cls, its dict d: it stands at a place of its own -/
def Made (H1 : Hp) (cls : Value) (d : Option Addr) (Q : VK) : Prop := ∀ a H3, H1 a = none → Same H1 H3 → H3 a = some (ExV cls d a) → Q (.ref a) H3
theorem pe_made {X : Cx} {e : Expr} {t : L2.St → Hp → XK → Prop} (m : PMk X e t) : PE X e (fun σ H Q => t σ H fun cls d H1 => Made H1 cls d Q) := by
  refine ⟨fun pins s σ H Q I h => thn (m pins s σ H _ I h) fun u s1 z => ?_⟩
  obtain ⟨a, oe, vs, sI, H1, cls, d, rfl, J, k, na, ha, hz, hd, _, ha1, os, ag, _, q⟩ := z
  have new : ObjOk X.prog X.w (upd H1 a (ExV cls d a)) s1.heap a (ExV cls d a) := ⟨⟨oe, vs, ha, hz, hd⟩, ⟨oe, ha⟩, fun h1 h2 ⟨o, v, y, r⟩ i => ⟨o, v, i o y, r⟩⟩
  exact ⟨.ref a, upd H1 a (ExV cls d a), J.call' (ch := []) os (Un.laidN k na ha1) (J.hok.laidN k ha1 new) ag (fun b y => absurd y (by simp)), rfl, q a _ ha1 (same_new ha1) upd_same⟩
/-- at a an exception of the class D, with the field at = y -/
def ExF (H : Hp) (a D : Addr) (y : V) : Prop := ∃ dx, H a = some (ExV (.ref D) (some dx) a) ∧ H dx = some (.xd [(("at" : Str), y)])
/-- at a an exception of the class D -/
def ExAt (H : Hp) (a D : Addr) : Prop := H a = some (ExO (.ref D) a) ∨ ∃ y, ExF H a D y
theorem ExF.same {H H' : Hp} {a D : Addr} {y : V} (h : ExF H a D y) (s : Same H H') : ExF H' a D y := by
  obtain ⟨dx, h1, h2⟩ := h
  exact ⟨dx, s _ _ h1, s _ _ h2⟩
theorem ExAt.same {H H' : Hp} {a D : Addr} (h : ExAt H a D) (s : Same H H') : ExAt H' a D := by
  rcases h with h | ⟨y, h⟩
  · exact .inl (s _ _ h)
  · exact .inr ⟨y, h.same s⟩
theorem notCls_of {o : Obj} {vs : Array Value} (hd : o.data = .fields vs) : PySem.W.notCls o = true := by
  unfold PySem.W.notCls
  rw [hd]
section
variable {X : Cx} {pins : List (Addr × Obj)} {σ : L2.St} {H : Hp} {s : Shared} {a D : Addr} {y : V}
theorem ExF.inst (I : Inv X pins σ H s) (h : ExF H a D y) : ∃ ox od u, PySem.W.InstAt s.heap a ox D (some od) ∧ PySem.W.lookIn "at" od = some (some u) ∧ RelV y u := by
  obtain ⟨dx, h1, h2⟩ := h
  have z1 : ObjOk X.prog X.w H s.heap a (.ext fun h => ∃ (oe : Obj) (vs : Array Value), h.get? a = some oe ∧ Zc (.ref D) (some dx) oe ∧ oe.data = .fields vs) := I.hok a _ h1
  obtain ⟨⟨oe, vs, ha, ⟨hc, hd⟩, hv⟩, _⟩ := z1
  have z2 : ObjOk X.prog X.w H s.heap dx (.xd [(("at" : Str), y)]) := I.hok dx _ h2
  obtain ⟨mA, hn, hr⟩ := z2
  obtain ⟨od, ho, hl⟩ := lookIn_ns hn
  have l : List.lookup ("at" : Str) [(("at" : Str), y)] = some y := by simp [List.lookup]
  obtain ⟨u, hu, ru⟩ := RelO.some_of (v := y) (o := mA "at") (by rw [← l]; exact hr "at")
  exact ⟨oe, od, u, ⟨ha, hc, notCls_of hv, by rw [hd]; exact ho⟩, by rw [hl, hu], ru⟩
theorem ExAt.inst (I : Inv X pins σ H s) (h : ExAt H a D) : ∃ ox od, PySem.W.InstAt s.heap a ox D od := by
  rcases h with h | ⟨y, h⟩
  · obtain ⟨⟨oe, vs, ha, ⟨hc, hd⟩, hv, _⟩, _⟩ := I.hok a _ h
    exact ⟨oe, none, ⟨ha, hc, notCls_of hv, by rw [hd]; exact trivial⟩⟩
  · obtain ⟨ox, od, _, J, _⟩ := h.inst I
    exact ⟨ox, some od, J⟩
end
/-- X(e), X an own class without own __init__ -/
def tExN (C : Addr) (te : TE) : TE := fun σ H Q => te σ H fun _ H1 => ∀ a H2, H1 a = none → Same H1 H2 → H2 a = some (ExO (.ref C) a) → Q (.ref a) H2
theorem pe_excN {X : Cx} {C : Addr} {bmB : List Value} {B newId initId : String} {x : Str} {e : Expr} {te : TE} {p pos : Pos} (F : ExcBaseFacts B newId initId bmB) (q : PySem.W.excIn X.K C bmB newId = true) (gC : X.mg x = some (.ref C)) (kC : PySem.W.keepIn X.K (.ref C) = true) (hg : Gl X x)
    (he : PE X e te) (hs : starEach [e] X.env = (false, eval e X.env) :: starEach [] X.env := by rfl) (hdb : (x == ("__debug__" : Str)) = false := by decide) : PE X (.Call (.Name x p) [e] [] pos) (tExN C te) :=
  pe_weak (pe_exc1 F q gC kC hg (pe_cl he) hs hdb) fun _ _ _ h => ⟨_, fun _ _ z a na => z a _ na (same_new na) upd_same, h⟩
/-- isinstance(e, c) of an exception -/
def rIsX (K : PySem.W.Frag) : List V → Hp → VK → Prop := fun xs H Q => ∃ (a D : Addr) (c : V) (cv : Value) (b : Bool), xs = [.ref a, c] ∧ ExAt H a D ∧ ExcC K D ∧ (∀ u, RelV c u → u = cv) ∧ PySem.W.kitOne K (.ref D) cv = some b ∧ Q (.bl b) H
theorem call_isX {X : Cx} : CallR X (.builtin "isinstance") (rIsX X.K) := by
  intro pins s σ H xs us Q I r h
  obtain ⟨a, D, c, cv, b, rfl, hE, C, hcv, e, q⟩ := h
  cases r with
  | cons rx rr =>
    cases rr with
    | cons rt rr =>
      cases rr
      cases rx
      have ec := hcv _ rt
      subst ec
      obtain ⟨ox, od, J⟩ := hE.inst I
      have cl : (PySem.W.clsIn X.K D).isSome = true := by
        obtain ⟨cd, hc, _⟩ := PySem.W.any_some C.hd
        rw [hc]
        rfl
      exact PySem.W.kia_one (PySem.W.kitx_exc cl C.hg C.hk C.hs C.ha C.hn C.ht C.hm) I.kIn J e (fun z => nomatch z) fun tk => ⟨.bl b, H, I.kept (t' := tk) fun _ _ z => z, rfl, q⟩
/-- e.at of an exception -/
def tAtX (K : PySem.W.Frag) (te : TE) : TE := fun σ H Q => te σ H fun x H1 => ∃ (a D : Addr) (y : V), x = .ref a ∧ ExF H1 a D y ∧ ExcC K D ∧ PySem.W.findIn K (.ref D) "at" = some none ∧ Q y H1
theorem pe_atX {X : Cx} {e : Expr} {te : TE} {pos : Pos} (he : PE X e te) (hb : attributeBase e "at" X.env (eval e X.env) = eval e X.env := by rfl) : PE X (.Attribute e "at" pos) (tAtX X.K te) := by
  refine ⟨fun pins s σ H Q I h => attr_of hb (thn (he.run pins s σ H _ I h) fun u s1 hh => ?_)⟩
  obtain ⟨x, H1, I1, rx, a, D, y, rfl, hE, C, nf, q⟩ := hh
  cases rx
  obtain ⟨ox, od, u, J, l, ru⟩ := hE.inst I1
  exact HandSPX.exc_get I1.kIn J C.hg C.hk C.hs (PySem.W.findObj_own C.hd nf rfl l) (handed_of ru) ⟨y, H1, I1.tok _, ru, q⟩
/-- the promise of «def __init__(self, at): self.at = at» -/
def spInit (K : PySem.W.Frag) : Sp := fun vs H Q _ => ∃ (a C : Addr) (y : V), vs = [.ref a, y] ∧ OexC K C ∧ PySem.W.findIn K (.ref C) "at" = some none ∧ H a = some (exo a C none) ∧
  ∀ dx, H dx = none → dx ≠ a → Q .non (upd (upd H dx (exd dx [(("at" : Str), y)])) a (exo a C (some dx)))
theorem del_new {H1 : Hp} {a dx : Addr} {o1 o2 o3 : HO} (na : H1 a = none) (ne : dx ≠ a) : del (upd (upd (upd H1 a o1) dx o2) a o3) a = upd H1 dx o2 := by
  funext b
  by_cases hb : b = a
  · subst hb
    rw [del_same, upd_ne (Ne.symm ne), na]
  · rw [del_ne hb, upd_ne hb]
    by_cases hd : b = dx
    · subst hd
      rw [upd_same, upd_same]
    · rw [upd_ne hd, upd_ne hd, upd_ne hb]
/-- what C(y) asks, C with that __init__: the exception and its field -/
theorem made_F {K : PySem.W.Frag} {C : Addr} {y : V} {H1 : Hp} {Q : VK} (T : OexC K C) (nf : PySem.W.findIn K (.ref C) "at" = some none) (h : ∀ a H2, H1 a = none → Same H1 H2 → ExF H2 a C y → Q (.ref a) H2) :
    [y].length ≤ 1000 ∧ ∀ a, H1 a = none → spInit K (.ref a :: ([y] ++ [])) (upd H1 a (exo a C none)) (fun v H2 => v = .non ∧ ∃ (d : Addr) (fs : List (Str × V)), H2 a = some (exo a C (some d)) ∧ H2 d = some (exd d fs) ∧ H1 d = none ∧
      Made (upd (del H2 a) d (.xd fs)) (Value.ref C) (some d) Q) (fun _ _ _ => False) := by
  refine ⟨by simp, fun a na => ⟨a, C, y, rfl, T, nf, upd_same, fun dx nd ne => ?_⟩⟩
  have nd1 : H1 dx = none := by
    rw [upd_ne ne] at nd
    exact nd
  refine ⟨rfl, dx, [(("at" : Str), y)], upd_same, by rw [upd_ne ne, upd_same], nd1, ?_⟩
  rw [del_new na ne, upd_upd]
  intro b H3 nb s3 e3
  have sd : Same H1 (upd H1 dx (.xd [(("at" : Str), y)])) := same_new nd1
  exact h b H3 (sd.free nb) (sd.trans s3) ⟨dx, e3, s3 _ _ upd_same⟩
end Ev1
namespace Gx
open PySem PySem.Spec PyProof.Rows L2 GxR
/-! ### any, all of a generator expression whose element is run by the layer's own rules -/
/-- the generator's frame running, awake under any | all -/
abbrev gCx (X : Cx) (ge : Expr) (s : Shared) (H : Hp) (cenv : Env) (it : Addr) (fp : List Addr) (pn : List (Addr × Obj)) : Cx :=
  { X with
    s_0 := s
    H_0 := H
    env := cenv
    outer := X.stack
    stack := cenv :: X.stack
    ex := fp
    fn := fun _ => false
    pn := pn
    xe := fun _ _ => False
    A := X.A.in1.in1.over (.compLoop ge 0 (.ref it) .none cenv) [] }
theorem room_gen {k : Nat} {X : Cx} {elt : Expr} {gs : List Comprehension} {scope : Scope} {pos : Pos} {s : Shared} {H : Hp} {cenv : Env} {it : Addr} {fp : List Addr} {pn : List (Addr × Obj)} (r : Room (k + 1) X.A) :
    Room k (gCx X (.GeneratorExp elt gs scope pos) s H cenv it fp pn).A := by
  refine ⟨r.hd, ?_, ?_⟩
  · have := r.dp
    show X.A.depth + 0 + 1 + 3 * k + 5 < recursionLimit
    omega
  · have := r.un
    show X.A.units + 1 + 1 + 0 + 3 + 16 * k + 200 < cLine
    omega
/-- gens, drawn and toks say nothing but that all are bare -/
theorem inv_gens {X : Cx} {pins : List (Addr × Obj)} {σ : L2.St} {H : Hp} {s s' : Shared} (I : Inv X pins σ H s) (hh : s'.heap = s.heap) (ho : s'.os = s.os) (hb : AllBare s'.gens) : Inv X pins σ H s' := by
  obtain ⟨h, g, d, t, o⟩ := s
  obtain ⟨h', g', d', t', o'⟩ := s'
  dsimp only at hh ho hb
  subst hh ho
  exact { ok := I.ok, os := I.os, bare := hb, base := I.base, loc := I.loc, cell := I.cell, free := I.free, freeC := I.freeC, pin := I.pin, hok := I.hok, len := I.len }
theorem bare_set {s : Shared} {g : Nat} {x : GenState} (h : AllBare s.gens) (hx : x.bare = true) : AllBare (s.setGen g x).gens := by
  intro y hy
  have hy' : y ∈ s.gens.setIfInBounds g x := hy
  obtain ⟨i, hi, e⟩ := Array.mem_iff_getElem.mp hy'
  by_cases hg : g = i
  · subst hg
    rw [Array.getElem_setIfInBounds_self] at e
    rw [← e]
    exact hx
  · rw [Array.getElem_setIfInBounds_ne (by simpa using hi) hg] at e
    rw [← e]
    exact h _ (Array.getElem_mem _)
section
variable {X : Cx} {pins : List (Addr × Obj)} {σ : L2.St} {H : Hp} {s : Shared}
/-- what the frame of the generator knows as it begins -/
theorem gen_start {ge : Expr} {scope : Scope} {own : List (Str × Nat)} {fp : List Addr} {it a : Addr} {code : Value} {go : Obj} {gs : Array GenState} {tk : Nat} {h5 : Heap} {m : Str → Option Value} (I : Inv X pins σ H s) (hc : X.calm = true) (ok : BlkOk X.N X.env.scope scope own) (hN : X.N.Nodup)
    (nc : ∀ y ∈ scope.names, y.2 ≠ .cell) (hfp : ∀ b ∈ fp, FpOk X pins H b ∧ b < s.heap.objs.size) (fr : (X.A.in1.in1.over (.compLoop ge 0 (.ref it) .none (genEnv scope (cloFrom X.env.cells scope.names []) s.heap.objs.size code builtinsNs X.env)) []).frames = some (genEnv scope (cloFrom X.env.cells scope.names []) s.heap.objs.size code builtinsNs X.env :: X.stack))
    (hg : AllBare gs) (kp : ∀ b o, s.heap.get? b = some o → h5.get? b = some o) (hns : h5.Ns s.heap.objs.size m) (ha : h5.get? a = some go) (ha1 : s.heap.objs.size < a) (hd : ∀ v, go.data ≠ .cell v) :
    Inv (gCx X ge s H (genEnv scope (cloFrom X.env.cells scope.names []) s.heap.objs.size code builtinsNs X.env) it fp [(a, go)]) [] (wipe σ (own.map (·.2))) H { s with gens := gs, toks := tk, heap := h5 } := by
  have cm : ∀ {y : Str} {c : Addr}, (cloFrom X.env.cells scope.names []).lookup y = some c → X.env.cells.lookup y = some c := fun {y c} e => by
    rcases cloFrom_mem (PySem.mem_of_lookup e) with z | ⟨h1, z⟩
    · cases z
    · have q : ∃ c', X.env.cells.lookup y = some c' := by
        rcases ok.free (y, .free) h1 rfl with k | k
        · exact I.ok.has y (.inl k)
        · exact I.ok.has y (.inr k)
      obtain ⟨c', q⟩ := q
      rw [q] at z
      rw [q, z]
      rfl
  have ch : ∀ {y : Str}, scope.names.lookup y = some .free → ∃ c, (cloFrom X.env.cells scope.names []).lookup y = some c := fun {y} e => mem_lookup (cloFrom_has (PySem.mem_of_lookup e))
  have noc : ∀ {y : Str}, scope.names.lookup y ≠ some .cell := fun {y} e => nc _ (PySem.mem_of_lookup e) rfl
  have stL : ∀ b ∈ frs X.stack, b < s.heap.objs.size := fun b hb => by
    obtain ⟨_, o, e, _⟩ := I.stack.mem hb
    exact Heap.lt_size e
  have okG : (gCx X ge s H (genEnv scope (cloFrom X.env.cells scope.names []) s.heap.objs.size code builtinsNs X.env) it fp [(a, go)]).Ok := {
    mod := I.ok.mod
    kind := ok.kind
    glob := I.ok.glob
    blt := rfl
    above := Nat.le_refl _
    inj := fun x y c h1 h2 => I.ok.inj x y c (cm h1) (cm h2)
    has := fun x h => h.elim (fun k => absurd k noc) fun k => ch k
    cab := fun x c h => Bool.noConfusion h
    hd := fun h => I.ok.hd h
    frames := fr
    stk := .inr ⟨rfl, rfl⟩
    exf := fun b hb => ⟨Nat.ne_of_lt (hfp b hb).2, fun x c e => (hfp b hb).1.2.2.2.2.1 x c (cm e)⟩
    bs := I.bs
    bsz := Nat.le_trans I.ok.bsz I.sz
    noex := fun b o e hb => by
      rcases (hfp b hb).1.2.2.2.1 with z | z
      · exact I.ok.noex b o e z
      · exact Nat.lt_irrefl _ (Nat.lt_of_lt_of_le (Heap.lt_size e) (Nat.le_trans I.ok.bsz z))
    exfs := fun b hb z => by
      rcases List.mem_cons.mp (I.stkSub b z) with y | y
      · exact (hfp b hb).1.2.1 y
      · exact (hfp b hb).1.2.2.1 y
    funs := I.stack
    frf := I.stkFree }
  refine { ok := okG, os := rfl, bare := hg, base := Un.kept kp, loc := ⟨m, hns, fun i x v e1 e2 e3 => ?_⟩, cell := fun x c e => ?_, free := I.hok.fresh (Nat.le_refl _), freeC := fun x c e => I.freeC x c (cm e), pin := fun p hp => ?_, hok := I.hok.kept kp, len := (wipe_length _ _).trans I.len }
  · obtain ⟨e2, hi⟩ := wipe_some e2
    have hf : scope.names.lookup x = some .free := by
      have no : ∀ k, scope.names.lookup x = some k → ¬ (k = .local ∨ k = .cell) := fun k hk hh => by
        rcases ok.own _ (PySem.mem_of_lookup hk) hh with z | z
        · obtain ⟨p, hp, hx⟩ := List.mem_map.mp z
          have q := ok.ix p hp
          have hx' : p.1 = x := hx
          rw [hx'] at q
          exact hi (List.mem_map.mpr ⟨p, hp, nodup_ix hN q e1⟩)
        · exact z (List.mem_of_getElem? e1)
      have e3 : Vis scope x := e3
      rcases e3 with k | k | k
      · exact absurd (.inl rfl) (no _ k)
      · exact absurd (.inr rfl) (no _ k)
      · exact k
    have hv := ok.free _ (PySem.mem_of_lookup hf) rfl
    obtain ⟨m0, _, hl⟩ := I.loc
    obtain ⟨u, ru, q⟩ := hl i x v e1 e2 (.inr hv)
    refine ⟨u, ru, .inr ⟨.inr hf, ?_⟩⟩
    rcases q with ⟨k, _⟩ | ⟨_, c, ec, z⟩
    · have k' : X.env.scope.names.lookup x = some .local := k
      rcases hv with y | y
      · have y' : X.env.scope.names.lookup x = some .cell := y
        rw [k'] at y'
        cases y'
      · have y' : X.env.scope.names.lookup x = some .free := y
        rw [k'] at y'
        cases y'
    · obtain ⟨c', e'⟩ := ch hf
      have e2 := cm e'
      rw [ec] at e2
      cases e2
      exact ⟨c, e', z.keeps kp⟩
  · obtain ⟨v, z⟩ := I.cell x c (cm e)
    exact ⟨v, z.keeps kp⟩
  · have hp' : p ∈ [(a, go)] ++ ([] : List (Addr × Obj)) := hp
    have e : p = (a, go) := by simpa using hp'
    subst e
    refine ⟨ha, I.hok.fresh (Nat.le_of_lt ha1), Nat.ne_of_gt ha1, fun z => ?_, hd⟩
    exact Nat.lt_irrefl _ (Nat.lt_trans (stL _ z) ha1)
end
/-- what a turn's way through the generator must reach. stopb: the truth at which any (true), all (false) stops -/
def GEndP (Y : Cx) (σw : L2.St) (stopb : Bool) (Q : VK) : Nat → Shared → Shared → Prop := fun _ _ s => ∃ H', Inv Y [] σw H' s ∧ Q (.bl (!stopb)) H'
def GProto (Y : Cx) (σw : L2.St) (fp : List Addr) (tn : Nat → Heap → Prop) (W : Nat → Nat → Hp → Prop) (stopb : Bool) (Q : VK) : Protocol := fun n _ v s kap => ∃ (k : Bool) (H' : Hp), v = .bool k ∧ Inv Y [] σw H' s ∧
  ((k = stopb ∧ Q (.bl stopb) H') ∨ (k = !stopb ∧ ∃ i m, m < n ∧ W i m H' ∧ ∀ s'' : Shared, s''.heap = s.heap → s''.os = s.os → AllBare s''.gens → kap (.send .none) s''))
section
variable {X : Cx} {elt tg iter : Expr} {ifs : List Expr} {scope : Scope} {gpos : Pos} {s4 : Shared} {H4 : Hp} {cenv : Env} {it : Addr} {fp : List Addr} {pn : List (Addr × Obj)} {J : It} {tn : Nat → Heap → Prop} {g : TG} {tt : TT} {te : TE} {own : List Nat} {σ : L2.St} {stopb : Bool} {Q : VK} {W : Nat → Nat → Hp → Prop}
/-- the turns of the generator's own loop -/
theorem gen_loop (hc : X.calm = true) (hco : cenv.scope.isCoroutine = false) (T : Turn X.prog X.w X.K tg J fp it tn) (hpn : ∀ p ∈ pn, ∀ b ∈ fp, p.1 ≠ b)
    (pg : PG (gCx X (.GeneratorExp elt [⟨tg, iter, ifs, 0⟩] scope gpos) s4 H4 cenv it fp pn) tg g) (pt : PTs (gCx X (.GeneratorExp elt [⟨tg, iter, ifs, 0⟩] scope gpos) s4 H4 cenv it fp pn) ifs tt) (pe : PE (gCx X (.GeneratorExp elt [⟨tg, iter, ifs, 0⟩] scope gpos) s4 H4 cenv it fp pn) elt te)
    (turn : ∀ i m H, W i m H → (J.stop i H ∧ Q (.bl (!stopb)) H) ∨ (J.go i H ∧ ∃ Nx : Hp → Prop, (∀ H', Nx H' → ∃ m', m' < m ∧ W (i + 1) m' H') ∧ ∀ x H', J.yld i H x H' → g x (wipe σ own) H' fun σ2 H2 => wipe σ2 own = wipe σ own ∧ tt σ2 H2 fun b H3 =>
      if b = true then te σ2 H3 fun y H4 => (y = .bl stopb ∧ Q (.bl stopb) H4) ∨ (y = .bl (!stopb) ∧ Nx H4) else Nx H3)) :
    ∀ (m n i : Nat) (s0 s : Shared) (H' : Hp), m < n → W i m H' → Inv (gCx X (.GeneratorExp elt [⟨tg, iter, ifs, 0⟩] scope gpos) s4 H4 cenv it fp pn) [] (wipe σ own) H' s → tn i s.heap → (∀ b ∈ fp, H' b = none) →
      Seg (model X.prog X.w) X.A.in1.in1 (fun n s0 r s1 => r = .ok .next ∧ GEndP (gCx X (.GeneratorExp elt [⟨tg, iter, ifs, 0⟩] scope gpos) s4 H4 cenv it fp pn) (wipe σ own) stopb Q n s0 s1)
        (GProto (gCx X (.GeneratorExp elt [⟨tg, iter, ifs, 0⟩] scope gpos) s4 H4 cenv it fp pn) (wipe σ own) fp tn W stopb Q) n s0
        (.compLoop (.GeneratorExp elt [⟨tg, iter, ifs, 0⟩] scope gpos) 0 (.ref it) .none cenv) ((model X.prog X.w).den (.compLoop (.GeneratorExp elt [⟨tg, iter, ifs, 0⟩] scope gpos) 0 (.ref it) .none cenv)) [] s := by
  intro m
  induction m using Nat.strongRecOn with
  | ind m ih =>
    intro n i s0 s H' hmn w I st nf
    have fpk : ∀ {σ' : L2.St} {H' : Hp} {s' : Shared}, Inv (gCx X (.GeneratorExp elt [⟨tg, iter, ifs, 0⟩] scope gpos) s4 H4 cenv it fp pn) [] σ' H' s' → (∀ b ∈ fp, H' b = none) → ∀ b ∈ fp, FpOk (gCx X (.GeneratorExp elt [⟨tg, iter, ifs, 0⟩] scope gpos) s4 H4 cenv it fp pn) [] H' b := fun {σ' H' s'} I' hn b hb =>
      ⟨hn b hb, (I'.ok.exf b hb).1, I'.ok.exfs b hb, .inl hb, (I'.ok.exf b hb).2, fun p hp => hpn p (by simpa using hp) b hb⟩
    show Seg _ _ _ _ n s0 _ ((compTurn (.GeneratorExp elt [⟨tg, iter, ifs, 0⟩] scope gpos) 0 (.ref it) .none cenv).onRaise (leaving cenv)) [] s
    rw [compTurn_gen, Sem.onRaise_eq_wrap]
    refine seg_bind_wrap (wpAny_standAt ?_)
    rcases turn i m H' w with ⟨stop, q⟩ | ⟨go, Nx, hNx, step⟩
    · refine seg_bind_wrap (thnF (T.done (gCx X (.GeneratorExp elt [⟨tg, iter, ifs, 0⟩] scope gpos) s4 H4 cenv it fp pn) rfl rfl rfl hc i [] s _ H' (fun _ _ => False) I (fpk I nf) st stop) fun r s1 z => ?_)
      obtain ⟨rfl, I1⟩ := z
      exact seg_end (.ok .next) ⟨rfl, H', I1, q⟩
    · refine seg_bind_wrap (thnF (T.item (gCx X (.GeneratorExp elt [⟨tg, iter, ifs, 0⟩] scope gpos) s4 H4 cenv it fp pn) rfl rfl rfl hc i [] s _ H' (fun _ _ => False) I (fpk I nf) st go) fun r s1 z => ?_)
      obtain ⟨u, rfl, z⟩ := z
      refine seg_bind_wrap (thnF z fun _ s2 z2 => ?_)
      obtain ⟨x, H2, I2, r2, y2, st2, n2⟩ := z2
      have P2 := I2.pinned (fpk I2 n2) (T.obj _ _ st2)
      refine seg_bind_wrap (thnF (pg.run _ s2 _ H2 x u _ P2 r2 (step x H2 y2)) fun _ s3 z3 => ?_)
      obtain ⟨σ3, H3, I3, hw, q3⟩ := z3
      refine seg_bind_wrap (thnF (pt.run _ s3 σ3 H3 _ I3 q3) fun b sb zb => ?_)
      obtain ⟨Hb, Ib, qb⟩ := zb
      have back : ∀ {s' : Shared} {H' : Hp}, Inv (gCx X (.GeneratorExp elt [⟨tg, iter, ifs, 0⟩] scope gpos) s4 H4 cenv it fp pn) ([] ++ pinsAt fp s2.heap) σ3 H' s' →
          Inv (gCx X (.GeneratorExp elt [⟨tg, iter, ifs, 0⟩] scope gpos) s4 H4 cenv it fp pn) [] (wipe σ own) H' s' ∧ tn (i + 1) s'.heap ∧ ∀ b ∈ fp, H' b = none := fun {s' H'} I' => by
        have pin' : ∀ b ∈ fp, ∀ o, s2.heap.get? b = some o → s'.heap.get? b = some o ∧ H' b = none := fun b hb o e =>
          have y := I'.pin (b, o) (List.mem_append_right _ (List.mem_append_right _ (mem_pinsAt hb e)))
          ⟨y.1, y.2.1⟩
        have hl : (wipe σ own).length = σ3.length := by
          rw [← hw, wipe_length]
        refine ⟨(I'.unpinned (pins := [])).weak hl (fun j v e => ?_), T.keep _ _ _ st2 (fun b hb o e => (pin' b hb o e).1), fun b hb => ?_⟩
        · rw [← hw] at e
          exact (wipe_some e).1
        · obtain ⟨o, e, _⟩ := T.obj _ _ st2 b hb
          exact (pin' b hb o e).2
      cases b with
      | false =>
        simp only [Bool.false_eq_true, if_false] at qb ⊢
        obtain ⟨m', hm, w'⟩ := hNx _ qb
        obtain ⟨I', st', n'⟩ := back Ib
        exact seg_again rfl (ih m' hm n (i + 1) s0 sb Hb (Nat.lt_trans hm hmn) w' I' st' n')
      | true =>
        simp only [if_true] at qb ⊢
        have hy : ∀ v, yieldOut cenv v = yieldValue v := fun v => by simp only [yieldOut, hco, Bool.false_eq_true, if_false]
        simp only [hy]
        rw [Sem.bind_eq_wrap', Sem.bind_eq_wrap', Sem.wrap_wrap, Sem.wrap_wrap]
        refine seg_wrap (thnF (pe.run _ sb σ3 Hb _ Ib qb) fun z sy zy => ?_)
        obtain ⟨v, Hy, Iy, ry, qy⟩ := zy
        obtain ⟨I', st', n'⟩ := back Iy
        obtain ⟨n1, rfl⟩ : ∃ n1, n = n1 + 1 := ⟨n - 1, by omega⟩
        refine seg_at (seg_yield rfl rfl rfl ?_)
        rcases qy with ⟨rfl, q⟩ | ⟨rfl, q⟩
        · cases ry
          exact ⟨stopb, Hy, rfl, I', .inl ⟨rfl, q⟩⟩
        · cases ry
          obtain ⟨m', hm, w'⟩ := hNx _ q
          refine ⟨!stopb, Hy, rfl, I', .inr ⟨rfl, i + 1, m', by omega, w', fun s'' hh ho hb => ?_⟩⟩
          exact seg_again rfl (ih m' hm n1 (i + 1) s'' s'' Hy (by omega) w' (inv_gens I' hh ho hb) (by rw [hh]; exact st') n')
/-- the start of the generator's code -/
theorem gen_begin {n : Nat} {s0 s : Shared} {R : GenEnd} {Y : Protocol} (T : Turn X.prog X.w X.K tg J fp it tn) (st : tn 0 s.heap)
    (loop : Seg (model X.prog X.w) X.A.in1.in1 R Y n s0 (.compLoop (.GeneratorExp elt [⟨tg, iter, ifs, 0⟩] scope gpos) 0 (.ref it) .none cenv) ((model X.prog X.w).den (.compLoop (.GeneratorExp elt [⟨tg, iter, ifs, 0⟩] scope gpos) 0 (.ref it) .none cenv)) [] s) :
    Seg (model X.prog X.w) X.A.in1.in1 R Y n s0 (.compStart (.GeneratorExp elt [⟨tg, iter, ifs, 0⟩] scope gpos) 0 (.ref it) .none cenv) ((model X.prog X.w).den (.compStart (.GeneratorExp elt [⟨tg, iter, ifs, 0⟩] scope gpos) 0 (.ref it) .none cenv)) [] s := by
  show Seg _ _ _ _ n s0 _ ((compStart (.GeneratorExp elt [⟨tg, iter, ifs, 0⟩] scope gpos) 0 (.ref it) .none cenv).onRaise (leaving cenv)) [] s
  unfold compStart
  rw [Sem.onRaise_eq_wrap]
  refine seg_bind_wrap (wpAny_askSetting ?_)
  split
  · exact seg_again rfl loop
  · refine seg_bind_wrap (wpAny_rule ?_)
    show Seg _ _ _ _ n s0 _ ((standAt iter.pos >>= _).wrap _ _ _ _) [] s
    refine seg_bind_wrap (wpAny_standAt (seg_bind_wrap ?_))
    exact T.self _ 0 s _ _ st (seg_again rfl loop)
end
/-- the generator at a, number gn, is asleep (or fresh), with n turns at most -/
def Asleep (X Y : Cx) (σw : L2.St) (fp : List Addr) (tn : Nat → Heap → Prop) (W : Nat → Nat → Hp → Prop) (stopb : Bool) (Q : VK) (gn n : Nat) (s : Shared) : Prop :=
  ∃ (gs : GenState) (H' : Hp), s.gens[gn]? = some gs ∧ Inv Y [] σw H' s ∧ ∀ s'' : Shared, s''.heap = s.heap → s''.os = s.os → AllBare s''.gens →
    gs.Goes (model X.prog X.w) X.A.in1.in1 (fun n s0 r s1 => r = .ok .next ∧ GEndP Y σw stopb Q n s0 s1) (GProto Y σw fp tn W stopb Q) n (.send .none) s''
section
variable {X Y : Cx} {σw : L2.St} {fp : List Addr} {tn : Nat → Heap → Prop} {W : Nat → Nat → Hp → Prop} {Q : VK} {gn : Nat} {a : Addr} {go : Obj} {R : Result → Shared → Prop}
theorem set_at {s : Shared} {x : GenState} (h : gn < s.gens.size) : (s.setGen gn x).gens[gn]? = some x := by
  show (s.gens.setIfInBounds gn x)[gn]? = some x
  rw [Array.getElem?_setIfInBounds_self_of_lt h]
/-- one waking of the generator -/
theorem wake {stopb : Bool} {n : Nat} {s : Shared} {Q' : Option Value → Shared → Prop} {E : Value → Shared → Prop} (hh : X.A.handled = none) (hroom : X.A.depth < recursionLimit) (hp : (a, go) ∈ Y.pn) (hgo : ∀ h : Heap, h.get? a = some go → h.IsGen a gn) (S : Asleep X Y σw fp tn W stopb Q gn n s)
    (stop : ∀ s' H', Inv Y [] σw H' s' → Q (.bl stopb) H' → Q' (some (.bool stopb)) s') (next : ∀ s' m, m < n → Asleep X Y σw fp tn W stopb Q gn m s' → Q' (some (.bool (!stopb))) s') (done : ∀ s' H', Inv Y [] σw H' s' → Q (.bl (!stopb)) H' → Q' none s') :
    wpAny (model X.prog X.w) X.A.in1 (pyNext (.ref a)) Q' E s := by
  obtain ⟨gs, H', hg, I, hG⟩ := S
  have hlt : gn < s.gens.size := by
    rcases Nat.lt_or_ge gn s.gens.size with z | z
    · exact z
    · rw [Array.getElem?_eq_none z] at hg
      cases hg
  have ig : s.heap.IsGen a gn := hgo _ (I.pin (a, go) (List.mem_append_left _ hp)).1
  refine GenW.wpAny_gsz (n := s.gens.size) (Nat.le_refl _) ?_
  refine wpAny_pyNext_genexpQ (A := X.A.in1) hh I.nolimit hroom ig hg (hG _ rfl rfl (bare_set I.bare rfl)) (fun v s1 gs' hb hv sz => ?_) (fun s1 hp1 h' hk sz => ?_)
  · obtain ⟨k, H1, rfl, I1, z⟩ := hv
    have sz1 : gn < s1.gens.size := by
      have e : (s1.setGen gn gs').gens.size = s1.gens.size := GenW.setGen_size _ _ _
      rw [e] at sz
      omega
    have I2 : Inv Y [] σw H1 (s1.setGen gn gs') := inv_gens I1 rfl rfl (bare_set I1.bare hb)
    rcases z with ⟨rfl, q⟩ | ⟨rfl, i, m, hm, w, kap⟩
    · exact stop _ H1 I2 q
    · cases n with
      | zero => omega
      | succ n1 =>
        refine next _ n1 (Nat.lt_succ_self _) ⟨gs', H1, set_at sz1, I2, fun s'' h1 h2 h3 => ?_⟩
        exact kap s'' h1 h2 h3
  · obtain ⟨H1, I1, q⟩ := hp1
    refine done _ H1 ?_ q
    have I2 : Inv Y [] σw H1 (s1.setGen gn .finished) := inv_gens I1 rfl rfl (bare_set I1.bare rfl)
    exact I2.kept (h' := h') (t' := s1.toks) fun b o e => hk b o e
theorem any_loop (hh : X.A.handled = none) (hroom : X.A.depth < recursionLimit) (hp : (a, go) ∈ Y.pn) (hgo : ∀ h : Heap, h.get? a = some go → h.IsGen a gn)
    (fin : ∀ s' H' b, Inv Y [] σw H' s' → Q (.bl b) H' → R (.ok (.ret (.bool b))) s') : ∀ (n : Nat) (s : Shared), Asleep X Y σw fp tn W true Q gn n s → codeAny (model X.prog X.w) X.A (.builtin "any.loop" ⟨[.ref a], []⟩) R s := by
  intro n
  induction n using Nat.strongRecOn with
  | ind n ih =>
    intro s S
    refine codeAny_builtin F.entry_any_loop ?_
    rw [Around.under_plainId F.plain_any_loop _]
    show wpAny _ X.A.in1 (pyNext (.ref a) >>= _) _ _ s
    refine wpAny_bind (wake hh hroom hp hgo S (fun s' H' I q => ?_) (fun s' m hm S' => ?_) (fun s' H' I q => ?_))
    · refine wpAny_bind (wpAny_holding (wpAny_truthy_bool (wpAny_bind (wpAny_letGo ?_))))
      simp only [if_true]
      exact wpAny_bind (wpAny_rule (wpAny_pure (fin s' H' true I q)))
    · refine wpAny_bind (wpAny_holding (wpAny_truthy_bool (wpAny_bind (wpAny_letGo ?_))))
      simp only [Bool.not_true, Bool.false_eq_true, if_false]
      exact wpAny_pure ⟨plainId_quiet F.plain_any_loop _, ih m hm s' S'⟩
    · exact wpAny_bind (wpAny_rule (wpAny_pure (fin s' H' false I q)))
theorem all_loop (hh : X.A.handled = none) (hroom : X.A.depth < recursionLimit) (hp : (a, go) ∈ Y.pn) (hgo : ∀ h : Heap, h.get? a = some go → h.IsGen a gn)
    (fin : ∀ s' H' b, Inv Y [] σw H' s' → Q (.bl b) H' → R (.ok (.ret (.bool b))) s') : ∀ (n : Nat) (s : Shared), Asleep X Y σw fp tn W false Q gn n s → codeAny (model X.prog X.w) X.A (.builtin "all.loop" ⟨[.ref a], []⟩) R s := by
  intro n
  induction n using Nat.strongRecOn with
  | ind n ih =>
    intro s S
    refine codeAny_builtin F.entry_all_loop ?_
    rw [Around.under_plainId F.plain_all_loop _]
    show wpAny _ X.A.in1 (pyNext (.ref a) >>= _) _ _ s
    refine wpAny_bind (wake hh hroom hp hgo S (fun s' H' I q => ?_) (fun s' m hm S' => ?_) (fun s' H' I q => ?_))
    · refine wpAny_bind (wpAny_holding (wpAny_truthy_bool (wpAny_bind (wpAny_letGo ?_))))
      simp only [Bool.false_eq_true, if_false]
      exact wpAny_bind (wpAny_rule (wpAny_pure (fin s' H' false I q)))
    · refine wpAny_bind (wpAny_holding (wpAny_truthy_bool (wpAny_bind (wpAny_letGo ?_))))
      simp only [Bool.not_false, if_true]
      exact wpAny_pure ⟨plainId_quiet F.plain_all_loop _, ih m hm s' S'⟩
    · exact wpAny_bind (wpAny_rule (wpAny_pure (fin s' H' true I q)))
end
/-- any(elt for target in iter if ..) (stopb true), all(..) (stopb false): W by the turn and a measure, Nx what a turn is to reach; P: the def's table of code objects -/
def tAA (P : Addr) (stopb : Bool) (wi : TI) (g : TG) (tt : TT) (te : TE) (vs : List Nat) : TE := fun σ H Q => wi σ H fun J H1 => TabG H1 P ∧ ∀ H2, Tabbed P H1 H2 → ∃ W : Nat → Nat → Hp → Prop, (∃ m, W 0 m H2) ∧
  ∀ i m H, W i m H → (J.stop i H ∧ Q (.bl (!stopb)) H) ∨ (J.go i H ∧ ∃ Nx : Hp → Prop, (∀ H', Nx H' → ∃ m', m' < m ∧ W (i + 1) m' H') ∧ ∀ x H', J.yld i H x H' → g x (wipe σ vs) H' fun σ2 H2 => wipe σ2 vs = wipe σ vs ∧ tt σ2 H2 fun b H3 =>
    if b = true then te σ2 H3 fun y H4 => (y = .bl stopb ∧ Q (.bl stopb) H4) ∨ (y = .bl (!stopb) ∧ Nx H4) else Nx H3)
/-- over a tuple that stays -/
theorem aa_tup {K : PySem.W.Frag} {a : Addr} {xs : List V} {g : TG} {tt : TT} {te : TE} {vs : List Nat} {σ : L2.St} {H1 : Hp} {stopb : Bool} {Q : VK} (Pv : Nat → Hp → Prop) (h0 : Pv 0 H1) (hl : ∀ i H, i ≤ xs.length → Pv i H → SqT K H a xs)
    (hs : ∀ i x H, xs[i]? = some x → Pv i H → g x (wipe σ vs) H fun σ2 H2 => wipe σ2 vs = wipe σ vs ∧ tt σ2 H2 fun b H3 => if b = true then te σ2 H3 fun y H4 => (y = .bl stopb ∧ Q (.bl stopb) H4) ∨ (y = .bl (!stopb) ∧ Pv (i + 1) H4) else Pv (i + 1) H3) (hd : ∀ H, Pv xs.length H → Q (.bl (!stopb)) H) :
    ∃ W : Nat → Nat → Hp → Prop, (∃ m, W 0 m H1) ∧ ∀ i m H, W i m H → ((Itt K a).stop i H ∧ Q (.bl (!stopb)) H) ∨ ((Itt K a).go i H ∧ ∃ Nx : Hp → Prop, (∀ H', Nx H' → ∃ m', m' < m ∧ W (i + 1) m' H') ∧ ∀ x H', (Itt K a).yld i H x H' → g x (wipe σ vs) H' fun σ2 H2 => wipe σ2 vs = wipe σ vs ∧ tt σ2 H2 fun b H3 =>
      if b = true then te σ2 H3 fun y H4 => (y = .bl stopb ∧ Q (.bl stopb) H4) ∨ (y = .bl (!stopb) ∧ Nx H4) else Nx H3) := by
  refine ⟨fun i m H => i + m = xs.length ∧ Pv i H, ⟨xs.length, Nat.zero_add _, h0⟩, fun i m H ⟨e, p⟩ => ?_⟩
  have sq := hl i H (by omega) p
  cases m with
  | zero =>
    have ei : i = xs.length := by omega
    subst ei
    exact .inl ⟨⟨xs, sq, Nat.le_refl _⟩, hd H p⟩
  | succ m =>
    have lt : i < xs.length := by omega
    refine .inr ⟨⟨xs, xs[i], sq, List.getElem?_eq_getElem lt⟩, Pv (i + 1), fun H' q => ⟨m, Nat.lt_succ_self m, by omega, q⟩, fun x H' y => ?_⟩
    obtain ⟨rfl, y⟩ := y
    exact hs i x _ (y xs sq) p
section
variable {X : Cx} {pins : List (Addr × Obj)} {σ : L2.St} {H : Hp} {s : Shared} {c P : Addr} {elt tg iter : Expr} {ifs : List Expr} {scope : Scope} {own : List (Str × Nat)} {gpos : Pos} {wi : TI} {g : TG} {tt : TT} {te : TE} {stopb : Bool} {k : Nat}
/-- the scope of a generator expression: no cells of its own -/
structure GSc (scope : Scope) : Prop where
  co : scope.isCoroutine = false
  nc : ∀ y ∈ scope.names, y.2 ≠ .cell
  dot : scope.names.lookup (".0" : Str) = some NameKind.local
theorem gen_make {Q : VK} {Q' : Value → Shared → Prop} (hr : Room k X.A) (hc : X.calm = true) (hN : X.N.Nodup) (TB : TabB X.base X.mg c P) (hcode : X.env.code = .ref c) (hi : PI X tg iter wi) (ok : BlkOk X.N X.env.scope scope own) (S : GSc scope)
    (hg : ∀ (s : Shared) (H : Hp) (C : Addr) (code : Value) (it : Addr) (fp : List Addr) (pn : List (Addr × Obj)), PG (gCx X (.GeneratorExp elt [⟨tg, iter, ifs, 0⟩] scope gpos) s H (genEnv scope (cloFrom X.env.cells scope.names []) C code builtinsNs X.env) it fp pn) tg g)
    (ht : ∀ (s : Shared) (H : Hp) (C : Addr) (code : Value) (it : Addr) (fp : List Addr) (pn : List (Addr × Obj)), PTs (gCx X (.GeneratorExp elt [⟨tg, iter, ifs, 0⟩] scope gpos) s H (genEnv scope (cloFrom X.env.cells scope.names []) C code builtinsNs X.env) it fp pn) ifs tt)
    (he : ∀ (s : Shared) (H : Hp) (C : Addr) (code : Value) (it : Addr) (fp : List Addr) (pn : List (Addr × Obj)), PE (gCx X (.GeneratorExp elt [⟨tg, iter, ifs, 0⟩] scope gpos) s H (genEnv scope (cloFrom X.env.cells scope.names []) C code builtinsNs X.env) it fp pn) elt te)
    (hs : ∀ x, genFold iter X.env x = pure x) (I : Inv X pins σ H s) (h : tAA P stopb wi g tt te (own.map (·.2)) σ H Q)
    (hQ : ∀ (a : Addr) (go : Obj) (gn n : Nat) (Y : Cx) (fp : List Addr) (tn : Nat → Heap → Prop) (W : Nat → Nat → Hp → Prop) (s5 : Shared), (a, go) ∈ Y.pn → (∀ h : Heap, h.get? a = some go → h.IsGen a gn) → (∀ s' H', Inv Y [] (wipe σ (own.map (·.2))) H' s' → Inv X pins σ H' s') → s5.heap.get? a = some go →
      Asleep X Y (wipe σ (own.map (·.2))) fp tn W stopb Q gn n s5 → Q' (.ref a) s5) :
    wpAny (model X.prog X.w) X.A (eval (.GeneratorExp elt [⟨tg, iter, ifs, 0⟩] scope gpos) X.env) Q' X.xe s := by
  have hfree : ∀ y ∈ scope.names, y.2 = .free → ∃ c, X.env.cells.lookup y.1 = some c := fun y hy e => by
    rcases ok.free y hy e with z | z
    · exact I.ok.has _ (.inl z)
    · exact I.ok.has _ (.inr z)
  refine wpAny_GeneratorExp_make S.co (closure_ok hfree) S.nc S.dot ok.kind (by have := hr.dp; omega) (thn (hi.run pins s σ H _ I h) fun xv s1 hx => thn hx fun itv s2 h2 => ?_) hs
  obtain ⟨it, fp, tn, J, H2, rfl, I2, T, st2, f2, ⟨ps, hP, hT⟩, q⟩ := h2
  have hPs : s2.heap.get? P = some { cls := .none, data := .fields ps } := I2.hok P _ hP
  have cd : PySem.W.CodeHd s2.heap c P := TB.code.keeps I2.bk
  have szf : ∀ b ∈ fp, b < s2.heap.objs.size := fun b hb => by
    obtain ⟨o, e, _⟩ := T.obj _ _ st2 b hb
    exact Heap.lt_size e
  have nP : ∀ b ∈ fp, b ≠ P := fun b hb z => by
    have e := (f2 b hb).1
    rw [z, hP] at e
    cases e
  refine ⟨I2.nolimit, ?_⟩
  have cont : ∀ (code : Value) (h3 : Heap) (tk : Nat) (more : Array Value), Heap.ExtBut P s2.heap h3 → s2.heap.objs.size ≤ h3.objs.size → h3.get? P = some { cls := .none, data := .fields (ps ++ more) } → TriplesOk (ps ++ more).toList →
      wpAny (model X.prog X.w) X.A (builtinsFor X.env.globals X.env.builtins) (fun bi s4 => ∀ h', h'.Ns s4.heap.objs.size (fun y => if y = ".0" then some (.ref it) else none) → Heap.SameBut s4.heap.objs.size (s4.heap.push { cls := .type "frame", data := .dict #[] }) h' →
        Q' (.ref h'.objs.size) { s4 with
          gens := s4.gens.push (.fresh (.compStart (.GeneratorExp elt [⟨tg, iter, ifs, 0⟩] scope gpos) 0 (.ref it) .none (genEnv scope (cloFrom X.env.cells scope.names []) s4.heap.objs.size code bi X.env))),
          toks := s4.toks + 1 + 1 + 1,
          heap := h'.push { cls := .type "generator", data := .fields #[.int s4.gens.size 0, .str "<genexpr>" (s4.toks + 1), .str (X.env.qual ++ "<genexpr>") (s4.toks + 1 + 1)] } }) X.xe { s2 with heap := h3, toks := tk } := by
    intro code h3 tk more hx hsz hP3 hT3
    obtain ⟨bm, ob, e1, e2, e3, e4, e5, e6, e7, e8⟩ := TB.bm
    have I3 : Inv X pins σ (upd H2 P (.tbl (ps ++ more))) { s2 with heap := h3, toks := tk } := inv_tab (g' := s2.gens) (d' := s2.drawn) (t' := tk) I2 hP (fun b o hb e => hx b o hb e) hP3 I2.bare
    have f3 : ∀ b ∈ fp, FpOk X pins (upd H2 P (.tbl (ps ++ more))) b ∧ b < h3.objs.size := fun b hb => ⟨⟨by rw [upd_ne (nP b hb)]; exact (f2 b hb).1, (f2 b hb).2⟩, Nat.lt_of_lt_of_le (szf b hb) hsz⟩
    have st3 : tn 0 h3 := T.keep _ _ _ st2 fun b hb o e => hx b o (nP b hb) e
    obtain ⟨W, ⟨m0, w0⟩, turn⟩ := q (upd H2 P (.tbl (ps ++ more))) ⟨⟨_, upd_same, hT3⟩, fun b hb => upd_ne hb⟩
    refine wpAny_builtinsFor (m := X.mg) (by rw [I3.ok.glob]; exact I3.mod.glob.keeps I3.bk) e1 e2 (hx _ _ e4 (I2.bk _ _ e5)) e6 e7 e8 ?_
    intro h' hn' hs'
    have hsz' : h'.objs.size = h3.objs.size + 1 := by
      rw [hs'.1]
      exact Heap.size_push ..
    have kp : ∀ b o, h3.get? b = some o → (h'.push { cls := .type "generator", data := .fields #[.int s2.gens.size 0, .str "<genexpr>" (tk + 1), .str (X.env.qual ++ "<genexpr>") (tk + 1 + 1)] }).get? b = some o := fun b o e =>
      Heap.get?_push_of_some _ (hs'.extBut b o (Nat.ne_of_lt (Heap.lt_size e)) (Heap.get?_push_of_some _ e))
    have st5 := T.keep _ _ _ st3 fun b hb o e => kp b o e
    have nf : ∀ b ∈ fp, (upd H2 P (.tbl (ps ++ more))) b = none := fun b hb => (f3 b hb).1.1
    have IG := gen_start (ge := .GeneratorExp elt [⟨tg, iter, ifs, 0⟩] scope gpos) (it := it) (code := code) (tk := tk + 1 + 1 + 1)
      (gs := s2.gens.push (.fresh (.compStart (.GeneratorExp elt [⟨tg, iter, ifs, 0⟩] scope gpos) 0 (.ref it) .none (genEnv scope (cloFrom X.env.cells scope.names []) h3.objs.size code builtinsNs X.env)))) I3 hc ok hN S.nc f3
      (by show pushEnvs [_] (pushEnvs [] X.A.frames) = _; rw [I.ok.frames]; rfl) (I2.bare.push rfl) kp (hn'.keeps fun b o e => Heap.get?_push_of_some _ e) (Heap.get?_push_size h' rfl) (show h3.objs.size < h'.objs.size by omega) (fun v z => by cases z)
    refine hQ h'.objs.size _ s2.gens.size (m0 + 1) _ fp tn W _ List.mem_cons_self (fun h0 e => ?_) (fun s' H' J' => ?_) (Heap.get?_push_size h' rfl) ⟨_, _, Array.getElem?_push_size .., IG, fun s'' h1 h2 h3' => ?_⟩
    · exact ⟨_, _, _, e, rfl, rfl, rfl⟩
    · exact I3.call' (ch := fp) J'.os J'.base J'.hok J'.bare fun b hb => ⟨(f3 b hb).1.2.2.2.1, (f3 b hb).1.2.1, (f3 b hb).1.2.2.2.2.1, (f3 b hb).1.2.2.2.2.2⟩
    · refine ⟨rfl, gen_begin T (by rw [h1]; exact st5) ?_⟩
      refine gen_loop hc S.co T (fun p hp b hb z => ?_) (hg _ _ _ _ _ _ _) (ht _ _ _ _ _ _ _) (he _ _ _ _ _ _ _) turn m0 (m0 + 1) 0 s'' s'' _ (Nat.lt_succ_self _) w0 (inv_gens IG h1 h2 h3') (by rw [h1]; exact st5) nf
      rw [List.mem_singleton.mp hp] at z
      have z1 := (f3 b hb).2
      rw [← z] at z1
      have z2 : h'.objs.size < h3.objs.size := z1
      omega
  cases hf : codeAmong gpos ps.toList with
  | none =>
    refine wpAny_genexprCodeX hcode (cd.code hPs hT) (cd.tab hPs) hf fun c' h' tk hx hge hlt hco' _ htab' _ => ?_
    have tr : TriplesOk (ps ++ #[rawInt gpos.line, rawInt gpos.col, Value.ref c']).toList := by
      obtain ⟨_, _, _, _, _, _, _, _, _, _, _, _, _, _, _, _, _, _, _, z, _⟩ := hco'
      exact z
    exact cont _ h' tk _ hx (Nat.le_trans hge (Nat.le_of_lt hlt)) htab'.2 tr
  | some cv =>
    refine wpAny_genexprCode_hit hcode (cd.code hPs hT) hf ?_
    exact cont cv s2.heap s2.toks #[] (Heap.ExtBut.refl _ _) (Nat.le_refl _) (by rw [Array.append_empty]; exact hPs) (by rw [Array.append_empty]; exact hT)
theorem pe_any {p pos : Pos} (hr : Room k X.A) (hb : Gl X "any") (hm : X.mg "any" = none) (hc : X.calm = true) (hN : X.N.Nodup) (TB : TabB X.base X.mg c P) (hcode : X.env.code = .ref c) (hi : PI X tg iter wi) (ok : BlkOk X.N X.env.scope scope own) (S : GSc scope)
    (hg : ∀ (s : Shared) (H : Hp) (C : Addr) (code : Value) (it : Addr) (fp : List Addr) (pn : List (Addr × Obj)), PG (gCx X (.GeneratorExp elt [⟨tg, iter, ifs, 0⟩] scope gpos) s H (genEnv scope (cloFrom X.env.cells scope.names []) C code builtinsNs X.env) it fp pn) tg g)
    (ht : ∀ (s : Shared) (H : Hp) (C : Addr) (code : Value) (it : Addr) (fp : List Addr) (pn : List (Addr × Obj)), PTs (gCx X (.GeneratorExp elt [⟨tg, iter, ifs, 0⟩] scope gpos) s H (genEnv scope (cloFrom X.env.cells scope.names []) C code builtinsNs X.env) it fp pn) ifs tt)
    (he : ∀ (s : Shared) (H : Hp) (C : Addr) (code : Value) (it : Addr) (fp : List Addr) (pn : List (Addr × Obj)), PE (gCx X (.GeneratorExp elt [⟨tg, iter, ifs, 0⟩] scope gpos) s H (genEnv scope (cloFrom X.env.cells scope.names []) C code builtinsNs X.env) it fp pn) elt te)
    (hs : ∀ x, genFold iter X.env x = pure x := by intro _; rfl)
    (hst : starEach [.GeneratorExp elt [⟨tg, iter, ifs, 0⟩] scope gpos] X.env = (false, eval (.GeneratorExp elt [⟨tg, iter, ifs, 0⟩] scope gpos) X.env) :: starEach [] X.env := by rfl) :
    PE X (.Call (.Name "any" p) [.GeneratorExp elt [⟨tg, iter, ifs, 0⟩] scope gpos] [] pos) (tAA P true wi g tt te (own.map (·.2))) := by
  refine ⟨fun pins s σ H Q I h => wpAny_Call_Name_kw (ld_blt I hb hm boot_any (PyProof.Rows.callWith_builtin1 ?_ hst (by rfl)))⟩
  rw [hst]
  refine Calls.spliced_cons (gen_make hr hc hN TB hcode hi ok S hg ht he hs I h fun a go gn n Y fp tn W s5 h1 h2 h3 h4 SL => Calls.spliced_nil ?_)
  refine call_function_tree F.kind_any F.plain_any F.entry_any (F.args_any1 _) ?_
  unfold Builtin.«any»
  refine wpAny_bind (m := oneArg "any" _) (wpAny_pure (wpAny_bind (wpAny_pyIter_gen (h2 _ h4) (wpAny_pure ⟨plainId_quiet F.plain_any_loop _, ?_⟩))))
  exact any_loop (I.ok.hd hc) hr.depth h1 h2 (fun s' H' b J q => ⟨.bl b, H', h3 s' H' J, rfl, q⟩) n s5 SL
theorem pe_all {p pos : Pos} (hr : Room k X.A) (hb : Gl X "all") (hm : X.mg "all" = none) (hc : X.calm = true) (hN : X.N.Nodup) (TB : TabB X.base X.mg c P) (hcode : X.env.code = .ref c) (hi : PI X tg iter wi) (ok : BlkOk X.N X.env.scope scope own) (S : GSc scope)
    (hg : ∀ (s : Shared) (H : Hp) (C : Addr) (code : Value) (it : Addr) (fp : List Addr) (pn : List (Addr × Obj)), PG (gCx X (.GeneratorExp elt [⟨tg, iter, ifs, 0⟩] scope gpos) s H (genEnv scope (cloFrom X.env.cells scope.names []) C code builtinsNs X.env) it fp pn) tg g)
    (ht : ∀ (s : Shared) (H : Hp) (C : Addr) (code : Value) (it : Addr) (fp : List Addr) (pn : List (Addr × Obj)), PTs (gCx X (.GeneratorExp elt [⟨tg, iter, ifs, 0⟩] scope gpos) s H (genEnv scope (cloFrom X.env.cells scope.names []) C code builtinsNs X.env) it fp pn) ifs tt)
    (he : ∀ (s : Shared) (H : Hp) (C : Addr) (code : Value) (it : Addr) (fp : List Addr) (pn : List (Addr × Obj)), PE (gCx X (.GeneratorExp elt [⟨tg, iter, ifs, 0⟩] scope gpos) s H (genEnv scope (cloFrom X.env.cells scope.names []) C code builtinsNs X.env) it fp pn) elt te)
    (hs : ∀ x, genFold iter X.env x = pure x := by intro _; rfl)
    (hst : starEach [.GeneratorExp elt [⟨tg, iter, ifs, 0⟩] scope gpos] X.env = (false, eval (.GeneratorExp elt [⟨tg, iter, ifs, 0⟩] scope gpos) X.env) :: starEach [] X.env := by rfl) :
    PE X (.Call (.Name "all" p) [.GeneratorExp elt [⟨tg, iter, ifs, 0⟩] scope gpos] [] pos) (tAA P false wi g tt te (own.map (·.2))) := by
  refine ⟨fun pins s σ H Q I h => wpAny_Call_Name_kw (ld_blt I hb hm (show bootBuiltins "all" = some (.builtin "all") by decide +kernel) (PyProof.Rows.callWith_builtin1 ?_ hst (by rfl)))⟩
  rw [hst]
  refine Calls.spliced_cons (gen_make hr hc hN TB hcode hi ok S hg ht he hs I h fun a go gn n Y fp tn W s5 h1 h2 h3 h4 SL => Calls.spliced_nil ?_)
  refine call_function_tree F.kind_all F.plain_all F.entry_all (F.args_all1 _) ?_
  unfold Builtin.«all»
  refine wpAny_bind (m := oneArg "all" _) (wpAny_pure (wpAny_bind (wpAny_pyIter_gen (h2 _ h4) (wpAny_pure ⟨plainId_quiet F.plain_all_loop _, ?_⟩))))
  exact all_loop (I.ok.hd hc) hr.depth h1 h2 (fun s' H' b J q => ⟨.bl b, H', h3 s' H' J, rfl, q⟩) n s5 SL
end
end Gx
namespace Gk
open PySem
open Sem (wp)
/-! ### what runs well whatever sleeps in the table of generators leaves the sleepers as they are
A sleeper is put into the table in place of each one that shows the same and can't be woken: where all goes well there too, none was woken. -/
/-- woken, it is stuck -/
def bad : Resume → Sem PySem.Fin := fun _ => .unsupported "asleep"
theorem stuck0 {M : Model} {Γ : Ctx} {p : Pos} {m : String} {s s' : Shared} {e : End} : ¬ Runs M Γ p (.unsupported m) [] s e s' := fun h => by cases h
theorem stuck {M : Model} {Γ : Ctx} {p : Pos} {m : String} {fs : List Frame} {s s' : Shared} {e : End} (h : Runs M Γ p (.unsupported m) fs s e s') : False := by
  cases h with
  | segRet a _ => exact stuck0 a
  | segGen a _ => exact stuck0 a
  | segSuspOut _ a => exact stuck0 a
  | segSuspGen _ a _ _ => exact stuck0 a
def ClS : GenState → Prop
  | .suspended _ _ _ _ fs _ => splitAtGen fs = none
  | _ => True
def ClE : End → Prop
  | .susp _ _ _ _ _ _ fs => splitAtGen fs = none
  | .ret _ => True
theorem ClE.st {e : End} (h : ClE e) : ClS e.genState := by
  cases e with
  | ret r => trivial
  | susp v g l k c p fs => exact h
/-- the one shows what the other shows -/
def PR (x y : GenState) : Prop := (∃ k l c p fs cl, x = .suspended bad l c p fs cl ∧ y = .suspended k l c p fs cl) ∨ (x = y ∧ ClS x)
theorem PR.seen {x y : GenState} (h : PR x y) : x.seen = y.seen := by
  rcases h with ⟨k, l, c, p, fs, cl, rfl, rfl⟩ | ⟨rfl, _⟩ <;> rfl
theorem PR.bare {x y : GenState} (h : PR x y) : x.bare = y.bare := by
  rcases h with ⟨k, l, c, p, fs, cl, rfl, rfl⟩ | ⟨rfl, _⟩ <;> rfl
structure Rel (A B : Array GenState) : Prop where
  sz : A.size = B.size
  pr : ∀ (i : Nat) (x : GenState), A[i]? = some x → ∃ y, B[i]? = some y ∧ PR x y
theorem Rel.set {A B : Array GenState} (h : Rel A B) {g : Nat} {x : GenState} (c : ClS x) : Rel (A.setIfInBounds g x) (B.setIfInBounds g x) := by
  refine ⟨by rw [Array.size_setIfInBounds, Array.size_setIfInBounds, h.sz], fun i y e => ?_⟩
  by_cases z : g = i
  · subst z
    by_cases l : g < A.size
    · rw [Array.getElem?_setIfInBounds_self_of_lt l] at e
      cases e
      exact ⟨x, Array.getElem?_setIfInBounds_self_of_lt (by rw [← h.sz]; exact l), .inr ⟨rfl, c⟩⟩
    · rw [Array.getElem?_eq_none (by rw [Array.size_setIfInBounds]; omega)] at e
      cases e
  · rw [Array.getElem?_setIfInBounds_ne z] at e ⊢
    exact h.pr i y e
theorem Rel.push {A B : Array GenState} (h : Rel A B) {x : GenState} (c : ClS x) : Rel (A.push x) (B.push x) := by
  refine ⟨by rw [Array.size_push, Array.size_push, h.sz], fun i y e => ?_⟩
  rw [Array.getElem?_push] at e ⊢
  by_cases z : i = A.size
  · rw [if_pos z] at e
    rw [if_pos (z.trans h.sz)]
    cases e
    exact ⟨x, rfl, .inr ⟨rfl, c⟩⟩
  · rw [if_neg z] at e
    rw [if_neg (fun y => z (y.trans h.sz.symm))]
    exact h.pr i y e
/-- the sleepers are kept -/
def Kp (A A' B B' : Array GenState) : Prop := ∀ (i : Nat) (k : Resume → Sem PySem.Fin) (l : List Value) (c : Code) (p : Pos) (fs : List Frame) (cl : Bool), A[i]? = some (.suspended bad l c p fs cl) → B[i]? = some (.suspended k l c p fs cl) →
  A'[i]? = some (.suspended bad l c p fs cl) ∧ B'[i]? = some (.suspended k l c p fs cl)
theorem Kp.refl (A B : Array GenState) : Kp A A B B := fun _ _ _ _ _ _ _ a b => ⟨a, b⟩
theorem Kp.trans {A A' A'' B B' B'' : Array GenState} (a : Kp A A' B B') (b : Kp A' A'' B' B'') : Kp A A'' B B'' := fun i k l c p fs cl h1 h2 =>
  let ⟨h3, h4⟩ := a i k l c p fs cl h1 h2
  b i k l c p fs cl h3 h4
theorem Kp.set {A B : Array GenState} {g : Nat} {x : GenState} (h : ∀ l c p fs cl, A[g]? ≠ some (.suspended bad l c p fs cl)) : Kp A (A.setIfInBounds g x) B (B.setIfInBounds g x) := fun i k l c p fs cl h1 h2 => by
  have ne : g ≠ i := fun z => h l c p fs cl (by rw [z]; exact h1)
  rw [Array.getElem?_setIfInBounds_ne ne, Array.getElem?_setIfInBounds_ne ne]
  exact ⟨h1, h2⟩
theorem Kp.woke {A A1 A2 B B1 B2 : Array GenState} {g : Nat} {x y : GenState} (h : ∀ l c p fs cl, A[g]? ≠ some (.suspended bad l c p fs cl)) (k1 : Kp (A.setIfInBounds g x) A1 (B.setIfInBounds g x) B1) (k2 : Kp (A1.setIfInBounds g y) A2 (B1.setIfInBounds g y) B2) : Kp A A2 B B2 := fun i k l c p fs cl h1 h2 => by
  have ne : g ≠ i := fun z => h l c p fs cl (by rw [z]; exact h1)
  obtain ⟨h3, h4⟩ := k1 i k l c p fs cl (by rw [Array.getElem?_setIfInBounds_ne ne]; exact h1) (by rw [Array.getElem?_setIfInBounds_ne ne]; exact h2)
  exact k2 i k l c p fs cl (by rw [Array.getElem?_setIfInBounds_ne ne]; exact h3) (by rw [Array.getElem?_setIfInBounds_ne ne]; exact h4)
theorem Kp.push {A B : Array GenState} {x : GenState} : Kp A (A.push x) B (B.push x) := fun i k l c p fs cl h1 h2 => by
  have l1 := (Array.getElem?_eq_some_iff.mp h1).1
  have l2 := (Array.getElem?_eq_some_iff.mp h2).1
  rw [Array.getElem?_push, Array.getElem?_push, if_neg (by omega), if_neg (by omega)]
  exact ⟨h1, h2⟩
abbrev wg (s : Shared) (B : Array GenState) : Shared := { s with gens := B }
/-- what a run of the one table tells of the other -/
def Lk (M : Model) (Γ : Ctx) (p : Pos) (t : Sem PySem.Fin) (fs : List Frame) (s : Shared) (e : End) (s' : Shared) : Prop :=
  splitAtGen fs = none → ∀ B, Rel s.gens B → ∃ B', Runs M Γ p t fs (wg s B) e (wg s' B') ∧ Rel s'.gens B' ∧ ClE e ∧ Kp s.gens s'.gens B B'
theorem split_app : ∀ {fs gs : List Frame}, splitAtGen fs = none → splitAtGen gs = none → splitAtGen (fs ++ gs) = none
  | [], _, _, h => h
  | .gen _ _ _ _ _ :: _, _, h, _ => by cases h
  | .ret k h' g l c p kp :: rest, gs, h, h2 => by
    have h1 : (splitAtGen rest).map _ = none := h
    show (splitAtGen (rest ++ gs)).map _ = none
    rw [split_app (Option.map_eq_none_iff.mp h1) h2]
    rfl
theorem split_tail {k h g l c p kp} {fs : List Frame} (e : splitAtGen (.ret k h g l c p kp :: fs) = none) : splitAtGen fs = none := by
  have e1 : (splitAtGen fs).map _ = none := e
  exact Option.map_eq_none_iff.mp e1
theorem lock {M : Model} {Γ : Ctx} {p : Pos} {t : Sem PySem.Fin} {fs : List Frame} {s : Shared} {e : End} {s' : Shared} (h : Runs M Γ p t fs s e s') : Lk M Γ p t fs s e s' := by
  induction h with
  | done => exact fun _ B R => ⟨B, .done, R, trivial, .refl _ _⟩
  | raise => exact fun _ B R => ⟨B, .raise, R, trivial, .refl _ _⟩
  | again q _ ih => exact fun f B R => let ⟨B', r, R', c, k⟩ := ih f B R; ⟨B', .again q r, R', c, k⟩
  | rule _ ih => exact fun f B R => let ⟨B', r, R', c, k⟩ := ih f B R; ⟨B', .rule r, R', c, k⟩
  | «at» _ ih => exact fun f B R => let ⟨B', r, R', c, k⟩ := ih f B R; ⟨B', .at r, R', c, k⟩
  | load q _ ih => exact fun f B R => let ⟨B', r, R', c, k⟩ := ih f B R; ⟨B', .load q r, R', c, k⟩
  | update q _ ih => exact fun f B R => let ⟨B', r, R', c, k⟩ := ih f B R; ⟨B', .update q r, R', c, k⟩
  | loadIfAlive _ ih => exact fun f B R => let ⟨B', r, R', c, k⟩ := ih f B R; ⟨B', .loadIfAlive r, R', c, k⟩
  | point _ ih => exact fun f B R => let ⟨B', r, R', c, k⟩ := ih f B R; ⟨B', .point r, R', c, k⟩
  | alloc _ ih => exact fun f B R => let ⟨B', r, R', c, k⟩ := ih f B R; ⟨B', .alloc r, R', c, k⟩
  | fresh _ ih => exact fun f B R => let ⟨B', r, R', c, k⟩ := ih f B R; ⟨B', .fresh r, R', c, k⟩
  | ask _ ih => exact fun f B R => let ⟨B', r, R', c, k⟩ := ih f B R; ⟨B', .ask r, R', c, k⟩
  | choose q _ ih => exact fun f B R => let ⟨B', r, R', c, k⟩ := ih f B R; ⟨B', .choose q r, R', c, k⟩
  | os _ ih => exact fun f B R => let ⟨B', r, R', c, k⟩ := ih f B R; ⟨B', .os r, R', c, k⟩
  | handled _ ih => exact fun f B R => let ⟨B', r, R', c, k⟩ := ih f B R; ⟨B', .handled r, R', c, k⟩
  | genState q _ ih =>
    intro f B R
    obtain ⟨B', r, R', c, k⟩ := ih f B R
    obtain ⟨y, hy, pr⟩ := R.pr _ _ q
    rw [pr.seen] at r
    exact ⟨B', .genState hy r, R', c, k⟩
  | stack _ ih => exact fun f B R => let ⟨B', r, R', c, k⟩ := ih f B R; ⟨B', .stack r, R', c, k⟩
  | thread _ ih => exact fun f B R => let ⟨B', r, R', c, k⟩ := ih f B R; ⟨B', .thread r, R', c, k⟩
  | newGen _ ih =>
    intro f B R
    obtain ⟨B', r, R', c, k⟩ := ih f (B.push _) (R.push trivial)
    rw [R.sz] at r
    exact ⟨B', .newGen r, R', c, Kp.push.trans k⟩
  | call _ _ ih1 ih2 =>
    intro f B R
    obtain ⟨B1, r1, R1, c1, k1⟩ := ih1 rfl B R
    obtain ⟨B2, r2, R2, c2, k2⟩ := ih2 f B1 R1
    exact ⟨B2, .call r1 r2, R2, c2, k1.trans k2⟩
  | callSusp _ ih =>
    intro f B R
    obtain ⟨B', r, R', c, k⟩ := ih rfl B R
    exact ⟨B', .callSusp r, R', split_app c rfl, k⟩
  | yield => exact fun _ B R => ⟨B, .yield, R, rfl, .refl _ _⟩
  | resumeFresh q _ qe _ ih1 ih2 =>
    intro f B R
    obtain ⟨y, hy, pr⟩ := R.pr _ _ q
    rcases pr with ⟨_, _, _, _, _, _, z, _⟩ | ⟨rfl, _⟩
    · cases z
    obtain ⟨B1, r1, R1, c1, k1⟩ := ih1 rfl _ (R.set (x := .running) trivial)
    obtain ⟨B2, r2, R2, c2, k2⟩ := ih2 f _ (R1.set c1.st)
    exact ⟨B2, .resumeFresh hy r1 qe r2, R2, c2, Kp.woke (fun l c p fs cl z => by rw [q] at z; cases z) k1 k2⟩
  | resumeSuspended q run qe _ ih1 ih2 =>
    intro f B R
    obtain ⟨y, hy, pr⟩ := R.pr _ _ q
    rcases pr with ⟨_, _, _, _, _, _, z, _⟩ | ⟨rfl, cy⟩
    · cases z
      exact (stuck run).elim
    obtain ⟨B1, r1, R1, c1, k1⟩ := ih1 cy _ (R.set (x := .running) trivial)
    obtain ⟨B2, r2, R2, c2, k2⟩ := ih2 f _ (R1.set c1.st)
    exact ⟨B2, .resumeSuspended hy r1 qe r2, R2, c2, Kp.woke (fun l c p fs cl z => by
      rw [q] at z
      cases z
      exact stuck run) k1 k2⟩
  | resumeJustStarted q v _ ih =>
    intro f B R
    obtain ⟨y, hy, pr⟩ := R.pr _ _ q
    rcases pr with ⟨_, _, _, _, _, _, z, _⟩ | ⟨rfl, _⟩
    · cases z
    obtain ⟨B', r, R', c, k⟩ := ih f B R
    exact ⟨B', .resumeJustStarted hy v r, R', c, k⟩
  | resumeThrowFresh q _ ih =>
    intro f B R
    obtain ⟨y, hy, pr⟩ := R.pr _ _ q
    rcases pr with ⟨_, _, _, _, _, _, z, _⟩ | ⟨rfl, _⟩
    · cases z
    obtain ⟨B', r, R', c, k⟩ := ih f _ (R.set (x := .finished) trivial)
    exact ⟨B', .resumeThrowFresh hy r, R', c, Kp.trans (Kp.set fun l c p fs cl z => by rw [q] at z; cases z) k⟩
  | resumeRunning q _ ih =>
    intro f B R
    obtain ⟨y, hy, pr⟩ := R.pr _ _ q
    rcases pr with ⟨_, _, _, _, _, _, z, _⟩ | ⟨rfl, _⟩
    · cases z
    obtain ⟨B', r, R', c, k⟩ := ih f B R
    exact ⟨B', .resumeRunning hy r, R', c, k⟩
  | resumeFinished q _ ih =>
    intro f B R
    obtain ⟨y, hy, pr⟩ := R.pr _ _ q
    rcases pr with ⟨_, _, _, _, _, _, z, _⟩ | ⟨rfl, _⟩
    · cases z
    obtain ⟨B', r, R', c, k⟩ := ih f B R
    exact ⟨B', .resumeFinished hy r, R', c, k⟩
  | segRet _ _ ih1 ih2 =>
    intro f B R
    obtain ⟨B1, r1, R1, _, k1⟩ := ih1 rfl B R
    obtain ⟨B2, r2, R2, c2, k2⟩ := ih2 (split_tail f) B1 R1
    exact ⟨B2, .segRet r1 r2, R2, c2, k1.trans k2⟩
  | segGen _ _ _ _ => exact fun f => by cases f
  | segSuspOut q _ ih =>
    intro f B R
    obtain ⟨B', r, R', c, k⟩ := ih rfl B R
    exact ⟨B', .segSuspOut q r, R', split_app c q, k⟩
  | segSuspGen q _ _ _ _ _ =>
    intro f
    rw [f] at q
    cases q
/-! ### the same of a tree -/
/-- behind it: the other table, with the sleepers as they were -/
def Bh {α : Type} (A B : Array GenState) (Q : α → Pos → Shared → Prop) : α → Pos → Shared → Prop := fun a p s' => ∃ A', Rel A' s'.gens ∧ Kp A A' B s'.gens ∧ Q a p (wg s' A')
theorem Bh.move {α : Type} {A A1 B B1 : Array GenState} {Q : α → Pos → Shared → Prop} (k : Kp A A1 B B1) {a : α} {p : Pos} {s' : Shared} (h : Bh A1 B1 Q a p s') : Bh A B Q a p s' :=
  let ⟨A', R, k', q⟩ := h
  ⟨A', R, k.trans k', q⟩
theorem wp_lock {α : Type} (M : Model) (Γ : Ctx) (t : Sem α) : ∀ (Q : α → Pos → Shared → Prop) (E : Value → Pos → Shared → Prop) (p : Pos) (s : Shared) (B : Array GenState), Rel s.gens B → wp M Γ t Q E p s → wp M Γ t (Bh s.gens B Q) (Bh s.gens B E) p (wg s B) := by
  induction t with
  | pure a => exact fun Q E p s B R h => ⟨s.gens, R, .refl _ _, h⟩
  | raise e => exact fun Q E p s B R h => ⟨s.gens, R, .refl _ _, h⟩
  | unsupported _ => exact fun Q E p s B R h => h
  | finish _ => exact fun Q E p s B R h => h
  | rule _ k ih => exact fun Q E p s B R h => ih () Q E p s B R h
  | «at» p' k ih => exact fun Q E p s B R h => ih () Q E p' s B R h
  | load a _ k ih =>
    rintro Q E p s B R ⟨o, ho, h⟩
    exact ⟨o, ho, ih o Q E p s B R h⟩
  | update a _ f k ih =>
    rintro Q E p s B R ⟨ho, h⟩
    exact ⟨ho, ih () Q E p { s with heap := s.heap.update a f } B R h⟩
  | loadIfAlive a k ih => exact fun Q E p s B R h => ih _ Q E p s B R h
  | point _ k ih => exact fun Q E p s B R h => ih () Q E p s B R h
  | register _ _ => exact fun Q E p s B R h => h
  | alloc o k ih => exact fun Q E p s B R h => ih s.heap.objs.size Q E p { s with heap := s.heap.push o } B R h
  | fresh k ih => exact fun Q E p s B R h => ih s.toks Q E p { s with toks := s.toks + 1 } B R h
  | ask k ih => exact fun Q E p s B R h => ih _ Q E p s B R h
  | choose src m k ih =>
    rintro Q E p s B R ⟨ho, h⟩
    exact ⟨ho, ih _ Q E p { s with drawn := s.drawn.bump src } B R h⟩
  | os q _ k ih => exact fun Q E p s B R h => ih _ Q E p { s with os := (Os.step s.os q).1 } B R h
  | call c hd _ _ k ih =>
    rintro Q E p s B R ⟨r, s', hr, h⟩
    obtain ⟨B', r', R', _, k'⟩ := lock hr rfl B R
    exact ⟨r, wg s' B', r', Sem.wp_mono M Γ _ (fun a p s z => Bh.move k' z) (fun a p s z => Bh.move k' z) _ _ (ih r Q E p s' B' R' h)⟩
  | handled own k ih => exact fun Q E p s B R h => ih _ Q E p s B R h
  | genState g k ih =>
    rintro Q E p s B R ⟨st, hs, h⟩
    obtain ⟨y, hy, pr⟩ := R.pr _ _ hs
    refine ⟨y, hy, ?_⟩
    rw [← pr.seen]
    exact ih _ Q E p s B R h
  | newGen c k ih =>
    intro Q E p s B R h
    have e := ih s.gens.size Q E p { s with gens := s.gens.push (.fresh c) } (B.push (.fresh c)) (R.push trivial) h
    rw [R.sz] at e
    exact Sem.wp_mono M Γ _ (fun a p s z => Bh.move Kp.push z) (fun a p s z => Bh.move Kp.push z) _ _ e
  | resume g r _ k ih =>
    rintro Q E p s B R ⟨res, s', hw, h⟩
    have key : ∃ B', Wakes M Γ p g r (wg s B) res (wg s' B') ∧ Rel s'.gens B' ∧ Kp s.gens s'.gens B B' := by
      unfold Wakes at hw ⊢
      cases hg : s.gens[g]? with
      | none =>
        rw [hg] at hw
        exact hw.elim
      | some x =>
        obtain ⟨y, hy, pr⟩ := R.pr _ _ hg
        rw [hg] at hw
        have hy' : (wg s B).gens[g]? = some y := hy
        rw [hy']
        cases x with
        | fresh c =>
          rcases pr with ⟨_, _, _, _, _, _, z, _⟩ | ⟨rfl, _⟩
          · cases z
          have nb : ∀ l c p fs cl, s.gens[g]? ≠ some (GenState.suspended bad l c p fs cl) := fun l c p fs cl z => by
            rw [hg] at z
            cases z
          cases r with
          | throw x =>
            obtain ⟨rfl, rfl⟩ := hw
            exact ⟨_, ⟨rfl, rfl⟩, R.set (x := .finished) trivial, Kp.set nb⟩
          | send v =>
            cases v with
            | none =>
              obtain ⟨e1, s1, run, qe, rfl, rfl⟩ := hw
              obtain ⟨B1, r1, R1, c1, k1⟩ := lock run rfl _ (R.set (x := .running) trivial)
              exact ⟨_, ⟨e1, wg s1 B1, r1, qe, rfl, rfl⟩, R1.set c1.st, Kp.woke nb k1 (.refl _ _)⟩
            | _ =>
              obtain ⟨rfl, rfl⟩ := hw
              exact ⟨B, ⟨rfl, rfl⟩, R, .refl _ _⟩
        | suspended k0 l0 c0 p0 fs cl =>
          obtain ⟨e1, s1, run, qe, rfl, rfl⟩ := hw
          rcases pr with ⟨_, _, _, _, _, _, z, _⟩ | ⟨rfl, cy⟩
          · cases z
            exact (stuck run).elim
          obtain ⟨B1, r1, R1, c1, k1⟩ := lock run cy _ (R.set (x := .running) trivial)
          refine ⟨_, ⟨e1, wg s1 B1, r1, qe, rfl, rfl⟩, R1.set c1.st, Kp.woke (fun l c p fs cl z => ?_) k1 (.refl _ _)⟩
          rw [hg] at z
          cases z
          exact stuck run
        | running =>
          rcases pr with ⟨_, _, _, _, _, _, z, _⟩ | ⟨rfl, _⟩
          · cases z
          obtain ⟨rfl, rfl⟩ := hw
          exact ⟨B, ⟨rfl, rfl⟩, R, .refl _ _⟩
        | finished =>
          rcases pr with ⟨_, _, _, _, _, _, z, _⟩ | ⟨rfl, _⟩
          · cases z
          obtain ⟨rfl, rfl⟩ := hw
          exact ⟨B, ⟨rfl, rfl⟩, R, .refl _ _⟩
    obtain ⟨B', hw', R', k'⟩ := key
    exact ⟨res, wg s' B', hw', Sem.wp_mono M Γ _ (fun a p s z => Bh.move k' z) (fun a p s z => Bh.move k' z) _ _ (ih res Q E p s' B' R' h)⟩
  | yield _ _ _ _ => exact fun Q E p s B R h => h
  | stack k ih => exact fun Q E p s B R h => ih _ Q E p s B R h
  | fork _ _ => exact fun Q E p s B R h => h
  | thread k ih => exact fun Q E p s B R h => ih _ Q E p s B R h
  | await _ _ _ _ _ => exact fun Q E p s B R h => h
/-! ### the word for it -/
def drug : GenState → GenState
  | .suspended _ l c p fs cl => .suspended bad l c p fs cl
  | x => x
theorem drug_rel (B : Array GenState) : Rel (B.map drug) B := by
  refine ⟨Array.size_map, fun i x e => ?_⟩
  rw [Array.getElem?_map] at e
  obtain ⟨y, hy, rfl⟩ := Option.map_eq_some_iff.mp e
  refine ⟨y, hy, ?_⟩
  cases y with
  | suspended k l c p fs cl => exact .inl ⟨k, l, c, p, fs, cl, rfl, rfl⟩
  | _ => exact .inr ⟨rfl, trivial⟩
theorem Rel.bareL {A B : Array GenState} (h : Rel A B) (b : PyProof.Rows.AllBare B) : PyProof.Rows.AllBare A := fun x hx => by
  obtain ⟨i, hi⟩ := Array.getElem?_of_mem hx
  obtain ⟨y, hy, pr⟩ := h.pr i x hi
  rw [pr.bare]
  exact b y (Array.mem_of_getElem? hy)
theorem Rel.bareR {A B : Array GenState} (h : Rel A B) (b : PyProof.Rows.AllBare A) : PyProof.Rows.AllBare B := fun y hy => by
  obtain ⟨i, hi⟩ := Array.getElem?_of_mem hy
  have l := (Array.getElem?_eq_some_iff.mp hi).1
  have l2 : i < A.size := by rw [h.sz]; exact l
  obtain ⟨y', hy', pr⟩ := h.pr i _ (Array.getElem?_eq_getElem l2)
  rw [hi] at hy'
  cases hy'
  rw [← pr.bare]
  exact b _ (Array.getElem_mem l2)
/-- THE WORD: what runs well from any table that is bare leaves this sleeper as it is -/
theorem kept {α : Type} {M : Model} {A : Around} {m : Sem α} {Q : α → Shared → Prop} {E : Value → Shared → Prop} {s : Shared} {g : Nat} {k : Resume → Sem PySem.Fin} {l : List Value} {c : Code} {p : Pos} {fs : List Frame} {cl : Bool} (hb : PyProof.Rows.AllBare s.gens) (hg : s.gens[g]? = some (.suspended k l c p fs cl))
    (h : ∀ G, PyProof.Rows.AllBare G → wpAny M A m Q E (wg s G)) :
    wpAny M A m (fun a s' => s'.gens[g]? = some (.suspended k l c p fs cl) ∧ ∃ G, (PyProof.Rows.AllBare G → PyProof.Rows.AllBare s'.gens) ∧ Q a (wg s' G)) (fun e s' => ∃ G, (PyProof.Rows.AllBare G → PyProof.Rows.AllBare s'.gens) ∧ E e (wg s' G)) s := by
  intro Γ q hΓ
  have R := drug_rel s.gens
  have e := wp_lock M Γ m _ _ q (wg s (s.gens.map drug)) s.gens R (h _ (R.bareL hb) Γ q hΓ)
  refine Sem.wp_mono M Γ m (fun a p' s' z => ?_) (fun x p' s' z => ?_) q s e
  · obtain ⟨A', R', k', z⟩ := z
    have e1 : (s.gens.map drug)[g]? = some (.suspended bad l c p fs cl) := by
      rw [Array.getElem?_map, hg]
      rfl
    exact ⟨(k' g k l c p fs cl e1 hg).2, A', R'.bareR, z⟩
  · obtain ⟨A', R', _, z⟩ := z
    exact ⟨A', R'.bareR, z⟩
end Gk
namespace Gq
open PySem PySem.Spec PyProof.Rows L2 GenW
open Sem (wp)
/-! ### a run of a generator's code, up to its end or to the next item -/
def SegC (M : Model) (A : Around) (F : End → Shared → Prop) (c : Code) (t : Sem PySem.Fin) (fs : List Frame) (s : Shared) : Prop := ∀ Γ p, Γ.code = c → Γ.Woken A → ∃ e s', Runs M Γ p t fs s e s' ∧ F e s'
section
variable {M : Model} {A : Around} {F : End → Shared → Prop} {c : Code} {fs : List Frame} {s : Shared}
theorem segc_wrap {α : Type} {m : Sem α} {K : α → Sem PySem.Fin} {J : Value → Sem PySem.Fin} {gd : Bool → Bool} {lv : List Value → List Value}
    (h : wpAny M (A.over c fs) m (fun a s' => SegC M A F c (K a) fs s') (fun x s' => SegC M A F c (J x) fs s') s) : SegC M A F c (m.wrap K J gd lv) fs s := by
  rintro Γ p rfl hΓ
  exact runs_wrap_of_wp K J gd lv m (h (Γ.over fs) p (hΓ.over fs)) (fun a p' s' h' => h' Γ p' rfl hΓ) (fun x p' s' h' => h' Γ p' rfl hΓ)
theorem segc_bind {α : Type} {m : Sem α} {K : α → Sem PySem.Fin}
    (h : wpAny M (A.over c fs) m (fun a s' => SegC M A F c (K a) fs s') (fun x s' => SegC M A F c (.raise x) fs s') s) : SegC M A F c (m >>= K) fs s := by
  rw [Sem.bind_eq_wrap']
  exact segc_wrap h
theorem segc_at {p' : Pos} {k : Unit → Sem PySem.Fin} (h : SegC M A F c (k ()) fs s) : SegC M A F c (.at p' k) fs s :=
  segc_wrap (m := standAt p') (K := k) (J := .raise) (gd := id) (lv := id) (wpAny_standAt h)
theorem segc_point {l : List Value} {k : Unit → Sem PySem.Fin} (h : SegC M A F c (k ()) fs s) : SegC M A F c (.point l k) fs s :=
  segc_wrap (m := point) (K := k) (J := .raise) (gd := id) (lv := fun _ => l) (wpAny_point h)
theorem segc_call {c' : Code} {h : Option Value} {g : Bool} {l : List Value} {k : Result → Sem PySem.Fin} (hc : ∀ p, SegC M A F c' (M.den c') (.ret k h g l c p [] :: fs) s) : SegC M A F c (.call c' h g l k) fs s := by
  rintro Γ p rfl hΓ
  obtain ⟨e, s', hr, he⟩ := hc p (Γ.goto c') p rfl (hΓ.goto c')
  exact ⟨e, s', runs_call_seg hr, he⟩
theorem segc_leaf {k : Result → Sem PySem.Fin} {h : Option Value} {g : Bool} {l : List Value} {c₁ : Code} {p₁ : Pos} {kp : List Value} (r : Result) (hk : SegC M A F c₁ (k r) fs s) : SegC M A F c (leafOf r) (.ret k h g l c₁ p₁ kp :: fs) s := by
  rintro Γ p rfl hΓ
  obtain ⟨e, s', hr, he⟩ := hk (Γ.goto c₁) p₁ rfl (hΓ.goto c₁)
  exact ⟨e, s', Runs.pop r hr, he⟩
theorem segc_again {c' : Code} (hq : c'.quiet = true) (hc : SegC M A F c' (M.den c') fs s) : SegC M A F c (.pure (.again c')) fs s := by
  rintro Γ p rfl hΓ
  obtain ⟨e, s', hr, he⟩ := hc (Γ.goto c') p rfl (hΓ.goto c')
  exact ⟨e, s', Runs.head (c₁ := c') (fun _ _ x => .again hq x) hr, he⟩
theorem segc_end (r : Result) (h : F (.ret r) s) : SegC M A F c (leafOf r) [] s := by
  rintro Γ p rfl _
  exact ⟨.ret r, s, Runs.leaf r, h⟩
theorem segc_yield {v : Value} {g : Bool} {l : List Value} {k : Resume → Sem PySem.Fin} (hfs : splitAtGen fs = none) (h : ∀ p, F (.susp v g l k c p fs) s) : SegC M A F c (.yield v g l k) fs s := by
  rintro Γ p rfl _
  exact ⟨_, s, Runs.yield' fs hfs, h p⟩
theorem segc_mono {F' : End → Shared → Prop} {t : Sem PySem.Fin} (h : SegC M A F c t fs s) (i : ∀ e s', F e s' → F' e s') : SegC M A F' c t fs s := by
  intro Γ p hc hΓ
  obtain ⟨e, s', hr, he⟩ := h Γ p hc hΓ
  exact ⟨e, s', hr, i e s' he⟩
/-- `yield e` as a statement -/
theorem segc_Expr_Yield {env : Env} {K : Flow → Sem PySem.Fin} {J : Value → Sem PySem.Fin} {gd : Bool → Bool} {lv : List Value → List Value} {e : Expr} {ypos pos : Pos} (hfs : splitAtGen fs = none)
    (h : wpAny M (A.over c fs) (eval e env) (fun v s' => ∀ l k p, k (.send .none) = K .next → F (.susp v (gd false) l k c p fs) s') (fun x s' => SegC M A F c (J x) fs s') s) (hco : env.scope.isCoroutine = false := by rfl) (hi : interactive env = false := by rfl) :
    SegC M A F c ((exec (.Expr (.Yield (some e) ypos) pos) env).wrap K J gd lv) fs s := by
  rw [exec_Expr env _ pos hi rfl]
  show SegC M A F c (.at pos fun _ => ((eval e env >>= fun v => (standAt ypos >>= fun _ => yieldOut env v)) >>= fun x =>
    dropValue (.Yield (some e) ypos) pos x).wrap K J gd lv) fs s
  have hy : ∀ v, yieldOut env v = yieldValue v := fun v => by simp only [yieldOut, hco, Bool.false_eq_true, if_false]
  simp only [hy]
  refine segc_at ?_
  rw [Sem.bind_eq_wrap', Sem.bind_eq_wrap', Sem.wrap_wrap, Sem.wrap_wrap]
  refine segc_wrap (wpAny_mono h (fun v s' h' => ?_) fun _ _ x => x)
  refine segc_at (segc_yield hfs fun p => ?_)
  exact h' _ _ p rfl
end
section
variable {prog : Program} {w : World} {A : Around} {F : End → Shared → Prop} {fs : List Frame} {s : Shared} {env : Env}
theorem segc_func {body : List Stmt}
    (h : SegC (model prog w) A F (.func body env) ((execs body env).wrap (fun f => .pure (.done (.ret (match f with | .ret v => v | _ => .none))))
      (fun e => (leaving env e).wrap (fun _ => .raise e) .raise id id) id id) fs s) :
    SegC (model prog w) A F (.func body env) ((model prog w).den (.func body env)) fs s := by
  show SegC _ A F _ (.point [] fun _ => ((execs body env).onRaise (leaving env)) >>= _) fs s
  refine segc_point ?_
  rw [Sem.onRaise_eq_wrap, Sem.bind_eq_wrap', Sem.wrap_wrap]
  rw [Sem.wrap_congr (execs body env) _ _ (K' := fun f => .pure (.done (.ret (match f with | .ret v => v | _ => .none))))
    (H' := fun e => (leaving env e).wrap (fun _ => .raise e) .raise id id) (fun f => by cases f <;> rfl)
    (fun e => by rw [Sem.bind_eq_wrap, Sem.wrap_wrap]; rfl)]
  exact h
/-- one turn of a for loop in a generator's code -/
theorem segc_forLoop {target : Expr} {it : Value} {body : List Stmt}
    (h : wpAny (model prog w) (A.over (.forLoop target it body [] env) fs) (pyNext it) (fun r s1 => match r with
        | none => SegC (model prog w) A F (.block [] env) ((model prog w).den (.block [] env)) fs s1
        | some v => wpAny (model prog w) (A.over (.forLoop target it body [] env) fs) (letOwnedTupleGo target it v) (fun _ s2 =>
          wpAny (model prog w) (A.over (.forLoop target it body [] env) fs) (assign target env v) (fun _ s3 =>
            SegC (model prog w) A F (.forLoop target it body [] env) ((execs body env).wrap (fun f => match f with
              | .next | .cont => .pure (.again (.forLoop target it body [] env))
              | .brk => .pure (.done .next)
              | .ret v => .pure (.done (.ret v))) (fun e => (do noteFrame e env; theTreesLotGoes e : Sem Unit).wrap (fun _ => .raise e) .raise id id) id id) fs s3) (fun _ _ => False) s2) (fun _ _ => False) s1) (fun _ _ => False) s) :
    SegC (model prog w) A F (.forLoop target it body [] env) ((model prog w).den (.forLoop target it body [] env)) fs s := by
  show SegC _ A F _ ((forTurn target it body [] env).onRaise (fun x => do noteFrame x env; theTreesLotGoes x)) fs s
  simp only [forTurn]
  rw [Sem.onRaise_eq_wrap, Sem.bind_eq_wrap', Sem.wrap_wrap]
  refine segc_wrap (wpAny_standAt ?_)
  show SegC _ A F _ (Sem.wrap _ _ _ _ ((pyNext it).onRaise _ >>= _)) fs s
  rw [Sem.bind_eq_wrap', Sem.wrap_wrap]
  refine segc_wrap (wpAny_onRaise (wpAny_mono h (fun r s1 h1 => ?_) fun _ _ x => x.elim))
  cases r with
  | none =>
    show SegC _ A F _ (.pure (.again (.block [] env))) fs s1
    exact segc_again rfl h1
  | some v =>
    show SegC _ A F _ (Sem.wrap _ _ _ _ (letOwnedTupleGo target it v >>= fun _ => _)) fs s1
    rw [Sem.bind_eq_wrap', Sem.wrap_wrap]
    refine segc_wrap (wpAny_mono h1 (fun _ s2 h2 => ?_) fun _ _ x => x.elim)
    show SegC _ A F _ (Sem.wrap _ _ _ _ (assign target env v >>= fun _ => _)) fs s2
    rw [Sem.bind_eq_wrap', Sem.wrap_wrap]
    refine segc_wrap (wpAny_mono h2 (fun _ s3 h3 => ?_) fun _ _ x => x.elim)
    show SegC _ A F _ (Sem.wrap _ _ _ _ (execs body env >>= fun f => _)) fs s3
    rw [Sem.bind_eq_wrap', Sem.wrap_wrap]
    rw [Sem.wrap_congr (execs body env) _ _ (K' := fun f => match f with
            | .next | .cont => .pure (.again (.forLoop target it body [] env))
            | .brk => .pure (.done .next)
            | .ret v => .pure (.done (.ret v))) (H' := (fun e => (do noteFrame e env; theTreesLotGoes e : Sem Unit).wrap (fun _ => .raise e) .raise id id))
        (fun f => by cases f <;> rfl)
        (fun e => by first | exact Sem.bind_eq_wrap _ _ | (show (do noteFrame e env; theTreesLotGoes e : Sem Unit).bind (fun _ => .raise e) = _; rw [Sem.bind_eq_wrap]))]
    exact h3
/-- a for statement in a generator's code -/
theorem segc_For {c : Code} {K : Flow → Sem PySem.Fin} {J : Value → Sem PySem.Fin} {gd : Bool → Bool} {lv : List Value → List Value} {target iter : Expr} {body : List Stmt} {pos : Pos} (hs : ∀ x, foldedSetIterable iter env x = pure x)
    (h : wpAny (model prog w) (A.over c fs) (eval iter env) (fun x s1 => wpAny (model prog w) (A.over c fs) (pyIter x) (fun it s2 =>
      ∀ k l p, k (.ok .next) = K .next → SegC (model prog w) A F (.forLoop target it body [] env) ((model prog w).den (.forLoop target it body [] env)) (.ret k none (gd false) l c p [] :: fs) s2) (fun _ _ => False) s1) (fun _ _ => False) s) :
    SegC (model prog w) A F c ((exec (.For target iter body [] pos) env).wrap K J gd lv) fs s := by
  rw [exec_For]
  show SegC _ A F c (.at pos fun _ => Sem.wrap _ _ _ _ (eval iter env >>= fun x => _)) fs s
  refine segc_at ?_
  rw [Sem.bind_eq_wrap', Sem.wrap_wrap]
  refine segc_wrap (wpAny_mono h (fun x s1 h1 => ?_) fun _ _ x => x.elim)
  simp only [hs]
  show SegC _ A F c (.at iter.pos fun _ => Sem.wrap _ _ _ _ (holding [x] (pyIter x) >>= fun it => _)) fs s1
  refine segc_at ?_
  rw [Sem.bind_eq_wrap', Sem.wrap_wrap]
  refine segc_wrap (wpAny_holding (wpAny_mono h1 (fun it s2 h2 => ?_) fun _ _ x => x.elim))
  exact segc_call fun p => h2 _ _ p rfl
theorem segc_block0 (h : SegC (model prog w) A F (.block [] env) (.pure (.done .next)) fs s) : SegC (model prog w) A F (.block [] env) ((model prog w).den (.block [] env)) fs s := by
  first
    | exact h
    | (refine segc_point ?_; exact h)
end
/-! ### waking -/
/-- this sleeper, woken -/
def GoesC (M : Model) (A : Around) (F : End → Shared → Prop) (gs : GenState) (s : Shared) : Prop :=
  match gs with
  | .fresh c => SegC M A F c (M.den c) [] s
  | .suspended k _ c _ fs _ => SegC M A F c (k (.send .none)) fs s
  | _ => False
theorem wpAny_resumeC {M : Model} {A : Around} {F : End → Shared → Prop} {E : Value → Shared → Prop} {s : Shared} {g : Nat} {gs : GenState} {l : List Value} {α : Type} {k : GenResult → Sem α} {Q : α → Shared → Prop} (hg : s.gens[g]? = some gs)
    (hgo : GoesC M A F gs (s.setGen g .running)) (hF : ∀ e s1, F e s1 → e.quiet = true ∧ wpAny M A (k e.result) Q E (s1.setGen g e.genState)) : wpAny M A (.resume g (.send .none) l k) Q E s := by
  intro Γ p hΓ
  rw [Sem.wp_resume]
  have hB : ∀ c, (Γ.wake c p).Woken A := fun c => hΓ.wake c p
  cases gs with
  | fresh c =>
    obtain ⟨e₁, s₁, hr, he⟩ := hgo (Γ.wake c p) p rfl (hB c)
    obtain ⟨q1, q2⟩ := hF e₁ s₁ he
    exact ⟨_, _, by unfold Wakes; rw [hg]; exact ⟨e₁, s₁, hr, q1, rfl, rfl⟩, q2 Γ p hΓ⟩
  | suspended k₀ l₀ c₀ p₀ fs₀ cl =>
    obtain ⟨e₁, s₁, hr, he⟩ := hgo (Γ.wake c₀ p) p₀ rfl (hB c₀)
    obtain ⟨q1, q2⟩ := hF e₁ s₁ he
    exact ⟨_, _, by unfold Wakes; rw [hg]; exact ⟨e₁, s₁, hr, q1, rfl, rfl⟩, q2 Γ p hΓ⟩
  | running => exact hgo.elim
  | finished => exact hgo.elim
/-- how a waking ends: an item, or the end -/
theorem next_genC {P : Program} {w : World} {A : Around} {E : Value → Shared → Prop} {s : Shared} {a : Addr} {g : Nat} {gs : GenState} {Q : Option Value → Shared → Prop} (hh : A.handled = none) (hl : s.heap.NoLimit) (hroom : A.depth < recursionLimit) (hg : s.heap.IsGen a g) (hgs : s.gens[g]? = some gs)
    (hgo : GoesC (model P w) A.in1 (fun e s1 => (e = .ret (.ok (.ret .none)) ∧ ∀ h', (∀ b o, s1.heap.get? b = some o → h'.get? b = some o) → Q none { s1.setGen g .finished with heap := h' }) ∨
      (∃ v gg l k c p fs, e = .susp v gg l k c p fs ∧ e.quiet = true ∧ Q (some v) (s1.setGen g e.genState))) gs (s.setGen g .running)) : wpAny (model P w) A (pyNext (.ref a)) Q E s := by
  unfold pyNext
  refine wpAny_bind (wpAny_attempt (wpAny_callSpecial?_slot (name := Str.ofString "__next__") hg.typeIs slot_gen_next
    (wpAny_call_entry slot_gen_next hg.typeIs entry_gen_next ?_ (args_gen_next _))))
  show wpAny _ A.in1 (Builtin.Generator.genWake (.ref a) (.send .none)) _ _ s
  unfold Builtin.Generator.genWake
  refine wpAny_bind (wpAny_holding (wpAny_genNumber hg (wpAny_bind (wpAny_genState hgs ?_))))
  cases gs with
  | running => exact hgo.elim
  | finished => exact hgo.elim
  | _ =>
    refine wpAny_bind (wpAny_roomToWake hl hroom ?_)
    show wpAny _ A.in1 (.resume g (.send .none) [] _) _ _ s
    refine wpAny_resumeC hgs hgo fun e s₁ he => ?_
    rcases he with ⟨rfl, hp⟩ | ⟨v, gg, l, k, c, p, fs, rfl, hq, hv⟩
    · refine ⟨rfl, ?_⟩
      show wpAny _ A.in1 (newExc (.type "StopIteration") [] >>= _) _ _ _
      refine wpAny_bind ?_
      simp only [newExc, newTuple]
      refine wpAny_bind (wpAny_newObj_type ?_ (by size_fits))
      refine wpAny_bind (m := firstArgMember _ _) (wpAny_of_eq (a := Value.none) (by first | rfl | (simp only [firstArgMember]; rfl)) ?_)
      refine wpAny_newObj_type ?_ (by size_fits)
      simp only [raiseNew]
      refine wpAny_bind (wpAny_bind (wpAny_handled ?_))
      first | rw [show A.in1.handled = none from hh] | rw [hh]
      refine wpAny_throw ?_
      refine wpAny_bind (wpAny_isInstance (T := "StopIteration") (b := true) ⟨_, Heap.get?_push_size _ rfl, rfl⟩ isSubtype_stop ?_)
      exact wpAny_pure (hp _ fun b o hb => Heap.get?_push_of_some _ (Heap.get?_push_of_some _ hb))
    · exact ⟨hq, wpAny_pure ⟨v, rfl, wpAny_pure hv⟩⟩
end Gq
namespace Gr
open PySem PySem.Spec PyProof.Rows L2 GenW Gq
open Sem (wp)
/-! ### for x in g(): a generator def of our own, which loops over a range and hands out an item each turn -/
/-- the heap below L -/
def tr (h : Heap) (L : Addr) : Heap := { h with objs := h.objs.extract 0 L }
theorem tr_lt {h : Heap} {L b : Nat} (hb : b < L) : (tr h L).get? b = h.get? b := by
  unfold tr Heap.get?
  simp only [Array.getElem?_extract]
  by_cases hs : b < h.objs.size
  · rw [if_pos (by omega), Nat.zero_add]
  · rw [if_neg (by omega), Array.getElem?_eq_none (by omega)]
theorem tr_some {h : Heap} {L b : Nat} {o : Obj} (e : (tr h L).get? b = some o) : b < L ∧ h.get? b = some o := by
  have l : b < (tr h L).objs.size := Heap.lt_size e
  have l2 : b < L := by
    have z : (tr h L).objs.size = min L h.objs.size - 0 := Array.size_extract
    omega
  exact ⟨l2, (tr_lt l2).symm.trans e⟩
theorem tr_size {h : Heap} {L : Nat} (hL : L ≤ h.objs.size) : (tr h L).objs.size = L := by
  have z : (tr h L).objs.size = min L h.objs.size - 0 := Array.size_extract
  omega
def trH (H : Hp) (L : Addr) : Hp := fun b => if b < L then H b else none
theorem trH_lt {H : Hp} {L b : Addr} (hb : b < L) : trH H L b = H b := if_pos hb
theorem trH_some {H : Hp} {L b : Addr} {u : HO} (e : trH H L b = some u) : b < L ∧ H b = some u := by
  unfold trH at e
  split at e
  · exact ⟨by assumption, e⟩
  · cases e
/-- the generator's own context, made anew at each waking: all below its frame stands as it does now -/
def gX (X : Cx) (env : Env) (N : List Str) (s : Shared) (H : Hp) : Cx where
  prog := X.prog
  w := X.w
  K := X.K
  mg := X.mg
  base := X.base
  A := X.A.in1.deeper env
  N := N
  s_0 := { s with heap := tr s.heap env.locals }
  H_0 := trH H env.locals
  env := env
  outer := X.stack
  stack := env :: X.stack
  ex := []
  fn := fun _ => true
  calm := true
  pn := []
  xe := fun _ _ => False
/-- what is so of its frame all along -/
structure GE (X : Cx) (env : Env) : Prop where
  kind : env.scope.kind = .function
  glob : env.globals = mainGlobals
  blt : env.builtins = builtinsNs
  cells : env.cells = []
  nocell : ∀ x, env.kindOf x ≠ some .cell ∧ env.kindOf x ≠ some .free
  frame : env.frame = some env.locals
  bsz : X.base.objs.size ≤ env.locals
  old : X.env.locals < env.locals
  olds : X.s_0.heap.objs.size ≤ env.locals
  oldc : ∀ x c, X.env.cells.lookup x = some c → c < env.locals
  oldf : ∀ b ∈ frs X.stack, b < env.locals
  hd : X.A.handled = none
section
variable {X : Cx} {env : Env} {N : List Str} {pins : List (Addr × Obj)} {σ : L2.St} {H : Hp} {s : Shared}
theorem Inv.regens {G : Array GenState} (I : Inv X pins σ H s) (hG : AllBare G) : Inv X pins σ H { s with gens := G } := ⟨I.ok, I.os, hG, I.base, I.loc, I.cell, I.free, I.freeC, I.pin, I.hok, I.len⟩
theorem toG (E : GE X env) (I : Inv X pins σ H s) (hL : H env.locals = none) (ns : ∃ m, s.heap.Ns env.locals m) (pl : List (Addr × Obj)) (hpl : ∀ p ∈ pl, s.heap.get? p.1 = some p.2 ∧ H p.1 = none ∧ p.1 ≠ env.locals ∧ p.1 ∉ frs X.stack ∧ ∀ v, p.2.data ≠ .cell v) :
    Inv (gX X env N s H) pl (List.replicate N.length none) H s := by
  obtain ⟨m, hm⟩ := ns
  have ltL : env.locals < s.heap.objs.size := hm.lt
  have noC : ∀ x c, env.cells.lookup x = some c → False := fun x c e => by
    rw [E.cells] at e
    cases e
  have nil : ∀ b : Addr, b ∉ ([] : List Addr) := fun b z => by cases z
  refine ⟨⟨I.ok.mod, E.kind, E.glob, E.blt, ?_, fun x y c h1 => (noC x c h1).elim, fun x hx => ?_, fun x c _ h => (noC x c h).elim, fun _ => E.hd, Around.frames_deeper I.ok.frames, .inr ⟨rfl, E.frame⟩, fun b z => absurd z (nil b), fun b o e => ?_, ?_, fun b _ _ => nil b, fun b z => absurd z (nil b), ?_, fun b hb => ?_⟩,
    rfl, I.bare, ⟨fun b o e n _ _ => ?_, fun b o e n _ _ => ?_, fun b o e n _ => ?_, fun b o e _ => ?_, fun b xs e => ?_, fun b o u e => ?_, fun b ps e => ?_⟩, ⟨m, hm, fun i x v _ h2 _ => ?_⟩, fun x c h => (noC x c h).elim, hL, fun x c h => (noC x c h).elim, fun p hp => hpl p hp, I.hok, List.length_replicate⟩
  · show (tr s.heap env.locals).objs.size ≤ env.locals
    rw [tr_size (Nat.le_of_lt ltL)]
    exact Nat.le_refl _
  · rcases hx with hx | hx
    · exact absurd hx (E.nocell x).1
    · exact absurd hx (E.nocell x).2
  · have lb : b < env.locals := Nat.lt_of_lt_of_le (Heap.lt_size e) E.bsz
    obtain ⟨q1, q2⟩ := I.bs b o e
    exact ⟨(tr_lt lb).trans q1, (trH_lt lb).trans q2⟩
  · show X.base.objs.size ≤ (tr s.heap env.locals).objs.size
    rw [tr_size (Nat.le_of_lt ltL)]
    exact E.bsz
  · show (tr s.heap env.locals).FunFrames X.base X.stack
    have all : ∀ (l : List Env), (∀ b ∈ frs l, b < env.locals) → s.heap.FunFrames X.base l → (tr s.heap env.locals).FunFrames X.base l := by
      intro l
      induction l with
      | nil => intro _ _; trivial
      | cons e1 r ih =>
        intro hs hl
        obtain ⟨hk, ⟨L, o, hf, hn, ho, hd⟩, hr⟩ := hl
        have hL : L < env.locals := hs L (by unfold frs; rw [List.filterMap_cons, hf]; exact List.mem_cons_self)
        exact ⟨hk, ⟨L, o, hf, hn, (tr_lt hL).trans ho, hd⟩, ih (fun b hb => hs b (by unfold frs; rw [List.filterMap_cons, hf]; exact List.mem_cons_of_mem _ hb)) hr⟩
    exact all X.stack E.oldf I.stack
  · have hb : b ∈ frs X.stack := hb
    exact (trH_lt (E.oldf b hb)).trans (I.stkFree b hb)
  · exact (tr_some e).2
  · exact ⟨o.slots, (tr_some e).2⟩
  · exact (trH_lt (tr_some e).1).symm.trans n
  · exact ⟨o, (tr_some e).2⟩
  · exact (trH_some e).2
  · exact (trH_some e).2
  · exact ⟨#[], by rw [(trH_some e).2]; simp⟩
  · rw [List.getElem?_replicate] at h2
    split at h2 <;> cases h2
open Classical in
/-- all that is younger than its frame, is not ours and no cell -/
noncomputable def yng (s : Shared) (H : Hp) (L : Addr) (fp : List Addr) : List (Addr × Obj) := (List.range s.heap.objs.size).filterMap fun b => if L < b ∧ b ∉ fp ∧ H b = none ∧ ∀ o v, s.heap.get? b = some o → o.data ≠ .cell v then (s.heap.get? b).map fun o => (b, o) else none
theorem mem_yng {L b : Addr} {fp : List Addr} {o : Obj} (h1 : L < b) (h2 : b ∉ fp) (h3 : H b = none) (h4 : s.heap.get? b = some o) (h5 : ∀ v, o.data ≠ .cell v) : (b, o) ∈ yng s H L fp := by
  refine List.mem_filterMap.mpr ⟨b, List.mem_range.mpr (Heap.lt_size h4), ?_⟩
  rw [if_pos ⟨h1, h2, h3, fun o' v e => by rw [h4] at e; cases e; exact h5 v⟩, h4]
  rfl
theorem of_yng {L : Addr} {fp : List Addr} {p : Addr × Obj} (h : p ∈ yng s H L fp) : L < p.1 ∧ p.1 ∉ fp ∧ H p.1 = none ∧ s.heap.get? p.1 = some p.2 ∧ ∀ v, p.2.data ≠ .cell v := by
  obtain ⟨b, _, e⟩ := List.mem_filterMap.mp h
  split at e
  · rename_i c
    obtain ⟨c1, c2, c3, c4⟩ := c
    cases q : s.heap.get? b with
    | none => rw [q] at e; cases e
    | some o =>
      rw [q] at e
      have e' : (b, o) = p := Option.some.inj e
      subst e'
      exact ⟨c1, c2, c3, q, fun v => c4 o v q⟩
  · cases e
theorem lty {b L : Nat} (h1 : b ≠ L) (hl : ¬ b < L) : L < b := by omega
open Classical in
/-- what may turn while the generator runs -/
noncomputable def trn (s : Shared) (H : Hp) (L : Addr) (fp : List Addr) : List Addr := L :: (fp ++ (List.range s.heap.objs.size).filter fun b => decide (L < b ∧ ∃ o v, s.heap.get? b = some o ∧ o.data = .cell v))
theorem objOk_there {P : Program} {w : World} {h : Heap} {b : Addr} {u : HO} (x : ObjOk P w H h b u) : ∃ o, h.get? b = some o := by
  cases u with
  | lst xs => obtain ⟨_, _, _, _, e⟩ := x; exact ⟨_, e⟩
  | tup xs => obtain ⟨_, _, _, o, e, _⟩ := x; exact ⟨o, e⟩
  | dK kvs => obtain ⟨_, _, _, _, o, _, _, e, _⟩ := x; exact ⟨o, e⟩
  | dT kvs => obtain ⟨_, _, _, _, o, _, _, e, _⟩ := x; exact ⟨o, e⟩
  | set S n => obtain ⟨o, _, _, _, e, _⟩ := x; exact ⟨o, e⟩
  | ins C dx fs => obtain ⟨_, _, _, e, _⟩ := x; exact ⟨_, e⟩
  | own y => obtain ⟨_, e⟩ := x; exact ⟨_, e⟩
  | xd fs => obtain ⟨_, ⟨o, _, _, e, _⟩, _⟩ := x; exact ⟨o, e⟩
  | rng lo hi => obtain ⟨_, _, _, e⟩ := x; exact ⟨_, e⟩
  | frz ob u => obtain ⟨e, _⟩ := x; exact ⟨_, e⟩
  | tbl ps => exact ⟨_, show h.get? b = some _ from x⟩
  | met f y => exact ⟨_, show h.get? b = some _ from x⟩
  | ext φ => obtain ⟨_, ⟨o, e⟩, _⟩ := x; exact ⟨o, e⟩
open Classical in
/-- back at the consumer -/
theorem back {fp : List Addr} {pm : List (Addr × Obj)} {σ' : L2.St} {H' : Hp} {s' : Shared} (E : GE X env) (I : Inv X pins σ H s) (fL : FpOk X pins H env.locals) (ff : ∀ b ∈ fp, FpOk X pins H b) (J : Inv (gX X env N s H) (yng s H env.locals fp ++ pm) σ' H' s') (km : ∀ b u, H b = some u → H' b = some u) :
    Inv X pins σ H' s' := by
  have pinY : ∀ {b o}, s.heap.get? b = some o → H b = none → b ∉ trn s H env.locals fp → ¬ b < env.locals → s'.heap.get? b = some o ∧ H' b = none := fun {b o} e n hx hl => by
    have h1 : b ≠ env.locals := fun z => hx (by rw [z]; exact List.mem_cons_self)
    have h2 : b ∉ fp := fun z => hx (List.mem_cons_of_mem _ (List.mem_append_left _ z))
    have h3 : ∀ v, o.data ≠ .cell v := fun v z => hx (List.mem_cons_of_mem _ (List.mem_append_right _ (List.mem_filter.mpr ⟨List.mem_range.mpr (Heap.lt_size e), decide_eq_true ⟨lty h1 hl, o, v, e, z⟩⟩)))
    have m := mem_yng (s := s) (H := H) (L := env.locals) (fp := fp) (b := b) (o := o) (lty h1 hl) h2 n e h3
    obtain ⟨q1, q2, _⟩ := J.pin (b, o) (List.mem_append_right _ (List.mem_append_left _ m))
    exact ⟨q1, q2⟩
  have nil : ∀ b : Addr, b ∉ ([] : List Addr) := fun b z => by cases z
  refine I.call' (ch := trn s H env.locals fp) (s' := s') J.os ⟨fun b o e n hb hx => ?_, fun b o e n hb hx => ?_, fun b o e n hx => ?_, fun b o e hx => ?_, fun b xs e => km _ _ e, fun b o u e => km _ _ e, fun b ps e => ⟨#[], by rw [km _ _ e]; simp⟩⟩ J.hok J.bare fun b hb => ?_
  · by_cases l : b < env.locals
    · exact J.base.keep b o ((tr_lt l).trans e) ((trH_lt l).trans n) hb (nil b)
    · exact (pinY e n hx l).1
  · have l := E.oldf b hb
    exact J.base.slot b o ((tr_lt l).trans e) ((trH_lt l).trans n) hb (nil b)
  · by_cases l : b < env.locals
    · exact J.base.free b o ((tr_lt l).trans e) ((trH_lt l).trans n) (nil b)
    · exact (pinY e n hx l).2
  · by_cases l : b < env.locals
    · exact J.base.there b o ((tr_lt l).trans e) (nil b)
    · cases q : H b with
      | none => exact ⟨o, (pinY e q hx l).1⟩
      | some u => exact objOk_there (J.hok b u (km b u q))
  · rcases List.mem_cons.mp hb with z | hb
    · rw [z]
      exact ⟨fL.2.2.2.1, fL.2.1, fL.2.2.2.2.1, fL.2.2.2.2.2⟩
    · rcases List.mem_append.mp hb with hb | hb
      · exact ⟨(ff b hb).2.2.2.1, (ff b hb).2.1, (ff b hb).2.2.2.2.1, (ff b hb).2.2.2.2.2⟩
      · obtain ⟨lb, o, v, e, d⟩ := of_decide_eq_true (List.mem_filter.mp hb).2
        refine ⟨.inr (Nat.le_of_lt (Nat.lt_of_le_of_lt E.olds lb)), fun z => absurd (Nat.lt_trans (z ▸ lb) E.old) (Nat.lt_irrefl _), fun x c h z => ?_, fun p hp z => ?_⟩
        · have := E.oldc x c h
          rw [z] at this
          exact absurd (Nat.lt_trans this lb) (Nat.lt_irrefl _)
        · obtain ⟨q1, _, _, _, q5⟩ := I.pin p hp
          rw [z, e] at q1
          cases q1
          exact q5 v d
end
end Gr
namespace Gs
open PySem PySem.Spec PyProof.Rows L2 GenW Gq Gr
open Sem (wp)
section
variable {X : Cx} {env : Env} {N : List Str} {pins : List (Addr × Obj)} {σ : L2.St} {H : Hp} {s : Shared}
theorem fpTo {H' : Hp} {b : Addr} (f : FpOk X pins H b) (h : H' b = none) : FpOk X pins H' b := ⟨h, f.2⟩
/-- at the turn i, ahead of a waking -/
structure Wk (X : Cx) (env : Env) (a : Addr) (g : Nat) (fp : List Addr) (tn : Nat → Heap → Prop) (i : Nat) (pins : List (Addr × Obj)) (σ : L2.St) (H : Hp) (s : Shared) : Prop where
  inv : Inv X pins σ H s
  fL : FpOk X pins H env.locals
  ff : ∀ b ∈ fp, FpOk X pins H b
  fa : FpOk X pins H a
  gen : s.heap.IsGen a g
  ns : ∃ m, s.heap.Ns env.locals m
  st : tn i s.heap
theorem Wk.regens {a : Addr} {g : Nat} {fp : List Addr} {tn : Nat → Heap → Prop} {i : Nat} {G : Array GenState} (W : Wk X env a g fp tn i pins σ H s) (hG : AllBare G) : Wk X env a g fp tn i pins σ H { s with gens := G } :=
  ⟨Inv.regens W.inv hG, W.fL, W.ff, W.fa, W.gen, W.ns, W.st⟩
/-- how a waking ends when m turns are left -/
def Dn (X : Cx) (env : Env) (a : Addr) (g : Nat) (fp : List Addr) (tn : Nat → Heap → Prop) (Yl : Nat → Hp → V → Hp → Prop) (tot m : Nat) (R : Nat → Code → Sem PySem.Fin → List Frame → Prop) (pins : List (Addr × Obj)) (σ : L2.St) (H : Hp) (e : End) (s1 : Shared) : Prop :=
  match m with
  | 0 => e = .ret (.ok (.ret .none)) ∧ Inv X pins σ H s1
  | m + 1 => ∃ v gg l k c p fs x H1, e = .susp v gg l k c p fs ∧ e.quiet = true ∧ RelV x v ∧ Yl (tot - (m + 1)) H x H1 ∧ Wk X env a g fp tn (tot - m) pins σ H1 s1 ∧ R m c (k (.send .none)) fs
def Rdy (X : Cx) (A : Around) (env : Env) (a : Addr) (g : Nat) (fp : List Addr) (tn : Nat → Heap → Prop) (Yl : Nat → Hp → V → Hp → Prop) (tot : Nat) : Nat → Code → Sem PySem.Fin → List Frame → Prop
  | 0 => fun c t fs => ∀ pins σ H s, Wk X env a g fp tn tot pins σ H s → SegC (model X.prog X.w) A (Dn X env a g fp tn Yl tot 0 (fun _ _ _ _ => False) pins σ H) c t fs s
  | m + 1 => fun c t fs => ∀ pins σ H s, Wk X env a g fp tn (tot - (m + 1)) pins σ H s → SegC (model X.prog X.w) A (Dn X env a g fp tn Yl tot (m + 1) (fun _ => Rdy X A env a g fp tn Yl tot m) pins σ H) c t fs s
theorem Rdy.to {A : Around} {a : Addr} {g : Nat} {fp : List Addr} {tn : Nat → Heap → Prop} {Yl : Nat → Hp → V → Hp → Prop} {tot : Nat} {c c' : Code} {t t' : Sem PySem.Fin} {fs fs' : List Frame} : ∀ {m : Nat},
    (∀ F s, SegC (model X.prog X.w) A F c t fs s → SegC (model X.prog X.w) A F c' t' fs' s) → Rdy X A env a g fp tn Yl tot m c t fs → Rdy X A env a g fp tn Yl tot m c' t' fs'
  | 0, i, h => fun pins σ H s W => i _ _ (h pins σ H s W)
  | _ + 1, i, h => fun pins σ H s W => i _ _ (h pins σ H s W)
/-- the body of the generator's loop -/
structure GBody (X : Cx) (env : Env) (N : List Str) (tg e : Expr) (te : TE) (tot : Nat) (Yl : Nat → Hp → V → Hp → Prop) : Prop where
  pg : ∀ s H, PG (gX X env N s H) tg (gName 0)
  pe : ∀ s H, PE (gX X env N s H) e te
  te : ∀ i H Q, i < tot → (∀ x H', Yl i H x H' → Q x H') → te ((List.replicate N.length none).set 0 (some (.int (0 + (i : Nat))))) H Q
  yl : ∀ i H x H', Yl i H x H' → ∀ b u, H b = some u → H' b = some u
  co : env.scope.isCoroutine = false
  int : interactive env = false
theorem loop_rdy {a : Addr} {g : Nat} {fp : List Addr} {it : Addr} {tn : Nat → Heap → Prop} {tot : Nat} {Yl : Nat → Hp → V → Hp → Prop} {tg e : Expr} {te : TE} {yp ep : Pos} {K : PySem.W.Frag} (E : GE X env) (B : GBody X env N tg e te tot Yl) (hK : X.K = K) (T : Turn X.prog X.w K tg (Itr 0 tot) fp it tn)
    (hLf : ∀ b ∈ fp, env.locals < b) (haf : a ∉ fp) (hLa : env.locals < a) {kk : Result → Sem PySem.Fin} {l : List Value} {c0 : Code} {p0 : Pos} (hov : ∀ A : Around, A.over c0 [] = A.deeper env)
    (hend : ∀ F s, F (.ret (.ok (.ret .none))) s → SegC (model X.prog X.w) X.A.in1 F c0 (kk (.ok .next)) [] s) : ∀ m, m ≤ tot →
    Rdy X X.A.in1 env a g fp tn Yl tot m (.forLoop tg (.ref it) [.Expr (.Yield (some e) yp) ep] [] env) ((model X.prog X.w).den (.forLoop tg (.ref it) [.Expr (.Yield (some e) yp) ep] [] env)) [.ret kk none false l c0 p0 []] := by
  have over : X.A.in1.over (.forLoop tg (.ref it) [.Expr (.Yield (some e) yp) ep] [] env) [.ret kk none false l c0 p0 []] = X.A.in1.deeper env := (over_loop rfl rfl).trans (hov _)
  -- the generator's own side at a waking
  have side : ∀ {i pins σ H s}, Wk X env a g fp tn i pins σ H s → Inv (gX X env N s H) (yng s H env.locals fp) (List.replicate N.length none) H s ∧ ∀ b ∈ fp, FpOk (gX X env N s H) (yng s H env.locals fp) H b := fun {i pins σ H s} W => by
    have J := toG (N := N) E W.inv W.fL.1 W.ns (yng s H env.locals fp) fun p hp => by
      obtain ⟨q1, q2, q3, q4, q5⟩ := of_yng hp
      exact ⟨q4, q3, Nat.ne_of_gt q1, fun z => absurd (Nat.lt_trans (E.oldf _ z) q1) (Nat.lt_irrefl _), q5⟩
    refine ⟨J, fun b hb => ⟨(W.ff b hb).1, Nat.ne_of_gt (hLf b hb), fun z => absurd (Nat.lt_trans (E.oldf _ z) (hLf b hb)) (Nat.lt_irrefl _), .inr ?_, fun x c z => ?_, fun p hp z => ?_⟩⟩
    · obtain ⟨m, hm⟩ := W.ns
      show (tr s.heap env.locals).objs.size ≤ b
      rw [tr_size (Nat.le_of_lt hm.lt)]
      exact Nat.le_of_lt (hLf b hb)
    · have z : env.cells.lookup x = some c := z
      rw [E.cells] at z
      cases z
    · exact (of_yng hp).2.1 (by rw [z]; exact hb)
  intro m
  induction m with
  | zero =>
    intro _ pins σ H s W
    obtain ⟨J, Jf⟩ := side W
    refine segc_forLoop ?_
    rw [over]
    refine wpAny_mono (T.done (gX X env N s H) rfl rfl hK rfl tot _ s _ H (fun _ _ => False) J Jf W.st (Nat.le_refl _)) (fun r s1 ⟨hr, J1⟩ => ?_) fun _ _ x => x
    subst hr
    refine segc_block0 (segc_leaf (.ok .next) (hend _ _ ⟨rfl, ?_⟩))
    exact back (pm := []) E W.inv W.fL W.ff (by rw [List.append_nil]; exact J1) fun _ _ z => z
  | succ m ih =>
    intro hm pins σ H s W
    obtain ⟨J, Jf⟩ := side W
    have hi : tot - (m + 1) < tot := by omega
    refine segc_forLoop ?_
    rw [over]
    refine wpAny_mono (T.item (gX X env N s H) rfl rfl hK rfl (tot - (m + 1)) _ s _ H (fun _ _ => False) J Jf W.st hi) (fun r s1 ⟨u, hr, h1⟩ => ?_) fun _ _ x => x
    subst hr
    refine wpAny_mono h1 (fun _ s5 ⟨x, H5, J5, r5, y5, st5, fr5⟩ => ?_) fun _ _ x => x
    obtain ⟨e5, ex⟩ := y5
    subst e5
    subst ex
    have obj5 := T.obj _ _ st5
    have J5' := Inv.pinned J5 (fun b hb => fpTo (Jf b hb) (fr5 b hb)) obj5
    refine wpAny_mono ((B.pg s H5).run _ s5 _ H5 _ u (fun σ' H' => σ' = (List.replicate N.length none).set 0 (some (.int (0 + ((tot - (m + 1) : Nat) : Int)))) ∧ H' = H5) J5' r5 ⟨rfl, rfl⟩) (fun _ s6 ⟨σ6, H6, J6, e6, e7⟩ => ?_) fun _ _ x => x
    subst e6
    subst e7
    rw [execs_cons_wrap]
    refine segc_Expr_Yield rfl ?_ B.co B.int
    rw [over]
    refine wpAny_mono ((B.pe s H6).run _ s6 _ H6 _ J6 (B.te _ H6 (fun x H' => Yl (tot - (m + 1)) H6 x H') hi fun _ _ z => z)) (fun v s7 ⟨x, H7, J7, rx, y7⟩ => ?_) fun _ _ x => x.elim
    intro l7 k7 p7 ek
    have km := B.yl _ _ _ _ y7
    have I7 := back (fp := fp) E W.inv W.fL W.ff J7 km
    have pinf : ∀ b ∈ fp, ∀ o, s5.heap.get? b = some o → s7.heap.get? b = some o ∧ H7 b = none := fun b hb o eo =>
      let z := J7.pin (b, o) (List.mem_append_right _ (List.mem_append_right _ (mem_pinsAt hb eo)))
      ⟨z.1, z.2.1⟩
    obtain ⟨og, nm, qn, eg, hgc, hgd, hgs⟩ := id W.gen
    have pina := J7.pin (a, og) (List.mem_append_right _ (List.mem_append_left _ (mem_yng hLa haf W.fa.1 eg fun v z => by rw [hgd] at z; cases z)))
    refine ⟨v, _, l7, k7, _, p7, _, x, H7, rfl, rfl, rx, y7, ⟨I7, fpTo W.fL J7.free, fun b hb => ?_, fpTo W.fa pina.2.1, ⟨og, nm, qn, pina.1, hgc, hgd, hgs⟩, ?_, ?_⟩, ?_⟩
    · obtain ⟨o, eo, _⟩ := obj5 b hb
      exact fpTo (W.ff b hb) (pinf b hb o eo).2
    · obtain ⟨m7, hn7, _⟩ := J7.loc
      exact ⟨m7, hn7⟩
    · have e : tot - (m + 1) + 1 = tot - m := by omega
      rw [← e]
      exact T.keep _ _ _ st5 fun b hb o eo => (pinf b hb o eo).1
    · rw [ek]
      exact Rdy.to (fun F s' h => segc_again rfl h) (ih (by omega))
/-- the first waking: the loop is begun -/
theorem first {a : Addr} {g : Nat} {tot : Nat} {Yl : Nat → Hp → V → Hp → Prop} {tg e iter : Expr} {te : TE} {wi : TI} {yp ep pos : Pos} {K : PySem.W.Frag} (E : GE X env) (B : GBody X env N tg e te tot Yl) (hK : X.K = K) (h0 : 0 < tot) (hLa : env.locals < a) (hpi : ∀ s H, PI (gX X env N s H) tg iter wi) (hwi : ∀ σ H R, R (Itr 0 tot) H → wi σ H R)
    (hfo : ∀ x, foldedSetIterable iter env x = pure x) (hov : ∀ A : Around, A.over (.func [.For tg iter [.Expr (.Yield (some e) yp) ep] [] pos] env) [] = A.deeper env)
    (I : Inv X pins σ H s) (fL : FpOk X pins H env.locals) (fa : FpOk X pins H a) (gen : s.heap.IsGen a g) (ns : ∃ m, s.heap.Ns env.locals m) :
    SegC (model X.prog X.w) X.A.in1 (fun e1 s1 => ∃ fp tn, (∀ b ∈ fp, env.locals < b) ∧ a ∉ fp ∧ (∃ it, Turn X.prog X.w K tg (Itr 0 tot) fp it tn) ∧ Dn X env a g fp tn Yl tot (tot - 1 + 1) (fun _ => Rdy X X.A.in1 env a g fp tn Yl tot (tot - 1)) pins σ H e1 s1)
      (.func [.For tg iter [.Expr (.Yield (some e) yp) ep] [] pos] env) ((model X.prog X.w).den (.func [.For tg iter [.Expr (.Yield (some e) yp) ep] [] pos] env)) [] s := by
  subst hK
  have J := toG (N := N) E I fL.1 ns (yng s H env.locals []) fun p hp => by
    obtain ⟨q1, q2, q3, q4, q5⟩ := of_yng hp
    exact ⟨q4, q3, Nat.ne_of_gt q1, fun z => absurd (Nat.lt_trans (E.oldf _ z) q1) (Nat.lt_irrefl _), q5⟩
  have ltL : env.locals < s.heap.objs.size := let ⟨_, hm⟩ := ns; hm.lt
  refine segc_func ?_
  rw [execs_cons_wrap]
  refine segc_For hfo ?_
  rw [hov]
  refine wpAny_mono ((hpi s H).run _ s _ H (fun J' H' => J' = Itr 0 tot ∧ H' = H) J (hwi _ _ _ ⟨rfl, rfl⟩)) (fun v s1 h1 => ?_) fun _ _ x => x.elim
  refine wpAny_mono h1 (fun u s2 h2 => ?_) fun _ _ x => x.elim
  obtain ⟨it, fp, tn, J', H2, eu, J2, T, st2, f2, eJ, eH⟩ := h2
  subst eu
  subst eJ
  subst eH
  intro k l p ek
  have hL : ∀ b ∈ fp, env.locals < b := fun b hb => by
    obtain ⟨_, n1, _, z, _⟩ := f2 b hb
    rcases z with z | z
    · cases z
    · have z : (tr s.heap env.locals).objs.size ≤ b := z
      rw [tr_size (Nat.le_of_lt ltL)] at z
      exact Nat.lt_of_le_of_ne z (Ne.symm n1)
  have apart : ∀ p ∈ yng s H2 env.locals [], p.1 ∉ fp := fun p hp z => (f2 p.1 z).2.2.2.2.2 p (List.mem_append_right _ hp) rfl
  obtain ⟨og, nm, qn, eg, hgc, hgd, hgs⟩ := id gen
  have ya := mem_yng (s := s) (H := H2) (L := env.locals) (fp := []) hLa (fun z => by cases z) fa.1 eg fun v z => by rw [hgd] at z; cases z
  have haf : a ∉ fp := apart _ ya
  have I2 := back (fp := []) (pm := []) E I fL (fun b z => by cases z) (by rw [List.append_nil]; exact J2) fun _ _ z => z
  have pina := J2.pin (a, og) (List.mem_append_right _ ya)
  have W : Wk X env a g fp tn 0 pins σ H2 s2 := ⟨I2, fL, fun b hb => ⟨(f2 b hb).1, Nat.ne_of_gt (Nat.lt_trans E.old (hL b hb)), fun z => ?_, .inr (Nat.le_of_lt (Nat.lt_of_le_of_lt E.olds (hL b hb))), fun x c z y => ?_, fun p hp z => ?_⟩, fa, ⟨og, nm, qn, pina.1, hgc, hgd, hgs⟩, (let ⟨m2, hn2, _⟩ := J2.loc; ⟨m2, hn2⟩), st2⟩
  · obtain ⟨n, rfl⟩ : ∃ n, tot = n + 1 := ⟨tot - 1, by omega⟩
    have q := loop_rdy (g := g) (yp := yp) (ep := ep) E B rfl T hL haf hLa (kk := k) (l := l) (p0 := p) hov (fun F s' h => by
      rw [ek]
      exact segc_end (.ok (.ret .none)) h) (n + 1) (Nat.le_refl _)
    refine segc_mono (q pins σ H2 s2 (by rw [Nat.sub_self]; exact W)) fun e1 s1 h => ⟨fp, tn, hL, haf, ⟨it, T⟩, h⟩
  · have hz : b ∈ frs X.stack := by
      rcases I.ok.stk with q | ⟨q, _⟩
      · rw [q]; exact z
      · rw [q]
        unfold frs
        rw [List.filterMap_cons]
        split
        · exact z
        · exact List.mem_cons_of_mem _ z
    exact absurd (Nat.lt_trans (E.oldf _ hz) (hL b hb)) (Nat.lt_irrefl _)
  · have q := E.oldc x c z
    rw [y] at q
    exact absurd (Nat.lt_trans q (hL b hb)) (Nat.lt_irrefl _)
  · obtain ⟨q1, q2, _, _, q5⟩ := I.pin p hp
    have lb := hL b hb
    rw [← z] at lb hb
    exact apart (p.1, p.2) (mem_yng lb (fun z => by cases z) q2 q1 q5) hb
end
end Gs
namespace Gt
open PySem PySem.Spec PyProof.Rows L2 GenW Gq Gr Gs
open Sem (wp)
/-- for x in g(): Yl i: what the turn i hands out -/
def tForG (tot : Nat) (Yl : Nat → Hp → V → Hp → Prop) (g : TG) (tb : TS) : TS := fun D σ H => ∃ W : Nat → L2.St → Hp → Prop, W 0 σ H ∧
  (∀ i σ H, i < tot → W i σ H → ∀ x H', Yl i H x H' → g x σ H' fun σ2 H2 => tb { D with nx := W (i + 1), ct := W (i + 1), bk := D.nx } σ2 H2) ∧ ∀ σ H, W tot σ H → D.nx σ H
theorem goes_mono {M : Model} {A : Around} {F F' : End → Shared → Prop} {gs : GenState} {s : Shared} (h : GoesC M A F gs s) (i : ∀ e s', F e s' → F' e s') : GoesC M A F' gs s := by
  cases gs with
  | fresh c => exact segc_mono h i
  | suspended k l c p fs cl => exact segc_mono h i
  | running => exact h.elim
  | finished => exact h.elim
section
variable {X : Cx}
theorem ps_forG {f : Addr} {x qual : Str} {cdv oc dV kV doc pm ct : Value} {an od : Option Addr} {osl : Array (Option Value)} {params : Arguments} {scope : Scope} {N : List Str} {tot : Nat} {Yl : Nat → Hp → V → Hp → Prop} {tgG eG iterG : Expr} {teG : TE} {wiG : TI} {yp ep fp_ : Pos}
    {tg : Expr} {body : List Stmt} {g : TG} {tb : TS} {pos cp np : Pos}
    (lk : X.K.lookup f = some ⟨oc, od, .func (PySem.W.fnOf x qual params [.For tgG iterG [.Expr (.Yield (some eG) yp) ep] [] fp_] scope dV kV doc pm an cdv ct), osl⟩) (hcd : PySem.W.codeIn X.K cdv qual = true) (hkp : PySem.W.keepIn X.K (.ref f) = true) (S : GScope N [] scope)
    (hbd : Binds X.K (PySem.W.fnOf x qual params [.For tgG iterG [.Expr (.Yield (some eG) yp) ep] [] fp_] scope dV kV doc pm an cdv ct) [] [])
    (hcells : ∀ n, cellsFrom n scope.names [] = []) (hnc : ∀ y, scope.names.lookup y ≠ some .cell ∧ scope.names.lookup y ≠ some .free) (h0 : 0 < tot)
    (hB : ∀ L, GBody X (envOfC qual scope L f cdv) N tgG eG teG tot Yl) (hpi : ∀ L s H, PI (gX X (envOfC qual scope L f cdv) N s H) tgG iterG wiG) (hwi : ∀ σ H R, R (Itr 0 tot) H → wiG σ H R) (hfo : ∀ L y, foldedSetIterable iterG (envOfC qual scope L f cdv) y = pure y)
    (hg : Gl X x) (hm : X.mg x = some (.ref f)) (hr : Room 2 X.A) (hxe : ∀ e s, ¬ X.xe e s) (hgT : PG X tg g) (hb : PSs X body tb) (hdb : (x == ("__debug__" : Str)) = false := by decide)
    (hs : ∀ y, foldedSetIterable (.Call (.Name x np) [] [] cp) X.env y = pure y := by intro _; rfl) : PS X (.For tg (.Call (.Name x np) [] [] cp) body [] pos) (tForG tot Yl g tb) := by
  refine ⟨fun pins s σ H D I h => ?_⟩
  obtain ⟨W, w0, step, fin⟩ := h
  refine wpAny_For ?_ hs
  have KX : X.K.In s.heap := I.kIn
  refine wpAny_Call_Name_kw (ld_glob I hg hm ?_ hdb)
  refine PySem.W.callWith_K0 KX hkp ?_
  have nil : ∀ (b : Addr), b ∉ ([] : List Addr) := fun b z => by cases z
  refine wpAny_call (codeAny_mono (R := fun r s' => ∃ a g, r = .ok (.ret (.ref a)) ∧ Inv X pins σ H s' ∧ GE X (envOfC qual scope s.heap.objs.size f cdv) ∧ FpOk X pins H s.heap.objs.size ∧ FpOk X pins H a ∧ s.heap.objs.size < a ∧ s'.heap.IsGen a g ∧ (∃ m, s'.heap.Ns s.heap.objs.size m) ∧
    s'.gens[g]? = some (.fresh (.func [.For tgG iterG [.Expr (.Yield (some eG) yp) ep] [] fp_] (envOfC qual scope s.heap.objs.size f cdv)))) ?_ ?_)
  · refine codeAny_call_generator hr.depth (KX _ _ lk) rfl S.co S.gen rfl (PySem.W.codeRec_of KX hcd) (hbd s [] KX rfl _ _ _ _ ?_)
    refine wpAny_newFunctionEnv_cells S.kind (fun y hy => by cases hy) fun env he s1 x1 => ?_
    have he : env = envOfC qual scope s.heap.objs.size f cdv := he
    subst he
    have lim1 : s1.heap.NoLimit := I.nolimit.keeps x1.toInCall.keep
    refine ⟨lim1, ?_⟩
    obtain ⟨h1, tk, es1, hk1⟩ := x1.done
    have os1 : s1.os = s.os := by rw [es1]
    have gen1 : s1.gens = s.gens := by rw [es1]
    have lt1 : s.heap.objs.size < s1.heap.objs.size := x1.toInCall.ns.lt
    have kp1 : ∀ b o, s.heap.get? b = some o → s1.heap.get? b = some o := x1.toInCall.keep
    have kp2 : ∀ (go : Obj) b o, s.heap.get? b = some o → (s1.heap.push go).get? b = some o := fun go b o e => Heap.get?_push_of_some _ (kp1 b o e)
    refine ⟨_, s1.gens.size, rfl, I.call' (ch := []) os1 (Un.kept (kp2 _)) (I.hok.kept (kp2 _)) (AllBare.push (by rw [gen1]; exact I.bare) rfl) (fun b z => absurd z (nil b)), ⟨S.kind, rfl, rfl, hcells _, hnc, rfl, Nat.le_trans I.ok.bsz I.sz, I.lt, I.sz, fun y c e => ?_, fun b hb => ?_, hr.hd⟩,
      Inv.fpOk I (Nat.le_refl _) (I.hok.fresh (Nat.le_refl _)), Inv.fpOk I (Nat.le_of_lt lt1) (I.hok.fresh (Nat.le_of_lt lt1)), lt1, ⟨_, _, _, Heap.get?_push_size _ rfl, rfl, rfl, rfl⟩, ⟨_, x1.toInCall.ns.push _⟩, Array.getElem?_push_size ..⟩
    · obtain ⟨v, o, ho, _⟩ := I.cell y c e
      exact Heap.lt_size ho
    · obtain ⟨_, o, ho, _⟩ := I.stack.mem hb
      exact Heap.lt_size ho
  rintro r s' ⟨a, g', rfl, I1, E, fL, fa, hLa, hgen, hns, hgs⟩
  -- the state at a turn
  refine wpAny_pyIter_gen hgen ?_
  have hxe' : ∀ e s', X.xe e s' → False := hxe
  refine codeAny_forLoop_any (fun n s2 => ∃ i σ' H', n = tot - i ∧ i ≤ tot ∧ W i σ' H' ∧ Inv X pins σ' H' s2 ∧ FpOk X pins H' s.heap.objs.size ∧ FpOk X pins H' a ∧ s2.heap.IsGen a g' ∧ (∃ m, s2.heap.Ns s.heap.objs.size m) ∧
    ((i = 0 ∧ s2.gens[g']? = some (.fresh (.func [.For tgG iterG [.Expr (.Yield (some eG) yp) ep] [] fp_] (envOfC qual scope s.heap.objs.size f cdv)))) ∨
      (0 < i ∧ ∃ fp tn, (∀ b ∈ fp, s.heap.objs.size < b) ∧ a ∉ fp ∧ (∃ it, Turn X.prog X.w X.K tgG (Itr 0 tot) fp it tn) ∧ (∀ b ∈ fp, FpOk X pins H' b) ∧ tn i s2.heap ∧ ∃ k l c p fs cl, s2.gens[g']? = some (.suspended k l c p fs cl) ∧ Rdy X X.A.in1 (envOfC qual scope s.heap.objs.size f cdv) a g' fp tn Yl tot (tot - i) c (k (.send .none)) fs)))
    ?_ tot ⟨0, σ, H, rfl, Nat.zero_le _, w0, I1, fL, fa, hgen, hns, .inl ⟨rfl, hgs⟩⟩
  rintro n s2 ⟨i, σ2, H2, rfl, hi, w2, I2, fL2, fa2, gen2, ns2, st2⟩
  have lim2 : s2.heap.NoLimit := I2.nolimit
  have bareR : AllBare (s2.setGen g' .running).gens := allBare_setGen I2.bare rfl
  have I2r := Inv.regens I2 bareR
  by_cases lt : i < tot
  · obtain ⟨m, hm⟩ : ∃ m, tot - i = m + 1 := ⟨tot - i - 1, by omega⟩
    have ei : tot - (m + 1) = i := by omega
    have key : ∃ gs, s2.gens[g']? = some gs ∧ GoesC (model X.prog X.w) X.A.in1 (fun e1 s1 => ∃ fp tn, (∀ b ∈ fp, s.heap.objs.size < b) ∧ a ∉ fp ∧ (∃ it, Turn X.prog X.w X.K tgG (Itr 0 tot) fp it tn) ∧ Dn X (envOfC qual scope s.heap.objs.size f cdv) a g' fp tn Yl tot (m + 1) (fun _ => Rdy X X.A.in1 (envOfC qual scope s.heap.objs.size f cdv) a g' fp tn Yl tot m) pins σ2 H2 e1 s1) gs (s2.setGen g' .running) := by
      rcases st2 with ⟨e0, hgs2⟩ | ⟨_, fp, tn, q1, q2, q3, q4, q5, k, l, c, p, fs, cl, hgs2, rdy⟩
      · subst e0
        refine ⟨_, hgs2, ?_⟩
        have q := first (a := a) (g := g') (iter := iterG) (wi := wiG) (yp := yp) (ep := ep) (pos := fp_) E (hB _) rfl h0 hLa (hpi _) hwi (hfo _) (fun A => over_func) I2r fL2 fa2 gen2 ns2
        have em : tot - 1 = m := by omega
        rw [em] at q
        exact q
      · refine ⟨_, hgs2, ?_⟩
        rw [hm] at rdy
        have q := rdy pins σ2 H2 (s2.setGen g' .running) (by rw [ei]; exact ⟨I2r, fL2, q4, fa2, gen2, ns2, q5⟩)
        exact segc_mono q fun e1 s1 h => ⟨fp, tn, q1, q2, q3, h⟩
    obtain ⟨gs, hgs2, hgo⟩ := key
    have hgl : g' < s2.gens.size := (Array.getElem?_eq_some_iff.mp hgs2).1
    refine wpAny_gsz (n := g' + 1) hgl (next_genC hr.hd lim2 hr.depth gen2 hgs2 (goes_mono hgo ?_))
    rintro e1 s1 ⟨fp, tn, q1, q2, ⟨it, T⟩, v, gg, l, k, c, p, fs, x, H1, rfl, hq, rv, y1, W1, rdy⟩
    refine .inr ⟨v, gg, l, k, c, p, fs, rfl, hq, fun hsz => ?_⟩
    rw [ei] at y1
    have ei1 : tot - m = i + 1 := by omega
    rw [ei1] at W1
    have hg1 : g' < s1.gens.size := by
      have z : (s1.setGen g' (End.susp v gg l k c p fs).genState).gens.size = s1.gens.size := setGen_size _ _ _
      have hsz' : g' + 1 ≤ (s1.setGen g' (End.susp v gg l k c p fs).genState).gens.size := hsz
      omega
    have bare1 : AllBare (s1.setGen g' (End.susp v gg l k c p fs).genState).gens := allBare_setGen W1.inv.bare (End.bare_of_quiet hq)
    have at1 : (s1.setGen g' (End.susp v gg l k c p fs).genState).gens[g']? = some (.suspended k l c p fs (gg || fs.any Frame.guarded)) := setGen_at hg1
    have W1' := Wk.regens W1 bare1
    obtain ⟨og, nm, qn, eg, hgc, hgd, hgs0⟩ := id W1'.gen
    have objs : ∀ b ∈ s.heap.objs.size :: a :: fp, ∃ o, s1.heap.get? b = some o ∧ ∀ v, o.data ≠ .cell v := fun b hb => by
      rcases List.mem_cons.mp hb with z | hb
      · obtain ⟨mm, o, es, epp, ho, hd, _⟩ := W1.ns
        rw [z]
        exact ⟨o, ho, fun v z => by rw [hd] at z; cases z⟩
      · rcases List.mem_cons.mp hb with z | hb
        · rw [z]
          exact ⟨og, eg, fun v z => by rw [hgd] at z; cases z⟩
        · exact T.obj _ _ W1.st b hb
    have ffs : ∀ b ∈ s.heap.objs.size :: a :: fp, FpOk X pins H1 b := fun b hb => by
      rcases List.mem_cons.mp hb with z | hb
      · rw [z]; exact W1.fL
      · rcases List.mem_cons.mp hb with z | hb
        · rw [z]; exact W1.fa
        · exact W1.ff b hb
    have IP := Inv.pinned W1'.inv ffs objs
    refine go_of eg hgc hgd (by decide) ?_
    refine wpAny_mono (Gk.kept (s := s1.setGen g' (End.susp v gg l k c p fs).genState) bare1 at1 fun G hG => hgT.run _ _ σ2 H1 x v _ (Inv.regens IP hG) rv (step i σ2 H2 lt w2 x H1 y1)) (fun _ s3 h3 => ?_) fun e s3 ⟨G, _, h⟩ => (hxe' _ _ h).elim
    obtain ⟨at3, G3, b3, σ3, H3, I3, q3⟩ := h3
    have I3' := Inv.regens I3 (b3 I3.bare)
    refine wpAny_mono (Gk.kept (s := s3) I3'.bare at3 fun G hG => hb.run _ _ σ3 H3 _ (Inv.regens I3' hG) q3) (fun fl s4 h4 => ?_) fun e s4 ⟨G, _, h⟩ => (hxe' _ _ h).elim
    obtain ⟨at4, G4, b4, q4⟩ := h4
    have again : ∀ {σ7 : L2.St} {H7 : Hp}, Inv X (pins ++ pinsAt (s.heap.objs.size :: a :: fp) s1.heap) σ7 H7 (Gk.wg s4 G4) → W (i + 1) σ7 H7 → ∃ m', m' < tot - i ∧ ∃ i σ' H', m' = tot - i ∧ i ≤ tot ∧ W i σ' H' ∧ Inv X pins σ' H' s4 ∧ FpOk X pins H' s.heap.objs.size ∧ FpOk X pins H' a ∧ s4.heap.IsGen a g' ∧ (∃ m, s4.heap.Ns s.heap.objs.size m) ∧
        ((i = 0 ∧ s4.gens[g']? = some (.fresh (.func [.For tgG iterG [.Expr (.Yield (some eG) yp) ep] [] fp_] (envOfC qual scope s.heap.objs.size f cdv)))) ∨
          (0 < i ∧ ∃ fp tn, (∀ b ∈ fp, s.heap.objs.size < b) ∧ a ∉ fp ∧ (∃ it, Turn X.prog X.w X.K tgG (Itr 0 tot) fp it tn) ∧ (∀ b ∈ fp, FpOk X pins H' b) ∧ tn i s4.heap ∧ ∃ k l c p fs cl, s4.gens[g']? = some (.suspended k l c p fs cl) ∧ Rdy X X.A.in1 (envOfC qual scope s.heap.objs.size f cdv) a g' fp tn Yl tot (tot - i) c (k (.send .none)) fs)) := fun {σ7 H7} I7 n7 => by
      have I7' := Inv.regens I7 (b4 I7.bare)
      have pin7 : ∀ b ∈ s.heap.objs.size :: a :: fp, ∀ o, s1.heap.get? b = some o → s4.heap.get? b = some o ∧ H7 b = none := fun b hb o eo =>
        let z := I7'.pin (b, o) (List.mem_append_right _ (List.mem_append_right _ (mem_pinsAt hb eo)))
        ⟨z.1, z.2.1⟩
      have fp7 : ∀ b ∈ s.heap.objs.size :: a :: fp, FpOk X pins H7 b := fun b hb => by
        obtain ⟨o, eo, _⟩ := objs b hb
        exact fpTo (ffs b hb) (pin7 b hb o eo).2
      have mL : s.heap.objs.size ∈ s.heap.objs.size :: a :: fp := List.mem_cons_self
      have ma : a ∈ s.heap.objs.size :: a :: fp := List.mem_cons_of_mem _ List.mem_cons_self
      have mf : ∀ b ∈ fp, b ∈ s.heap.objs.size :: a :: fp := fun b hb => List.mem_cons_of_mem _ (List.mem_cons_of_mem _ hb)
      refine ⟨tot - (i + 1), by omega, i + 1, σ7, H7, rfl, lt, n7, I7'.unpinned, fp7 _ mL, fp7 _ ma, ⟨og, nm, qn, (pin7 a ma og eg).1, hgc, hgd, hgs0⟩, ?_, .inr ⟨Nat.succ_pos _, fp, tn, q1, q2, ⟨it, T⟩, fun b hb => fp7 b (mf b hb), T.keep _ _ _ W1.st fun b hb o eo => (pin7 b (mf b hb) o eo).1, k, l, c, p, fs, _, at4, ?_⟩⟩
      · obtain ⟨mm, o, es, epp, ho, r⟩ := W1.ns
        exact ⟨mm, o, es, epp, (pin7 _ mL o ho).1, r⟩
      · have e : tot - (i + 1) = m := by omega
        rw [e]
        exact rdy
    cases fl with
    | next => obtain ⟨σ7, H7, I7, n7⟩ := q4; exact again I7 n7
    | cont => obtain ⟨σ7, H7, I7, n7⟩ := q4; exact again I7 n7
    | brk => obtain ⟨σ7, H7, I7, n7⟩ := q4; exact ⟨σ7, H7, (Inv.regens I7 (b4 I7.bare)).unpinned, n7⟩
    | ret u => obtain ⟨x7, σ7, H7, I7, r7, n7⟩ := q4; exact ⟨x7, σ7, H7, (Inv.regens I7 (b4 I7.bare)).unpinned, r7, n7⟩
  · have e : i = tot := by omega
    subst e
    rcases st2 with ⟨e0, _⟩ | ⟨_, fp, tn, q1, q2, q3, q4, q5, k, l, c, p, fs, cl, hgs2, rdy⟩
    · omega
    rw [Nat.sub_self] at rdy
    have q := rdy pins σ2 H2 (s2.setGen g' .running) ⟨I2r, fL2, q4, fa2, gen2, ns2, q5⟩
    refine next_genC hr.hd lim2 hr.depth gen2 hgs2 (segc_mono q ?_)
    rintro e1 s1 ⟨rfl, I3⟩
    refine .inl ⟨rfl, fun h' hk => wpAny_execs_nil ⟨σ2, H2, ?_, fin _ _ w2⟩⟩
    exact Inv.kept (t' := s1.toks) (Inv.regens I3 (allBare_setGen (g := g') (x := .finished) I3.bare rfl)) hk
end
end Gt
namespace Dr
open PySem PySem.Spec PyProof.Rows L2
/-! ### the drawing of numbers: smixed, sdraw, sopen -/
def topS (i : Nat) : Stmt := PySem.Challenge.pw_sparecut_k03_what_follows.main.body.getD i (.Pass ⟨0, 0, 0, 0⟩)
abbrev sMix : Stmt := topS 9
abbrev sDrw : Stmt := topS 10
abbrev sOpn : Stmt := topS 11
theorem scMix : FnScope ["cell", "at", "one", "two", "three"] ["cell", "at"] (defScope sMix) := ⟨rfl, rfl, rfl, by decide +kernel, rfl, by decide +kernel, by decide +kernel⟩
theorem scDrw : FnScope ["feed", "many", "at", "cell", "digit"] ["feed", "many"] (defScope sDrw) := ⟨rfl, rfl, rfl, by decide +kernel, rfl, by decide +kernel, by decide +kernel⟩
theorem scOpn : FnScope ["script"] ["script"] (defScope sOpn) := ⟨rfl, rfl, rfl, by decide +kernel, rfl, by decide +kernel, by decide +kernel⟩
/-- what lies at f: cells (at c), a place, a rest; at most B cells were taken -/
def Feed (H : Hp) (f c : Addr) (B : Nat) : Prop := ∃ (ns : List Int) (n : Nat) (r : Int),
  H f = some (.lst [.ref c, .int n, .int r]) ∧ H c = some (.lst (ns.map V.int)) ∧ ns.length ≤ 60 ∧ n ≤ B
/-- all but f is as it was -/
def But (f : Addr) (H H' : Hp) : Prop := ∀ b, b ≠ f → H' b = H b
theorem But.refl (f : Addr) (H : Hp) : But f H H := fun _ _ => rfl
theorem But.trans {f : Addr} {H H1 H2 : Hp} (a : But f H H1) (b : But f H1 H2) : But f H H2 := fun x n => (b x n).trans (a x n)
theorem Feed.mono {H : Hp} {f c : Addr} {B B' : Nat} (h : Feed H f c B) (l : B ≤ B') : Feed H f c B' := by
  obtain ⟨ns, n, r, h1, h2, h3, h4⟩ := h
  exact ⟨ns, n, r, h1, h2, h3, Nat.le_trans h4 l⟩
theorem Feed.same {H H' : Hp} {f c : Addr} {B : Nat} (h : Feed H f c B) (s : Same H H') : Feed H' f c B := by
  obtain ⟨ns, n, r, h1, h2, h3, h4⟩ := h
  exact ⟨ns, n, r, s _ _ h1, s _ _ h2, h3, h4⟩
theorem Feed.upd {H : Hp} {f c D : Addr} {B : Nat} {o : HO} (h : Feed H f c B) (nf : D ≠ f) (nc : D ≠ c) : Feed (upd H D o) f c B := by
  obtain ⟨ns, n, r, h1, h2, h3, h4⟩ := h
  exact ⟨ns, n, r, by rw [upd_ne (Ne.symm nf)]; exact h1, by rw [upd_ne (Ne.symm nc)]; exact h2, h3, h4⟩
theorem Feed.nf {H : Hp} {f c D : Addr} {B : Nat} (h : Feed H f c B) (n : H D = none) : D ≠ f := by
  obtain ⟨_, _, _, h1, _⟩ := h
  exact Ne.symm (ne_of_none h1 n)
theorem Feed.nc {H : Hp} {f c D : Addr} {B : Nat} (h : Feed H f c B) (n : H D = none) : D ≠ c := by
  obtain ⟨_, _, _, _, h2, _⟩ := h
  exact Ne.symm (ne_of_none h2 n)
theorem feed_ne {H : Hp} {f c : Addr} {ns : List Int} {a : V} {as : List V} (h1 : H f = some (.lst (.ref c :: as))) (h2 : H c = some (.lst (ns.map V.int))) : c ≠ f := by
  intro e
  rw [e, h1] at h2
  have z := HO.lst.inj (Option.some.inj h2)
  cases ns with
  | nil => cases z
  | cons x r => cases z
section
variable {P : Program} {w : World} {K : PySem.W.Frag} {mg : Str → Option Value} {base : Heap}
def spMix : Sp := fun vs H Q _ => ∃ (c : Int) (n : Nat), vs = [.int c, .int n] ∧ n ≤ 2 ^ 60 ∧ ∀ r : Int, Q (.int r) H
theorem ok_mix {f : Addr} {fd : FuncData} {k : Nat} (F : Fun K "_law_smixed" "_law_smixed" sMix f fd) : FnOk P w K mg base CX0 (k + 1) f fd ["cell", "at"] spMix := by
  refine F.ok scMix (fun vs H Q E h => ?_) (fun cdv A outer s H vs Q E hr h => ?_)
  · obtain ⟨c, n, rfl, _⟩ := h
    rfl
  · obtain ⟨c, n, rfl, hn, q⟩ := h
    refine ⟨_, pss_cons (ps_set (i := 2) scMix.nd rfl (.inl rfl) (pe_op op_mod (pe_op op_add (pe_op op_add (pe_op op_mul (pe_op op_mod (pv 0) pe_int) pe_int) (pe_op op_mul (pv 1) pe_int)) pe_int) pe_int))
      (pss_cons (ps_set (i := 3) scMix.nd rfl (.inl rfl) (pe_op op_mod (pe_op op_add (pe_op op_add (pe_op op_mul (pv 2) (pv 2)) (pe_op op_mul (pe_op op_mul (pv 1) (pv 1)) pe_int)) pe_int) pe_int))
      (pss_cons (ps_set (i := 4) scMix.nd rfl (.inl rfl) (pe_op op_mod (pe_op op_add (pe_op op_add (pe_op op_mul (pv 3) (pv 3)) (pv 2)) (pv 1)) pe_int))
      (pss_one (ps_ret (pe_op op_add (pe_op op_mul (pe_op op_add (pe_op op_mul (pv 4) pe_int) (pv 3)) pe_int) (pv 2)))))), ?_⟩
    refine ⟨_, rfl, _, _, rfl, rfl, by show (0 : Int) < 2147483647; decide, _, _, rfl, rfl, .inr ⟨by decide, by decide⟩, _, rfl, _, _, rfl, rfl, .inr ⟨by decide, by decide⟩, _, _, rfl, rfl, _, _, rfl, rfl, _, _, rfl, rfl, by show (0 : Int) < 2147483629; decide, ?_⟩
    generalize e1 : (c % 2147483647 * 48271 + (n : Int) * 7919 + 11) % 2147483629 = one
    have o1 : 0 ≤ one := by rw [← e1]; exact Int.emod_nonneg _ (by decide)
    have o2 : one < 2147483629 := by rw [← e1]; exact Int.emod_lt_of_pos _ (by decide)
    refine ⟨_, rfl, _, rfl, _, _, rfl, rfl, .inl ⟨by omega, by omega⟩, _, rfl, _, rfl, _, _, rfl, rfl, .inl ⟨by omega, by omega⟩, _, _, rfl, rfl, .inr ⟨by decide, by decide⟩, _, _, rfl, rfl, _, _, rfl, rfl, _, _, rfl, rfl, by show (0 : Int) < 2147483587; decide, ?_⟩
    generalize e2 : (one * one + (n : Int) * (n : Int) * 31 + 5) % 2147483587 = two
    have t1 : 0 ≤ two := by rw [← e2]; exact Int.emod_nonneg _ (by decide)
    have t2 : two < 2147483587 := by rw [← e2]; exact Int.emod_lt_of_pos _ (by decide)
    refine ⟨_, rfl, _, rfl, _, _, rfl, rfl, .inl ⟨by omega, by omega⟩, _, rfl, _, _, rfl, rfl, _, rfl, _, _, rfl, rfl, _, _, rfl, rfl, by show (0 : Int) < 2147483563; decide, ?_⟩
    exact ⟨_, rfl, _, _, rfl, rfl, .inr ⟨by decide, by decide⟩, _, rfl, _, _, rfl, rfl, _, _, rfl, rfl, .inr ⟨by decide, by decide⟩, _, rfl, _, _, rfl, rfl, q _⟩
/-- sdraw(feed, many): any number from 0 to many - 1 -/
def spDrw : Sp := fun vs H Q _ => ∃ (f c : Addr) (m : Int) (B : Nat), vs = [.ref f, .int m] ∧ 0 < m ∧ m < 2 ^ 29 ∧ Feed H f c B ∧ B ≤ 2 ^ 59 ∧
  ∀ (d : Int) (H' : Hp), 0 ≤ d → d < m → Feed H' f c (B + 1) → But f H H' → Q (.int d) H'
theorem ok_drw {f fM : Addr} {fd fdM : FuncData} {k : Nat} (F : Fun K "_law_sdraw" "_law_sdraw" sDrw f fd) (FM : Fun K "_law_smixed" "_law_smixed" sMix fM fdM) (bM : Binds K fdM ["cell", "at"] []) (gM : mg "_law_smixed" = some (.ref fM)) (ml : mg "len" = none) :
    FnOk P w K mg base CX0 (k + 2) f fd ["feed", "many"] spDrw := by
  have GM : FnOk P w K mg base CX0 1 fM fdM ["cell", "at"] spMix := ok_mix FM
  refine F.ok scDrw (fun vs H Q E h => ?_) (fun cdv A outer s H vs Q E hr h => ?_)
  · obtain ⟨f, c, m, B, rfl, _⟩ := h
    rfl
  · obtain ⟨f, c, m, B, rfl, m0, m1, hF, hB, q⟩ := h
    have hr1 : Room 1 _ := hr.mono (by omega)
    refine ⟨_, Evl.pss_cut (ps_if (pt_cmpR op_lt (pe_ix ix_list (pv 0) pe_int (fun _ _ => rfl)) (pv 1) (nomark _))
        (pss_cons (ps_set (i := 2) scDrw.nd rfl (.inl rfl) (pe_ix ix_list (pv 0) pe_int (fun _ _ => rfl)))
        (pss_cons (ps_set (i := 3) scDrw.nd rfl (.inl rfl) (pe_op op_mul (pv 2) pe_int))
        (Evl.pss_cut (ps_if (pt_cmpR op_gt (pe_callB call_len_seq (by rfl) ml PySem.boot_len (pa_cons (pe_ix ix_list (pv 0) pe_int (fun _ _ => rfl)) pa_nil)) pe_int (nomark _))
            (pss_one (ps_set (i := 3) scDrw.nd rfl (.inl rfl) (pe_ix ix_list (pe_ix ix_list (pv 0) pe_int (fun _ _ => rfl)) (pe_op op_mod (pv 2) (pe_callB call_len_seq (by rfl) ml PySem.boot_len (pa_cons (pe_ix ix_list (pv 0) pe_int (fun _ _ => rfl)) pa_nil))) (fun _ _ => rfl)))) pss_nil)
        (pss_cons (ps_asg (pe_op op_add (pv 2) pe_int) (pg_sub (pv 0) pe_int set_list))
        (Evl.pss_cut (ps_asg (pv 3) (pg_sub (pv 0) pe_int set_list))
        (pss_one (ps_if (PW.pt (pw_or (pt_cmpR op_lt (pv 3) (pe_op op_pow pe_int pe_int) (nomark _)) (pw_or1 (pt_cmpR op_ge (pv 2) (pe_callB call_len_seq (by rfl) ml PySem.boot_len (pa_cons (pe_ix ix_list (pv 0) pe_int (fun _ _ => rfl)) pa_nil)) (nomark _)))))
          (pss_one (ps_asg (pe_call GM hr1 (by rfl) gM FM.kp bM .nil pass0 (pa_cons (pv 3) (pa_cons (pv 2) pa_nil))) (pg_sub (pv 0) pe_int set_list))) pss_nil)))))))
        pss_nil)
      (pss_cons (ps_set (i := 4) scDrw.nd rfl (.inl rfl) (pe_op op_mod (pe_ix ix_list (pv 0) pe_int (fun _ _ => rfl)) (pv 1)))
      (pss_cons (ps_asg (pe_op op_fdiv (pe_ix ix_list (pv 0) pe_int (fun _ _ => rfl)) (pv 1)) (pg_sub (pv 0) pe_int set_list))
      (pss_one (ps_ret (pv 4))))), ?_⟩
    obtain ⟨ns, n, r, h1, h2, h3, h4⟩ := hF
    have hcf : c ≠ f := feed_ne (a := .non) h1 h2
    have hS : SqL K H f [.ref c, .int n, .int r] := .of h1
    have hC : SqL K H c (ns.map V.int) := .of h2
    refine Evl.q_cut (M := fun σ' H' => ∃ (y2 y3 : Option V) (n' : Nat) (r' : Int), σ' = [some (.ref f), some (.int m), y2, y3, none] ∧ H' f = some (.lst [.ref c, .int n', .int r']) ∧ n' ≤ B + 1 ∧ But f H H') ?_ ?_
    · refine ⟨.ref f, rfl, f, _, 2, _, rfl, rfl, hS, rfl, .int m, rfl, _, _, rfl, rfl, _, rfl, ite2 (fun e => ?_) (fun e => ?_)⟩
      · refine ⟨.ref f, rfl, f, _, 1, _, rfl, rfl, hS, rfl, ?_⟩
        refine ⟨_, rfl, _, _, rfl, rfl, .inr ⟨by decide, by decide⟩, ?_⟩
        refine Evl.q_cut (M := fun σ' H' => ∃ (z : Int), σ' = [some (.ref f), some (.int m), some (.int n), some (.int z), none] ∧ H' = H) ?_ ?_
        · refine ⟨.ref f, rfl, f, _, 0, _, rfl, rfl, hS, rfl, c, _, rfl, .inl hC, _, _, rfl, rfl, _, rfl, ite2 (fun e => ?_) (fun e => ?_)⟩
          · have l0 : 0 < ns.length := by
              have z : (0 : Int) < ((ns.map V.int).length : Int) := of_decide_eq_true e
              rw [List.length_map] at z
              omega
            have l1 : n % ns.length < ns.length := Nat.mod_lt _ l0
            refine ⟨.ref f, rfl, f, _, 0, _, rfl, rfl, hS, rfl, _, rfl, .ref f, rfl, f, _, 0, _, rfl, rfl, hS, rfl, c, _, rfl, .inl hC, _, _, rfl, rfl, ?_, c, _, _, .int (ns[n % ns.length]), rfl, rfl, hC, ?_, ?_⟩
            · show (0 : Int) < ((ns.map V.int).length : Int)
              rw [List.length_map]
              omega
            · refine at_of (j := n % ns.length) ?_ ?_
              · rw [List.length_map]
                exact (Int.natCast_emod n ns.length).symm
              · rw [List.getElem?_map, List.getElem?_eq_getElem l1]
                rfl
            · exact ⟨_, rfl, rfl⟩
          · exact ⟨_, rfl, rfl⟩
        · rintro σ' H' ⟨z, rfl, rfl⟩
          refine ⟨_, rfl, _, _, rfl, rfl, _, rfl, f, _, 1, 1, rfl, rfl, h1, rfl, ?_⟩
          refine Evl.q_cut (M := fun σ' H2 => σ' = [some (.ref f), some (.int m), some (.int n), some (.int z), none] ∧ But f H' H2 ∧ H2 f = some (.lst [.ref c, .int ((n + 1 : Nat) : Int), .int z])) ?_ ?_
          · refine ⟨_, rfl, _, rfl, f, _, 2, 2, rfl, rfl, upd_same, rfl, rfl, fun b nb => ?_, upd_same⟩
            rw [upd_ne nb, upd_ne nb]
          rintro σ' H2 ⟨rfl, b2, f2⟩
          have hS2 : SqL K H2 f [.ref c, .int ((n + 1 : Nat) : Int), .int z] := .of f2
          have hC2 : SqL K H2 c (ns.map V.int) := .of ((b2 c hcf).trans h2)
          have mix : ∀ D : Ends, D.nx = (fun σ' H'' => ∃ (y2 y3 : Option V) (n' : Nat) (r' : Int), σ' = [some (.ref f), some (.int m), y2, y3, none] ∧ H'' f = some (.lst [.ref c, .int n', .int r']) ∧ n' ≤ B + 1 ∧ But f H' H'') →
              tAsg (tCall spMix [] E0 (tCons (tVar 3) (tCons (tVar 2) tNil))) (gSub (tVar 0) (tC (.int 2)) rSetL) D [some (.ref f), some (.int m), some (.int n), some (.int z), none] H2 := by
            intro D hD
            refine ⟨_, rfl, _, rfl, z, n, rfl, by omega, fun r2 => ?_⟩
            refine ⟨_, rfl, f, _, 2, 2, rfl, rfl, f2, rfl, ?_⟩
            rw [hD]
            exact ⟨_, _, n + 1, r2, rfl, upd_same, by omega, fun b nb => by rw [upd_ne nb]; exact b2 b nb⟩
          refine ⟨_, rfl, _, _, rfl, rfl, ⟨by decide, by decide, by decide⟩, _, _, rfl, rfl, _, rfl, ite2 (fun e => ?_) (fun e => ?_)⟩
          · exact iteT (mix _ rfl)
          · refine ⟨_, rfl, .ref f, rfl, f, _, 0, _, rfl, rfl, hS2, rfl, c, _, rfl, .inl hC2, _, _, rfl, rfl, _, rfl, ite2 (fun e => ?_) (fun e => ?_)⟩
            · exact mix _ rfl
            · exact ⟨_, _, n + 1, z, rfl, f2, by omega, b2⟩
      · exact ⟨none, none, n, r, rfl, h1, by omega, But.refl f H⟩
    · rintro σ' H' ⟨y2, y3, n', r', rfl, f1, ln, b1⟩
      have hS1 : SqL K H' f [.ref c, .int n', .int r'] := .of f1
      refine ⟨.ref f, rfl, f, _, 2, _, rfl, rfl, hS1, rfl, .int m, rfl, _, _, rfl, rfl, m0, ?_⟩
      refine ⟨.ref f, rfl, f, _, 2, _, rfl, rfl, hS1, rfl, .int m, rfl, _, _, rfl, rfl, ⟨m0, by omega⟩, .ref f, rfl, f, _, 2, 2, rfl, rfl, f1, rfl, ?_⟩
      refine ⟨_, rfl, q (r' % m) _ (Int.emod_nonneg _ (by omega)) (Int.emod_lt_of_pos _ m0) ⟨ns, n', r' / m, upd_same, ?_, h3, ln⟩ fun b nb => ?_⟩
      · rw [upd_ne hcf, b1 c hcf]
        exact h2
      · rw [upd_ne nb]
        exact b1 b nb
/-- sopen(script) -/
def spOpn (K : PySem.W.Frag) : Sp := fun vs H Q _ => ∃ (a : Addr) (ns : List Int), vs = [.ref a] ∧ SqL K H a (ns.map V.int) ∧ ∀ (f c : Addr) (H' : Hp), H f = none → H c = none → Same H H' → Feed H' f c 0 → Q (.ref f) H'
theorem cut60 (ns : List Int) : cutV (ns.map V.int) none (some 60) = (ns.take 60).map V.int := by
  unfold cutV
  rw [HT.sIx_none, show HT.sIx (ns.map V.int).length (ns.map V.int).length (some 60) = min 60 (ns.map V.int).length from HT.sIx_nat _ _ 60]
  rw [List.drop_zero, Nat.sub_zero, List.map_take, List.length_map]
  by_cases h : ns.length ≤ 60
  · rw [Nat.min_eq_right h, List.take_of_length_le (by rw [List.length_map]; exact Nat.le_refl _), List.take_of_length_le (by rw [List.length_map]; exact h)]
  · rw [Nat.min_eq_left (by omega)]
theorem same_upd {H : Hp} {p : Addr} {o : HO} (h : H p = none) : Same H (upd H p o) := fun b x e => by
  rw [upd_ne (ne_of_none e h)]
  exact e
theorem ok_opn {f : Addr} {fd : FuncData} {k : Nat} (F : Fun K "_law_sopen" "_law_sopen" sOpn f fd) (ml : mg "list" = none) : FnOk P w K mg base CX0 (k + 1) f fd ["script"] (spOpn K) := by
  refine F.ok scOpn (fun vs H Q E h => ?_) (fun cdv A outer s H vs Q E hr h => ?_)
  · obtain ⟨a, ns, rfl, _⟩ := h
    rfl
  · obtain ⟨a, ns, rfl, hS, q⟩ := h
    refine ⟨_, pss_one (ps_ret (pe_lst (pa_cons (pe_callTy call_list_of (by rfl) ml (by decide +kernel) (pa_cons (pe_slice sl_list (pv 0) po_none (po_some pe_int)) pa_nil)) (pa_cons pe_int (pa_cons pe_int pa_nil))))), ?_⟩
    refine ⟨.ref a, rfl, 60, rfl, a, _, rfl, hS, fun c nc => ?_⟩
    refine ⟨c, _, rfl, .inl (.of upd_same), fun d nd => ?_⟩
    refine ⟨by show 3 ≤ sizeLine; decide, fun p np => ?_⟩
    have s1 : Same H (upd H c (.lst (cutV (ns.map V.int) none (some 60)))) := same_upd nc
    have s2 := s1.trans (same_upd (o := .lst (cutV (ns.map V.int) none (some 60))) nd)
    have s3 := s2.trans (same_upd (o := .lst [.ref d, .int 0, .int 0]) np)
    refine q p d _ (s2.free np) (s1.free nd) s3 ⟨ns.take 60, 0, 0, upd_same, ?_, ?_, Nat.le_refl _⟩
    · have ndp : d ≠ p := ne_of_none (upd_same (H := upd H c (.lst (cutV (ns.map V.int) none (some 60)))) (a := d) (o := .lst (cutV (ns.map V.int) none (some 60)))) np
      rw [upd_ne ndp, upd_same, cut60]
    · rw [List.length_take]
      omega
end
end Dr
namespace Kp
open PySem PySem.Spec PyProof.Rows L2 GxR Nw Dr
/-! ### what a call leaves as it was: all but the feed (F) and the tables of code objects -/
structure Ke (F : Addr → Prop) (H H' : Hp) : Prop where
  keep : ∀ b o, H b = some o → (∀ ps, o ≠ .tbl ps) → ¬ F b → H' b = some o
  tabs : ∀ P, TabG H P → TabG H' P
  tups : ∀ b xs, H b = some (.tup xs) → H' b = some (.tup xs)
abbrev Nof : Addr → Prop := fun _ => False
variable {F G : Addr → Prop} {H H1 H2 H' : Hp} {f c P : Addr} {B : Nat}
theorem Ke.refl (F : Addr → Prop) (H : Hp) : Ke F H H := ⟨fun _ _ h _ _ => h, fun _ h => h, fun _ _ h => h⟩
theorem Ke.trans (a : Ke F H H1) (b : Ke F H1 H2) : Ke F H H2 := ⟨fun x o h n m => b.keep x o (a.keep x o h n m) n m, fun Q h => b.tabs Q (a.tabs Q h), fun x xs h => b.tups x xs (a.tups x xs h)⟩
theorem Ke.mono (a : Ke F H H1) (h : ∀ b, F b → G b) : Ke G H H1 := ⟨fun x o e n m => a.keep x o e n fun z => m (h x z), a.tabs, a.tups⟩
theorem Ke.all (a : Ke Nof H H1) : Ke F H H1 := a.mono fun _ z => z.elim
theorem Ke.same (s : Same H H1) : Ke F H H1 := ⟨fun b o e _ _ => s b o e, fun Q ⟨ps, h, t⟩ => ⟨ps, s _ _ h, t⟩, fun b xs e => s _ _ e⟩
theorem Ke.lst {a : Addr} {xs : List V} (k : Ke F H H1) (h : H a = some (.lst xs)) (n : ¬ F a) : H1 a = some (.lst xs) := k.keep a _ h (fun ps z => by cases z) n
theorem Ke.tabbed (t : TabG H P) (x : Tabbed P H H1) : Ke F H H1 := by
  obtain ⟨ps, hP, _⟩ := t
  have nP : ∀ b o, H b = some o → (∀ qs, o ≠ .tbl qs) → b ≠ P := fun b o e n z => by
    rw [z, hP] at e
    exact n ps (Option.some.inj e).symm
  refine ⟨fun b o e n _ => (x.2 b (nP b o e n)).trans e, fun Q hQ => ?_, fun b xs e => (x.2 b (nP b _ e fun qs z => by cases z)).trans e⟩
  by_cases hq : Q = P
  · rw [hq]
    exact x.1
  · obtain ⟨qs, h1, h2⟩ := hQ
    exact ⟨qs, (x.2 Q hq).trans h1, h2⟩
theorem Ke.but (h : Feed H f c B) (b : But f H H1) : Ke (· = f) H H1 := by
  obtain ⟨ns, n, r, h1, _⟩ := h
  refine ⟨fun x o e _ m => (b x m).trans e, fun Q ⟨qs, e, t⟩ => ⟨qs, (b Q fun z => ?_).trans e, t⟩, fun x xs e => (b x fun z => ?_).trans e⟩
  · rw [z, h1] at e
    cases e
  · rw [z, h1] at e
    cases e
/-- a write to an object of ours that was new behind H -/
theorem Ke.upd {p : Addr} {o : HO} (k : Ke F H H1) (n : H p = none) : Ke F H (upd H1 p o) := by
  refine ⟨fun b x e t m => ?_, fun Q hQ => ?_, fun b xs e => ?_⟩
  · rw [upd_ne (ne_of_none e n)]
    exact k.keep b x e t m
  · obtain ⟨ps, e, t⟩ := hQ
    obtain ⟨qs, e2, t2⟩ := k.tabs Q ⟨ps, e, t⟩
    exact ⟨qs, by rw [upd_ne (ne_of_none e n)]; exact e2, t2⟩
  · rw [upd_ne (ne_of_none e n)]
    exact k.tups b xs e
theorem Ke.feed (k : Ke Nof H H1) (h : Feed H f c B) : Feed H1 f c B := by
  obtain ⟨ns, n, r, h1, h2, h3, h4⟩ := h
  exact ⟨ns, n, r, k.lst h1 (fun z => z), k.lst h2 (fun z => z), h3, h4⟩
/-- p holds nothing that H knows (but a table, perhaps) -/
def Frs (H : Hp) (p : Addr) : Prop := ∀ b o, H b = some o → (∀ ps, o ≠ .tbl ps) → b ≠ p
theorem Frs.of {p : Addr} (h : H p = none) : Frs H p := fun b o e _ => ne_of_none e h
theorem Frs.ke {p : Addr} (k : Ke (· = f) H H1) (hF : Feed H1 f c B) (h : Frs H1 p) : Frs H p := fun b o e n => by
  by_cases hb : b = f
  · obtain ⟨_, _, _, h1, _⟩ := hF
    rw [hb]
    exact h f _ h1 fun ps z => by cases z
  · exact h b o (k.keep b o e n hb) n
theorem Frs.ke0 {p : Addr} (k : Ke Nof H H1) (h : Frs H1 p) : Frs H p := fun b o e n => h b o (k.keep b o e n fun z => z) n
theorem Ke.write {p : Addr} {xs : List V} {o : HO} (k : Ke F H H1) (fr : Frs H p) (h1 : H1 p = some (.lst xs)) : Ke F H (L2.upd H1 p o) := by
  refine ⟨fun b x e t m => ?_, fun Q hQ => ?_, fun b ys e => ?_⟩
  · rw [upd_ne (fr b x e t)]
    exact k.keep b x e t m
  · obtain ⟨qs, e2, t2⟩ := k.tabs Q hQ
    have n : Q ≠ p := fun z => by
      rw [z, h1] at e2
      cases e2
    exact ⟨qs, by rw [upd_ne n]; exact e2, t2⟩
  · rw [upd_ne (fr b _ e fun ps z => by cases z)]
    exact k.tups b ys e
/-- whole numbers in a tuple, truths in a tuple -/
def TupI (H : Hp) (v : V) (ns : List Int) : Prop := ∃ a, v = .ref a ∧ H a = some (.tup (ns.map V.int))
def TupB (H : Hp) (v : V) (bs : List Bool) : Prop := ∃ a, v = .ref a ∧ H a = some (.tup (bs.map V.bl))
def LstI (H : Hp) (v : V) (ns : List Int) : Prop := ∃ a, v = .ref a ∧ H a = some (.lst (ns.map V.int))
/-- a tuple of claims -/
def Bk (H : Hp) (v : V) (css : List (List Int)) : Prop := ∃ a vs, v = .ref a ∧ H a = some (.tup vs) ∧ vs.length = css.length ∧ ∀ (i : Nat) (x : V) (cs : List Int), vs[i]? = some x → css[i]? = some cs → TupI H x cs
theorem TupI.ke {v : V} {ns : List Int} (h : TupI H v ns) (k : Ke F H H1) : TupI H1 v ns := by
  obtain ⟨a, e, h⟩ := h
  exact ⟨a, e, k.tups _ _ h⟩
theorem TupB.ke {v : V} {ns : List Bool} (h : TupB H v ns) (k : Ke F H H1) : TupB H1 v ns := by
  obtain ⟨a, e, h⟩ := h
  exact ⟨a, e, k.tups _ _ h⟩
theorem Bk.ke {v : V} {css : List (List Int)} (h : Bk H v css) (k : Ke F H H1) : Bk H1 v css := by
  obtain ⟨a, vs, e, h, l, t⟩ := h
  exact ⟨a, vs, e, k.tups _ _ h, l, fun i x cs h1 h2 => (t i x cs h1 h2).ke k⟩
/-! ### claims -/
def rising : List Int → Bool
  | a :: b :: r => decide (a < b) && rising (b :: r)
  | _ => true
structure IsCl (cs : List Int) : Prop where
  up : cs.Pairwise (· < ·)
  says : ∀ k ∈ cs, k ≠ 0 ∧ -8 ≤ k ∧ k ≤ 8
  opp : ∀ k ∈ cs, -k ∉ cs
  len : cs.length ≤ 8
theorem IsCl.nil : IsCl [] := { up := .nil, says := fun _ h => (nomatch h), opp := fun _ h => (nomatch h), len := by decide }
end Kp
namespace Cl
open PySem PySem.Spec PyProof.Rows L2 GxR Nw Dr Kp
abbrev sThg : Stmt := topS 12
abbrev sClm : Stmt := topS 13
abbrev sBok : Stmt := topS 14
theorem scThg : FnScope ["feed", "least", "most", "left", "many", "some", "turn"] ["feed", "least", "most"] (defScope sThg) := ⟨rfl, rfl, rfl, by decide +kernel, rfl, by decide +kernel, by decide +kernel⟩
theorem scClm : FnScope ["feed", "things", "most", "left", "says", "turn", "thing"] ["feed", "things", "most"] (defScope sClm) := ⟨rfl, rfl, rfl, by decide +kernel, rfl, by decide +kernel, by decide +kernel⟩
theorem scBok : FnScope ["feed", "things", "most", "claims", "turn", "claim"] ["feed", "things", "most"] (defScope sBok) := ⟨rfl, rfl, rfl, by decide +kernel, rfl, by decide +kernel, by decide +kernel⟩
/-- the built-ins that stand as they stood -/
structure Zs (mg : Str → Option Value) : Prop where
  z_len : mg "len" = none
  z_list : mg "list" = none
  z_range : mg "range" = none
  z_min : mg "min" = none
  z_tuple : mg "tuple" = none
  z_sorted : mg "sorted" = none
/-- things: numbers from 1 to 8, none twice -/
structure Thg (ks : List Int) : Prop where
  nd : ks.Nodup
  one : ∀ k ∈ ks, 1 ≤ k ∧ k ≤ 8
  len : ks.length ≤ 8
theorem perm_pop : ∀ {l : List Int} {d : Nat} {y : Int}, l[d]? = some y → (y :: l.eraseIdx d).Perm l
  | [], _, _, h => by simp at h
  | a :: r, 0, y, h => by
    have e : a = y := Option.some.inj h
    subst e
    exact .refl _
  | a :: r, d + 1, y, h => by
    have ih := perm_pop (l := r) (d := d) (y := y) h
    exact (List.Perm.swap a y _).trans (.cons a ih)
theorem erase_len {l : List Int} {d : Nat} (h : d < l.length) : (l.eraseIdx d).length = l.length - 1 := List.length_eraseIdx_of_lt h
theorem erase_map : ∀ (l : List Int) (d : Nat), (l.map V.int).eraseIdx d = (l.eraseIdx d).map V.int
  | [], _ => rfl
  | _ :: _, 0 => rfl
  | a :: r, d + 1 => congrArg (V.int a :: ·) (erase_map r d)
theorem ix_seq {d : Int} {n : Nat} (h0 : 0 ≤ d) (h1 : d < (n : Int)) : seqIndex? d n = some d.toNat := by
  have e : ixN n d = some d.toNat := by
    unfold ixN
    rw [if_pos h0, if_pos h1]
  exact (ixN_seq e).1
section
variable {P : Program} {w : World} {K : PySem.W.Frag} {mg : Str → Option Value} {base : Heap} {fD fM : Addr} {fdD fdM : FuncData}
def spThg : Sp := fun vs H Q _ => ∃ (f c : Addr) (l m : Int) (B : Nat), vs = [.ref f, .int l, .int m] ∧ 1 ≤ l ∧ l ≤ m ∧ m ≤ 8 ∧ Feed H f c B ∧ B ≤ 2 ^ 58 ∧
  ∀ (ks : List Int) (p : Addr) (H' : Hp), Feed H' f c (B + 10) → Ke (· = f) H H' → Frs H p → H' p = some (.lst (ks.map V.int)) → Thg ks → l ≤ ks.length → (ks.length : Int) ≤ m → Q (.ref p) H'
theorem ok_thg {f : Addr} {fd : FuncData} {k : Nat} (F : Fun K "_law_sthings" "_law_sthings" sThg f fd) (T : Zs mg) (FD : Fun K "_law_sdraw" "_law_sdraw" sDrw fD fdD) (bD : Binds K fdD ["feed", "many"] []) (gD : mg "_law_sdraw" = some (.ref fD)) (GD : FnOk P w K mg base CX0 2 fD fdD ["feed", "many"] spDrw) :
    FnOk P w K mg base CX0 (k + 3) f fd ["feed", "least", "most"] spThg := by
  refine F.ok scThg (fun vs H Q E h => ?_) (fun cdv A outer s H vs Q E hr h => ?_)
  · obtain ⟨f, c, l, m, B, rfl, _⟩ := h
    rfl
  · obtain ⟨f, c, l, m, B, rfl, l0, lm, m8, hF, hB, q⟩ := h
    have hr2 : Room 2 _ := hr.mono (by omega)
    refine ⟨_, (pss_cons (ps_set (i := 3) scThg.nd rfl (.inl rfl) (pe_lstN (pa_cons pe_int (pa_cons pe_int (pa_cons pe_int (pa_cons pe_int (pa_cons pe_int (pa_cons pe_int (pa_cons pe_int (pa_cons pe_int pa_nil))))))))))
      (Evl.pss_cut (ps_set (i := 4) scThg.nd rfl (.inl rfl) (pe_op op_add (pv 1) (pe_call GD hr2 (by rfl) gD FD.kp bD .nil pass0 (pa_cons (pv 0) (pa_cons (pe_op op_sub (pe_op op_add (pv 2) pe_int) (pv 1)) pa_nil)))))
      (pss_cons (ps_set (i := 5) scThg.nd rfl (.inl rfl) (pe_lstN pa_nil))
      (pss_cons (ps_for PassesOwn.never rfl (pi_range1 (by rfl) T.z_range (pa_cons (pv 4) pa_nil)) (pg_name (i := 6) scThg.nd rfl (.inl rfl)) (pss_one (ps_expr (pe_bm PySem.F.plainAttrs_list PySem.F.slot_list_append PySem.F.type_list_append mt_append (pv 5) (pa_cons (pe_bm PySem.F.plainAttrs_list PySem.F.slot_list_pop PySem.F.type_list_pop mt_popAt (pv 3) (pa_cons (pe_call GD hr2 (by rfl) gD FD.kp bD .nil pass0 (pa_cons (pv 0) (pa_cons (pe_callB call_len_seq (by rfl) T.z_len (by decide +kernel) (pa_cons (pv 3) pa_nil)) pa_nil))) pa_nil)) pa_nil)))))
      (pss_one (ps_ret (pv 5))))))), ?_⟩
    refine ⟨by show 8 ≤ sizeLine; decide, fun L H1 nL s1 hL _ => ?_⟩
    have nLf : L ≠ f := hF.nf nL
    have nLc : L ≠ c := hF.nc nL
    refine Evl.q_cut (M := fun σ' H' => ∃ n : Nat, σ' = [some (.ref f), some (.int l), some (.int m), some (.ref L), some (.int n), none, none] ∧ l ≤ n ∧ (n : Int) ≤ m ∧ Feed H' f c (B + 1) ∧ Ke (· = f) H H' ∧ H' L = some (.lst (([1, 2, 3, 4, 5, 6, 7, 8] : List Int).map V.int))) ?_ ?_
    · have F1 : Feed H1 f c B := hF.same s1
      refine ⟨_, rfl, _, rfl, _, rfl, _, _, rfl, rfl, _, rfl, _, _, rfl, rfl, f, c, _, B, rfl, by omega, by omega, F1, by omega, fun d H2 d0 d1 F2 b2 => ?_⟩
      refine ⟨_, _, rfl, rfl, (l + d).toNat, ?_, by omega, by omega, F2, (Ke.same s1).trans (.but F1 b2), (b2 L nLf).trans hL⟩
      rw [Int.toNat_of_nonneg (by omega)]
      rfl
    rintro σ' H2 ⟨n, rfl, ln, nm, F2, k2, hL2⟩
    refine ⟨Nat.zero_le _, fun S H3 nS s3 hS _ => ?_⟩
    have nSL : S ≠ L := Ne.symm (ne_of_none hL2 nS)
    have nSf : S ≠ f := F2.nf nS
    have nSc : S ≠ c := F2.nc nS
    have frS : Frs H S := .ke k2 F2 (.of nS)
    have frL : Frs H L := .of nL
    refine ⟨_, rfl, n, rfl, by omega, by omega, for_range (Pv := fun i σ H' => ∃ (y6 : Option V) (left ks : List Int), σ = [some (.ref f), some (.int l), some (.int m), some (.ref L), some (.int n), some (.ref S), y6] ∧ Feed H' f c (B + 1 + i) ∧ Ke (· = f) H H' ∧ H' L = some (.lst (left.map V.int)) ∧ H' S = some (.lst (ks.map V.int)) ∧
      left.length = 8 - i ∧ ks.length = i ∧ (ks ++ left).Perm [1, 2, 3, 4, 5, 6, 7, 8]) ?_ ?_ ?_⟩
    · exact ⟨none, _, [], rfl, F2.same s3, k2.trans (.same s3), s3 _ _ hL2, hS, rfl, rfl, .refl _⟩
    · rintro i σ H' hi ⟨y6, left, ks, rfl, F4, k4, hL4, hS4, ll, lk, pm⟩
      have hi : i < n := by simpa using hi
      refine ⟨_, rfl, .inl ⟨rfl, _, .of hS4⟩, _, rfl, .inl ⟨rfl, _, .of hL4⟩, _, rfl, _, rfl, L, _, rfl, .inl (.of hL4), f, c, _, B + 1 + i, rfl, ?_, ?_, F4, by omega, fun d H5 d0 d1 F5 b5 => ?_⟩
      · rw [List.length_map]
        omega
      · rw [List.length_map]
        omega
      rw [List.length_map] at d1
      have dl : d.toNat < left.length := by omega
      have hL5 : H5 L = some (.lst (left.map V.int)) := (b5 L nLf).trans hL4
      have hS5 : H5 S = some (.lst (ks.map V.int)) := (b5 S nSf).trans hS4
      have k5 : Ke (· = f) H H5 := k4.trans (.but F4 b5)
      refine ⟨L, _, d, d.toNat, .int left[d.toNat], rfl, rfl, hL5, by omega, by omega, by rw [List.length_map]; exact ix_seq d0 d1, by rw [List.getElem?_map, List.getElem?_eq_getElem dl]; rfl, ?_⟩
      refine ⟨S, _, _, rfl, rfl, by rw [upd_ne nSL]; exact hS5, by rw [List.length_map]; exact small1000 (by omega), ?_⟩
      refine ⟨_, left.eraseIdx d.toNat, ks ++ [left[d.toNat]], rfl, ((F5.upd nLf nLc).upd nSf nSc).mono (by omega), (k5.write frL hL5).write frS (by rw [upd_ne nSL]; exact hS5), ?_, ?_, ?_, ?_, ?_⟩
      · rw [upd_ne (Ne.symm nSL), upd_same, erase_map]
      · rw [upd_same, List.map_append]
        rfl
      · rw [erase_len dl]
        omega
      · rw [List.length_append, lk]
        rfl
      · refine List.Perm.trans ?_ pm
        rw [List.append_assoc]
        exact (List.Perm.refl ks).append (perm_pop (List.getElem?_eq_getElem dl))
    · rintro σ H' ⟨y6, left, ks, rfl, F4, k4, hL4, hS4, ll, lk, pm⟩
      have lk' : ks.length = n := by simpa using lk
      have nd : (ks ++ left).Nodup := pm.nodup_iff.mpr (by decide)
      refine ⟨_, rfl, q ks S H' (F4.mono (by omega)) k4 frS hS4 ⟨(List.nodup_append.mp nd).1, fun k hk => ?_, by omega⟩ (by omega) (by omega)⟩
      have hm : k ∈ ([1, 2, 3, 4, 5, 6, 7, 8] : List Int) := pm.mem_iff.mp (List.mem_append_left _ hk)
      simp only [List.mem_cons, List.not_mem_nil, or_false] at hm
      omega
/-- sclaim(feed, things, most) -/
def spClm : Sp := fun vs H Q _ => ∃ (f c t : Addr) (m : Int) (B : Nat) (ks : List Int), vs = [.ref f, .ref t, .int m] ∧ 0 ≤ m ∧ m ≤ 8 ∧ H t = some (.lst (ks.map V.int)) ∧ Thg ks ∧ Feed H f c B ∧ B ≤ 2 ^ 58 ∧
  ∀ (cs : List Int) (p : Addr) (H' : Hp), Feed H' f c (B + 20) → Ke (· = f) H H' → Frs H p → H' p = some (.tup (cs.map V.int)) → IsCl cs → (∀ s ∈ cs, (s.natAbs : Int) ∈ ks) → (cs.length : Int) ≤ m → Q (.ref p) H'
theorem abs_nd : ∀ {l : List Int}, (l.map fun s => (s.natAbs : Int)).Nodup → l.Nodup ∧ ∀ k ∈ l, k ≠ 0 → -k ∉ l := fun {l} h => by
  refine ⟨(List.pairwise_map.mp h).imp (fun {a b} z e => z (by rw [e])), fun k hk h0 hn => ?_⟩
  have inj : ∀ a ∈ l, ∀ b ∈ l, (a.natAbs : Int) = b.natAbs → a = b := fun a ha b hb e => by
    obtain ⟨i, hi, ei⟩ := List.getElem_of_mem ha
    obtain ⟨j, hj, ej⟩ := List.getElem_of_mem hb
    have hij : (l.map fun s => (s.natAbs : Int))[i]'(by rw [List.length_map]; exact hi) = (l.map fun s => (s.natAbs : Int))[j]'(by rw [List.length_map]; exact hj) := by
      rw [List.getElem_map, List.getElem_map, ei, ej]
      exact e
    have := (List.getElem_inj h).mp hij
    subst this
    rw [← ei, ← ej]
  have := inj k hk (-k) hn (by omega)
  omega
theorem cl_of {says left ks ns : List Int} (T : Thg ks) (pm : ((says.map fun s => (s.natAbs : Int)) ++ left).Perm ks) (pn : ns.Perm says) (so : ns.Pairwise (· ≤ ·)) : IsCl ns ∧ ∀ s ∈ ns, (s.natAbs : Int) ∈ ks := by
  have nd := (List.nodup_append.mp (pm.nodup_iff.mpr T.nd)).1
  obtain ⟨n1, n2⟩ := abs_nd nd
  have mem : ∀ s ∈ ns, (s.natAbs : Int) ∈ ks := fun s hs => pm.mem_iff.mp (List.mem_append_left _ (List.mem_map.mpr ⟨s, pn.mem_iff.mp hs, rfl⟩))
  have nn : ns.Nodup := pn.nodup_iff.mpr n1
  have bd : ∀ s ∈ ns, s ≠ 0 ∧ -8 ≤ s ∧ s ≤ 8 := fun s hs => by
    have := T.one _ (mem s hs)
    omega
  refine ⟨⟨?_, bd, fun k hk hn => n2 k (pn.mem_iff.mp hk) (bd k hk).1 (pn.mem_iff.mp hn), ?_⟩, mem⟩
  · have := List.Pairwise.and so nn
    exact this.imp fun {a b} h => by
      obtain ⟨h1, h2⟩ := h
      omega
  · have l1 := pn.length_eq
    have l2 := pm.length_eq
    rw [List.length_append, List.length_map] at l2
    have := T.len
    omega
theorem ok_clm {f : Addr} {fd : FuncData} {k : Nat} (F : Fun K "_law_sclaim" "_law_sclaim" sClm f fd) (T : Zs mg) (FD : Fun K "_law_sdraw" "_law_sdraw" sDrw fD fdD) (bD : Binds K fdD ["feed", "many"] []) (gD : mg "_law_sdraw" = some (.ref fD)) (GD : FnOk P w K mg base CX0 2 fD fdD ["feed", "many"] spDrw) :
    FnOk P w K mg base CX0 (k + 3) f fd ["feed", "things", "most"] spClm := by
  refine F.ok scClm (fun vs H Q E h => ?_) (fun cdv A outer s H vs Q E hr h => ?_)
  · obtain ⟨f, c, t, m, B, ks, rfl, _⟩ := h
    rfl
  · obtain ⟨f, c, t, m, B, ks, rfl, m0, m8, ht, Tk, hF, hB, q⟩ := h
    have hr2 : Room 2 _ := hr.mono (by omega)
    refine ⟨_, (Evl.pss_cut (ps_set (i := 3) scClm.nd rfl (.inl rfl) (pe_callTy call_list_ofN (by rfl) T.z_list (by decide +kernel) (pa_cons (pv 1) pa_nil)))
      (pss_cons (ps_set (i := 4) scClm.nd rfl (.inl rfl) (pe_lstN pa_nil))
      (Evl.pss_cut (ps_for PassesOwn.never rfl (pi_range1 (by rfl) T.z_range (pa_cons (pe_callB (call_min2 rfl) (by rfl) T.z_min (by decide +kernel) (pa_cons (pe_callB call_len_seq (by rfl) T.z_len (by decide +kernel) (pa_cons (pv 3) pa_nil)) (pa_cons (pe_call GD hr2 (by rfl) gD FD.kp bD .nil pass0 (pa_cons (pv 0) (pa_cons (pe_op op_add (pv 2) pe_int) pa_nil))) pa_nil))) pa_nil)) (pg_name (i := 5) scClm.nd rfl (.inl rfl)) (pss_cons (ps_set (i := 6) scClm.nd rfl (.inl rfl) (pe_bm PySem.F.plainAttrs_list PySem.F.slot_list_pop PySem.F.type_list_pop mt_popAt (pv 3) (pa_cons (pe_call GD hr2 (by rfl) gD FD.kp bD .nil pass0 (pa_cons (pv 0) (pa_cons (pe_callB call_len_seq (by rfl) T.z_len (by decide +kernel) (pa_cons (pv 3) pa_nil)) pa_nil))) pa_nil)))
      (pss_one (ps_expr (pe_bm PySem.F.plainAttrs_list PySem.F.slot_list_append PySem.F.type_list_append mt_append (pv 4) (pa_cons (pe_ix ix_list (pe_lstN (pa_cons (pv 6) (pa_cons (pe_op op_sub pe_int (pv 6)) pa_nil))) (pe_call GD hr2 (by rfl) gD FD.kp bD .nil pass0 (pa_cons (pv 0) (pa_cons pe_int pa_nil))) (fun _ _ => rfl)) pa_nil))))))
      (pss_one (ps_ret (pe_callTy call_tuple_ofN (by rfl) T.z_tuple (by decide +kernel) (pa_cons (pe_callB cr_sortedN (by rfl) T.z_sorted (by decide +kernel) (pa_cons (pv 4) pa_nil)) pa_nil))))))), ?_⟩
    -- left
    refine Evl.q_cut (M := fun σ' H' => ∃ L, σ' = [some (.ref f), some (.ref t), some (.int m), some (.ref L), none, none, none] ∧ H L = none ∧ Same H H' ∧ H' L = some (.lst (ks.map V.int))) ?_ ?_
    · exact ⟨_, rfl, t, _, rfl, .inl (.of ht), fun L H1 nL s1 hL _ => ⟨L, rfl, nL, s1, hL⟩⟩
    rintro σ' H1 ⟨L, rfl, nL, s1, hL⟩
    refine ⟨Nat.zero_le _, fun S H2 nS s2 hS _ => ?_⟩
    have F2 : Feed H2 f c B := hF.same (s1.trans s2)
    have nLf : L ≠ f := hF.nf nL
    have nLc : L ≠ c := hF.nc nL
    have nSL : S ≠ L := Ne.symm (ne_of_none hL nS)
    have nSf : S ≠ f := (hF.same s1).nf nS
    have nSc : S ≠ c := (hF.same s1).nc nS
    have frL : Frs H L := .of nL
    have frS : Frs H S := .of (s1.free nS)
    have hL2 : H2 L = some (.lst (ks.map V.int)) := s2 _ _ hL
    -- the loop
    refine Evl.q_cut (M := fun σ' H' => ∃ (y5 y6 : Option V) (left says : List Int), σ' = [some (.ref f), some (.ref t), some (.int m), some (.ref L), some (.ref S), y5, y6] ∧ Feed H' f c (B + 20) ∧ Ke (· = f) H H' ∧ H' S = some (.lst (says.map V.int)) ∧ (says.length : Int) ≤ m ∧ ((says.map fun s => (s.natAbs : Int)) ++ left).Perm ks) ?_ ?_
    · refine ⟨_, rfl, L, _, rfl, .inl (.of hL2), _, rfl, _, rfl, _, _, rfl, rfl, f, c, _, B, rfl, by omega, by omega, F2, by omega, fun d H3 d0 d1 F3 b3 => ?_⟩
      refine ⟨_, _, rfl, ?_⟩
      generalize hn : (if d < ((ks.map V.int).length : Int) then d else ((ks.map V.int).length : Int)) = n
      have n0 : 0 ≤ n ∧ n ≤ m ∧ n ≤ ks.length := by
        rw [List.length_map] at hn
        split at hn <;> omega
      have tl := Tk.len
      have hL3 : H3 L = some (.lst (ks.map V.int)) := (b3 L nLf).trans hL2
      have hS3 : H3 S = some (.lst (([] : List Int).map V.int)) := (b3 S nSf).trans hS
      have k3 : Ke (· = f) H H3 := (Ke.same (s1.trans s2)).trans (.but F2 b3)
      refine ⟨n, rfl, by omega, by omega, for_range (Pv := fun i σ H' => ∃ (y5 y6 : Option V) (left says : List Int), σ = [some (.ref f), some (.ref t), some (.int m), some (.ref L), some (.ref S), y5, y6] ∧ Feed H' f c (B + 1 + 2 * i) ∧ Ke (· = f) H H' ∧ H' L = some (.lst (left.map V.int)) ∧ H' S = some (.lst (says.map V.int)) ∧
        left.length = ks.length - i ∧ says.length = i ∧ ((says.map fun s => (s.natAbs : Int)) ++ left).Perm ks) ?_ ?_ ?_⟩
      · exact ⟨none, none, ks, [], rfl, F3, k3, hL3, hS3, rfl, rfl, .refl _⟩
      · rintro i σ H' hi ⟨y5, y6, left, says, rfl, F4, k4, hL4, hS4, ll, ls, pm⟩
        have hi : i < n.toNat := hi
        refine ⟨_, rfl, .inl ⟨rfl, _, .of hL4⟩, _, rfl, _, rfl, L, _, rfl, .inl (.of hL4), f, c, _, B + 1 + 2 * i, rfl, ?_, ?_, F4, by omega, fun d H5 d0 d1 F5 b5 => ?_⟩
        · rw [List.length_map]
          omega
        · rw [List.length_map]
          omega
        rw [List.length_map] at d1
        have dl : d.toNat < left.length := by omega
        have hL5 : H5 L = some (.lst (left.map V.int)) := (b5 L nLf).trans hL4
        have hS5 : H5 S = some (.lst (says.map V.int)) := (b5 S nSf).trans hS4
        have k5 : Ke (· = f) H H5 := k4.trans (.but F4 b5)
        refine ⟨L, _, d, d.toNat, .int left[d.toNat], rfl, rfl, hL5, by omega, by omega, by rw [List.length_map]; exact ix_seq d0 d1, by rw [List.getElem?_map, List.getElem?_eq_getElem dl]; rfl, ?_⟩
        have pp := perm_pop (List.getElem?_eq_getElem dl)
        have y1 := Tk.one left[d.toNat] (pm.mem_iff.mp (List.mem_append_right _ (List.getElem_mem dl)))
        generalize left[d.toNat] = y at pp y1
        have F6 : Feed (upd H5 L (.lst ((left.map V.int).eraseIdx d.toNat))) f c (B + 1 + 2 * i + 1) := F5.upd nLf nLc
        have k6 : Ke (· = f) H (upd H5 L (.lst ((left.map V.int).eraseIdx d.toNat))) := k5.write frL hL5
        have hL6 : (upd H5 L (.lst ((left.map V.int).eraseIdx d.toNat))) L = some (.lst ((left.eraseIdx d.toNat).map V.int)) := by rw [upd_same, erase_map]
        have hS6 : (upd H5 L (.lst ((left.map V.int).eraseIdx d.toNat))) S = some (.lst (says.map V.int)) := by rw [upd_ne nSL]; exact hS5
        generalize (upd H5 L (.lst ((left.map V.int).eraseIdx d.toNat))) = H6 at F6 k6 hL6 hS6 ⊢
        -- says.append([thing, 0 - thing][..])
        refine ⟨_, rfl, .inl ⟨rfl, _, .of hS6⟩, _, rfl, _, rfl, _, _, rfl, rfl, by show 2 ≤ sizeLine; decide, fun p H7 np s7 hp _ => ?_⟩
        refine ⟨_, rfl, f, c, 2, B + 1 + 2 * i + 1, rfl, by decide, by decide, F6.same s7, by omega, fun e H8 e0 e1 F8 b8 => ?_⟩
        have npf : p ≠ f := F6.nf np
        have hp8 := (b8 p npf).trans hp
        have hS8 : H8 S = some (.lst (says.map V.int)) := (b8 S nSf).trans (s7 _ _ hS6)
        have hL8 : H8 L = some (.lst ((left.eraseIdx d.toNat).map V.int)) := (b8 L nLf).trans (s7 _ _ hL6)
        have k8 : Ke (· = f) H H8 := (k6.trans (.same s7)).trans (.but (F6.same s7) b8)
        have two : e = 0 ∨ e = 1 := by omega
        have go : ∀ z : Int, (z.natAbs : Int) = y → ((says ++ [z]).map (fun s => (s.natAbs : Int)) ++ left.eraseIdx d.toNat).Perm ks := fun z hz => by
          refine List.Perm.trans ?_ pm
          rw [List.map_append, List.append_assoc, List.map_singleton, hz]
          exact (List.Perm.refl _).append pp
        rcases two with rfl | rfl
        · refine ⟨p, _, 0, .int y, rfl, rfl, .of hp8, rfl, S, _, _, rfl, rfl, hS8, by rw [List.length_map]; exact small1000 (by omega), ?_⟩
          refine ⟨_, _, left.eraseIdx d.toNat, says ++ [y], rfl, (F8.upd nSf nSc).mono (by omega), k8.write frS hS8, by rw [upd_ne (Ne.symm nSL)]; exact hL8, by rw [upd_same, List.map_append]; rfl, by rw [erase_len dl]; omega, by rw [List.length_append, ls]; rfl, go y (by omega)⟩
        · refine ⟨p, _, 1, .int (0 - y), rfl, rfl, .of hp8, rfl, S, _, _, rfl, rfl, hS8, by rw [List.length_map]; exact small1000 (by omega), ?_⟩
          refine ⟨_, _, left.eraseIdx d.toNat, says ++ [0 - y], rfl, (F8.upd nSf nSc).mono (by omega), k8.write frS hS8, by rw [upd_ne (Ne.symm nSL)]; exact hL8, by rw [upd_same, List.map_append]; rfl, by rw [erase_len dl]; omega, by rw [List.length_append, ls]; rfl, go (0 - y) (by omega)⟩
      · rintro σ H' ⟨y5, y6, left, says, rfl, F4, k4, hL4, hS4, ll, ls, pm⟩
        exact ⟨y5, y6, left, says, rfl, F4.mono (by omega), k4, hS4, by omega, pm⟩
    rintro σ' H3 ⟨y5, y6, left, says, rfl, F3, k3, hS3, ls, pm⟩
    refine ⟨_, rfl, S, says, rfl, .of hS3, fun ns pn so p H4 np s4 hp _ => ?_⟩
    refine ⟨p, _, rfl, .of hp, fun p2 H5 np2 s5 hp2 _ => ?_⟩
    obtain ⟨h1, h2⟩ := cl_of Tk pm pn so
    refine q ns p2 H5 (F3.same (s4.trans s5)) (k3.trans (.same (s4.trans s5))) (.ke k3 F3 (.of (s4.free np2))) hp2 h1 h2 ?_
    rw [pn.length_eq]
    exact ls
/-- the claims css are of the things ks -/
def Of (ks : List Int) (cs : List Int) : Prop := IsCl cs ∧ ∀ s ∈ cs, (s.natAbs : Int) ∈ ks
/-- a list of claims as it grows -/
def Ls (H : Hp) (L : Addr) (css : List (List Int)) : Prop := ∃ vs, H L = some (.lst vs) ∧ vs.length = css.length ∧ ∀ (i : Nat) (x : V) (cs : List Int), vs[i]? = some x → css[i]? = some cs → TupI H x cs
theorem ix_append {α β : Type} {R : α → β → Prop} {vs : List α} {ys : List β} {v : α} {y : β} (l : vs.length = ys.length) (h : ∀ (i : Nat) (x : α) (z : β), vs[i]? = some x → ys[i]? = some z → R x z) (r : R v y) :
    ∀ (i : Nat) (x : α) (z : β), (vs ++ [v])[i]? = some x → (ys ++ [y])[i]? = some z → R x z := by
  intro i x z h1 h2
  by_cases hi : i < vs.length
  · rw [List.getElem?_append_left hi] at h1
    rw [List.getElem?_append_left (by omega)] at h2
    exact h i x z h1 h2
  · have e : i = vs.length := by
      have := (List.getElem?_eq_some_iff.mp h1).1
      rw [List.length_append, List.length_singleton] at this
      omega
    subst e
    rw [List.getElem?_append_right (Nat.le_refl _), Nat.sub_self] at h1
    rw [List.getElem?_append_right (by omega), show vs.length - ys.length = 0 by omega] at h2
    cases h1
    cases h2
    exact r
/-- sbook(feed, things, most) -/
def spBok : Sp := fun vs H Q _ => ∃ (f c t : Addr) (m : Int) (B : Nat) (ks : List Int), vs = [.ref f, .ref t, .int m] ∧ 1 ≤ m ∧ m ≤ 16 ∧ H t = some (.lst (ks.map V.int)) ∧ Thg ks ∧ ks ≠ [] ∧ t ≠ f ∧ Feed H f c B ∧ B ≤ 2 ^ 57 ∧
  ∀ (css : List (List Int)) (p : Addr) (H' : Hp), Feed H' f c (B + 500) → Ke (· = f) H H' → Frs H p → Bk H' (.ref p) css → (∀ cs ∈ css, Of ks cs) → 1 ≤ css.length → (css.length : Int) ≤ m → Q (.ref p) H'
theorem ok_bok {f fC : Addr} {fd fdC : FuncData} {k : Nat} (F : Fun K "_law_sbook" "_law_sbook" sBok f fd) (T : Zs mg) (FD : Fun K "_law_sdraw" "_law_sdraw" sDrw fD fdD) (bD : Binds K fdD ["feed", "many"] []) (gD : mg "_law_sdraw" = some (.ref fD)) (GD : FnOk P w K mg base CX0 2 fD fdD ["feed", "many"] spDrw)
    (FC : Fun K "_law_sclaim" "_law_sclaim" sClm fC fdC) (bC : Binds K fdC ["feed", "things", "most"] []) (gC : mg "_law_sclaim" = some (.ref fC)) (GC : FnOk P w K mg base CX0 3 fC fdC ["feed", "things", "most"] spClm) :
    FnOk P w K mg base CX0 (k + 4) f fd ["feed", "things", "most"] spBok := by
  refine F.ok scBok (fun vs H Q E h => ?_) (fun cdv A outer s H vs Q E hr h => ?_)
  · obtain ⟨f, c, t, m, B, ks, rfl, _⟩ := h
    rfl
  · obtain ⟨f, c, t, m, B, ks, rfl, m0, m8, ht, Tk, kn, ntf, hF, hB, q⟩ := h
    have hr2 : Room 2 _ := hr.mono (by omega)
    have hr3 : Room 3 _ := hr.mono (by omega)
    refine ⟨_, (pss_cons (ps_set (i := 3) scBok.nd rfl (.inl rfl) (pe_lstN pa_nil))
      (Evl.pss_cut (ps_for PassesOwn.never rfl (pi_range1 (by rfl) T.z_range (pa_cons (pe_op op_add pe_int (pe_call GD hr2 (by rfl) gD FD.kp bD .nil pass0 (pa_cons (pv 0) (pa_cons (pv 2) pa_nil)))) pa_nil)) (pg_name (i := 4) scBok.nd rfl (.inl rfl)) (Evl.pss_cut (ps_set (i := 5) scBok.nd rfl (.inl rfl) (pe_call GC hr3 (by rfl) gC FC.kp bC .nil pass0 (pa_cons (pv 0) (pa_cons (pv 1) (pa_cons (pe_ix ix_list (pe_lstN (pa_cons pe_int (pa_cons pe_int (pa_cons pe_int (pa_cons pe_int pa_nil))))) (pe_call GD hr2 (by rfl) gD FD.kp bD .nil pass0 (pa_cons (pv 0) (pa_cons pe_int pa_nil))) (fun _ _ => rfl)) pa_nil)))))
      (Evl.pss_cut (ps_if (PW.pt (pw_and (pt_cmpR (op_eqD hr.units) (pv 5) (pe_tupN pa_nil) (nomark _)) (pw_and1 (pt_cmpR op_gt (pe_call GD hr2 (by rfl) gD FD.kp bD .nil pass0 (pa_cons (pv 0) (pa_cons pe_int pa_nil))) pe_int (nomark _))))) (pss_one (ps_set (i := 5) scBok.nd rfl (.inl rfl) (pe_tupN (pa_cons (pe_ix ix_list (pv 1) pe_int (fun _ _ => rfl)) pa_nil)))) pss_nil)
      (pss_one (ps_expr (pe_bm PySem.F.plainAttrs_list PySem.F.slot_list_append PySem.F.type_list_append mt_append (pv 3) (pa_cons (pv 5) pa_nil)))))))
      (pss_one (ps_ret (pe_callTy call_tuple_ofN (by rfl) T.z_tuple (by decide +kernel) (pa_cons (pv 3) pa_nil)))))), ?_⟩
    refine ⟨Nat.zero_le _, fun L H1 nL s1 hL _ => ?_⟩
    have nLf : L ≠ f := hF.nf nL
    have nLc : L ≠ c := hF.nc nL
    have frL : Frs H L := .of nL
    have nLt : L ≠ t := Ne.symm (ne_of_none ht nL)
    obtain ⟨k0, kr, rfl⟩ : ∃ k0 kr, ks = k0 :: kr := by
      cases ks with
      | nil => exact absurd rfl kn
      | cons a r => exact ⟨a, r, rfl⟩
    have hk0 := Tk.one k0 List.mem_cons_self
    have of0 : Of (k0 :: kr) [k0] := by
      refine ⟨⟨.cons (fun _ h => (nomatch h)) .nil, fun k hk => ?_, fun k hk hn => ?_, by show 1 ≤ 8; decide⟩, fun s hs => ?_⟩
      · rw [List.mem_singleton.mp hk]
        omega
      · rw [List.mem_singleton.mp hk] at hn
        have := List.mem_singleton.mp hn
        omega
      · rw [List.mem_singleton.mp hs, show ((k0.natAbs : Nat) : Int) = k0 by omega]
        exact List.mem_cons_self
    refine Evl.q_cut (M := fun σ' H' => ∃ (y4 y5 : Option V) (css : List (List Int)), σ' = [some (.ref f), some (.ref t), some (.int m), some (.ref L), y4, y5] ∧ Feed H' f c (B + 500) ∧ Ke (· = f) H H' ∧ Ls H' L css ∧ (∀ cs ∈ css, Of (k0 :: kr) cs) ∧ 1 ≤ css.length ∧ (css.length : Int) ≤ m) ?_ ?_
    · have F1 : Feed H1 f c B := hF.same s1
      refine ⟨_, rfl, _, rfl, f, c, _, B, rfl, by omega, by omega, F1, by omega, fun d H2 d0 d1 F2 b2 => ?_⟩
      refine ⟨_, _, rfl, rfl, 1 + d, rfl, by omega, by omega, for_range (Pv := fun i σ H' => ∃ (y4 y5 : Option V) (css : List (List Int)), σ = [some (.ref f), some (.ref t), some (.int m), some (.ref L), y4, y5] ∧ Feed H' f c (B + 1 + 30 * i) ∧ Ke (· = f) H H' ∧ Ls H' L css ∧ (∀ cs ∈ css, Of (k0 :: kr) cs) ∧ css.length = i) ?_ ?_ ?_⟩
      · exact ⟨none, none, [], rfl, F2, (Ke.same s1).trans (.but F1 b2), ⟨[], (b2 L nLf).trans hL, rfl, fun i x cs h => by simp at h⟩, fun cs h => (nomatch h), rfl⟩
      · rintro i σ H3 hi ⟨y4, y5, css, rfl, F3, k3, ⟨vs, hL3, lv, hv⟩, oc, lc⟩
        have hi : i < (1 + d).toNat := hi
        have ht3 : H3 t = some (.lst ((k0 :: kr).map V.int)) := k3.lst ht ntf
        refine Evl.q_cut (M := fun σ' H' => ∃ (p : Addr) (cs : List Int), σ' = [some (.ref f), some (.ref t), some (.int m), some (.ref L), some (.int (0 + (i : Int))), some (.ref p)] ∧ Feed H' f c (B + 1 + 30 * i + 21) ∧ Ke (· = f) H3 H' ∧ H' p = some (.tup (cs.map V.int)) ∧ Of (k0 :: kr) cs) ?_ ?_
        · refine ⟨_, rfl, _, rfl, by show 4 ≤ sizeLine; decide, fun p4 H4 np4 s4 hp4 _ => ?_⟩
          have F4 := F3.same s4
          refine ⟨_, rfl, f, c, 4, _, rfl, by decide, by decide, F4, by omega, fun e H5 e0 e1 F5 b5 => ?_⟩
          have k5 : Ke (· = f) H3 H5 := (Ke.same s4).trans (.but F4 b5)
          have np4f : p4 ≠ f := F3.nf np4
          have ht5 : H5 t = some (.lst ((k0 :: kr).map V.int)) := k5.lst ht3 ntf
          have pk : ∃ mm : Int, 0 ≤ mm ∧ mm ≤ 8 ∧ atI [V.int 3, V.int 3, V.int 3, V.int 6] e = some (.int mm) := by
            have four : e = 0 ∨ e = 1 ∨ e = 2 ∨ e = 3 := by omega
            rcases four with rfl | rfl | rfl | rfl
            · exact ⟨3, by decide, by decide, rfl⟩
            · exact ⟨3, by decide, by decide, rfl⟩
            · exact ⟨3, by decide, by decide, rfl⟩
            · exact ⟨6, by decide, by decide, rfl⟩
          obtain ⟨mm, mm0, mm1, ha⟩ := pk
          refine ⟨p4, _, e, .int mm, rfl, rfl, .of ((b5 p4 np4f).trans hp4), ha, f, c, t, mm, _, k0 :: kr, rfl, mm0, mm1, ht5, Tk, F5, by omega, fun cs p H6 F6 k6 _ hp h1 h2 _ => ?_⟩
          exact ⟨p, cs, rfl, F6.mono (by omega), k5.trans k6, hp, h1, h2⟩
        rintro σ' H4 ⟨p, cs, rfl, F4, k4, hp, hc⟩
        -- if claim == () and ..
        refine Evl.q_cut (M := fun σ' H' => ∃ (p : Addr) (cs : List Int), σ' = [some (.ref f), some (.ref t), some (.int m), some (.ref L), some (.int (0 + (i : Int))), some (.ref p)] ∧ Feed H' f c (B + 1 + 30 * i + 22) ∧ Ke (· = f) H3 H' ∧ H' p = some (.tup (cs.map V.int)) ∧ Of (k0 :: kr) cs) ?_ ?_
        · refine ⟨_, rfl, Nat.zero_le _, fun p5 H5 np5 s5 hp5 _ => ?_⟩
          have F5 := F4.same s5
          have k5 : Ke (· = f) H3 H5 := k4.trans (.same s5)
          refine ⟨_, _, .tup (.of (s5 _ _ hp)) (dp_ints cs), .tup (.of hp5) .nil, shaped_tuple (flat_ints _), shaped_tuple rfl, _, rfl, ite2 (fun e => ?_) (fun e => ?_)⟩
          · refine ⟨_, rfl, f, c, 6, _, rfl, by decide, by decide, F5, by omega, fun g H6 g0 g1 F6 b6 => ?_⟩
            have k6 : Ke (· = f) H3 H6 := k5.trans (.but F5 b6)
            refine ⟨_, _, rfl, rfl, _, rfl, ite2 (fun e => ?_) (fun e => ?_)⟩
            · have ht6 : H6 t = some (.lst ((k0 :: kr).map V.int)) := k6.lst ht3 ntf
              refine ⟨_, rfl, t, _, 0, .int k0, rfl, rfl, .of ht6, atI_nat (j := 0) rfl, by show 1 ≤ sizeLine; decide, fun p7 H7 np7 s7 hp7 _ => ?_⟩
              exact ⟨p7, [k0], rfl, (F6.same s7).mono (by omega), k6.trans (.same s7), hp7, of0⟩
            · exact ⟨p, cs, rfl, F6.mono (by omega), k6, (Ke.but F5 b6).tups _ _ (s5 _ _ hp), hc⟩
          · exact ⟨p, cs, rfl, F5.mono (by omega), k5, s5 _ _ hp, hc⟩
        rintro σ' H5 ⟨p, cs, rfl, F5, k5, hp, hc⟩
        -- claims.append(claim)
        have hL5 : H5 L = some (.lst vs) := k5.lst hL3 nLf
        refine ⟨_, rfl, .inl ⟨rfl, _, .of hL5⟩, _, rfl, L, _, _, rfl, rfl, hL5, small1000 (by omega), ?_⟩
        have k6 : Ke (· = f) H (upd H5 L (.lst (vs ++ [.ref p]))) := (k3.trans k5).write frL hL5
        have tp : ∀ {x : V} {ds : List Int}, TupI H5 x ds → TupI (upd H5 L (.lst (vs ++ [.ref p]))) x ds := fun {x ds} ⟨a, e, h⟩ => ⟨a, e, by
          have n : a ≠ L := fun z => by
            rw [z, hL5] at h
            cases h
          rw [upd_ne n]
          exact h⟩
        refine ⟨_, _, css ++ [cs], rfl, (F5.upd nLf nLc).mono (by omega), k6, ⟨vs ++ [.ref p], upd_same, by rw [List.length_append, List.length_append, lv]; rfl, ix_append lv (fun i x ds h1 h2 => tp ((hv i x ds h1 h2).ke k5)) (tp ⟨p, rfl, hp⟩)⟩, fun ds hd => ?_, by rw [List.length_append, lc]; rfl⟩
        rcases List.mem_append.mp hd with z | z
        · exact oc ds z
        · rw [List.mem_singleton.mp z]
          exact hc
      · rintro σ H3 ⟨y4, y5, css, rfl, F3, k3, ls, oc, lc⟩
        have lc' : css.length = (1 + d).toNat := lc
        exact ⟨y4, y5, css, rfl, F3.mono (by omega), k3, ls, oc, by omega, by omega⟩
    rintro σ' H2 ⟨y4, y5, css, rfl, F2, k2, ⟨vs, hL2, lv, hv⟩, oc, l1, l2⟩
    refine ⟨_, rfl, L, vs, rfl, .of hL2, fun p H3 np s3 hp _ => ?_⟩
    have k3 : Ke (· = f) H2 H3 := .same s3
    exact q css p H3 (F2.same s3) (k2.trans k3) (.ke k2 F2 (.of np)) ⟨p, vs, rfl, hp, lv, fun i x cs h1 h2 => (hv i x cs h1 h2).ke k3⟩ oc l1 l2
end
end Cl
namespace Se
open PySem PySem.Spec PyProof.Rows L2 GxR Nw Dr Kp
/-- a def of the text whose code object stands at c -/
structure FunC (K : PySem.W.Frag) (x qual : Str) (st : Stmt) (f c : Addr) (fd : FuncData) : Prop where
  ex : ∃ (oc : Value) (od : Option Addr) (kV doc pm : Value) (an : Option Addr) (ct : Value) (osl : Array (Option Value)), fd = PySem.W.fnOf x qual (defArgs st) (defBody st) (defScope st) .none kV doc pm an (.ref c) ct ∧ K.lookup f = some ⟨oc, od, .func fd, osl⟩ ∧ PySem.W.codeIn K (.ref c) qual = true
  kp : PySem.W.keepIn K (.ref f) = true
section
variable {P : Program} {w : World} {K : PySem.W.Frag} {mg : Str → Option Value} {base : Heap}
theorem FunC.fn {x qual : Str} {st : Stmt} {f c : Addr} {fd : FuncData} (F : FunC K x qual st f c fd) : Fun K x qual st f fd := by
  obtain ⟨oc, od, kV, doc, pm, an, ct, osl, e, l, cd⟩ := F.ex
  exact ⟨⟨oc, od, kV, doc, pm, an, .ref c, ct, osl, e, l, cd⟩, F.kp⟩
theorem FunC.ok {x qual : Str} {st : Stmt} {f c : Addr} {fd : FuncData} {N ps : List Str} {k : Nat} {sp : Sp} (F : FunC K x qual st f c fd) (S : FnScope N ps (defScope st)) (len : ∀ vs H Q E, sp vs H Q E → vs.length = ps.length)
    (body : ∀ (A : Around) (outer : List Env) (s : Shared) (H : Hp) (vs : List V) (Q : VK) (E : XK), Room k (A.deeper (envOfC qual (defScope st) s.heap.objs.size f (.ref c))) → sp vs H Q E →
      ∃ t, PSs (cxOf CX0 P w K mg base N qual (defScope st) f (.ref c) A outer s H E).nox (defBody st) t ∧ t { nx := fun _ H' => Q .non H', rt := Q } (start N vs) H) : FnOk P w K mg base CX0 (k + 1) f fd ps sp := by
  obtain ⟨oc, od, kV, doc, pm, an, ct, osl, rfl, lk, hcd⟩ := F.ex
  refine fn_of lk hcd S len fun A outer s H vs Q E hr hsp => ?_
  obtain ⟨t, h, q⟩ := body A outer s H vs Q E hr hsp
  exact ⟨t, h.nox, q⟩
end
/-! ### settings -/
structure Zt (mg : Str → Option Value) : Prop where
  z_len : mg "len" = none
  z_abs : mg "abs" = none
  z_any : mg "any" = none
  z_all : mg "all" = none
  z_tuple : mg "tuple" = none
  z_range : mg "range" = none
/-- the say k holds -/
def sh (bs : List Bool) (k : Int) : Bool := bs.getD (k.natAbs - 1) false == decide (0 < k)
def Says (cs : List Int) : Prop := ∀ k ∈ cs, k ≠ 0 ∧ -8 ≤ k ∧ k ≤ 8
abbrev sShd : Stmt := topS 2
abbrev sHol : Stmt := topS 3
theorem scShd : FnScope ["say", "setting", "place", "so"] ["say", "setting"] (defScope sShd) := ⟨rfl, rfl, rfl, by decide +kernel, rfl, by decide +kernel, by decide +kernel⟩
abbrev nHol : List Str := ["claim", "setting", "say"]
theorem scHol : FnScope nHol ["claim", "setting"] (defScope sHol) := ⟨rfl, rfl, rfl, by decide +kernel, rfl, by decide +kernel, by decide +kernel⟩
section
variable {P : Program} {w : World} {K : PySem.W.Frag} {mg : Str → Option Value} {base : Heap}
def spShd : Sp := fun vs H Q _ => ∃ (k : Int) (u : V) (bs : List Bool), vs = [.int k, u] ∧ TupB H u bs ∧ bs.length = 8 ∧ k ≠ 0 ∧ -8 ≤ k ∧ k ≤ 8 ∧ Q (.bl (sh bs k)) H
theorem ok_shd {f : Addr} {fd : FuncData} {k : Nat} (F : Fun K "say_holds" "say_holds" sShd f fd) (T : Zt mg) : FnOk P w K mg base CX0 (k + 1) f fd ["say", "setting"] spShd := by
  refine F.ok scShd (fun vs H Q E h => ?_) (fun cdv A outer s H vs Q E hr h => ?_)
  · obtain ⟨k, u, bs, rfl, _⟩ := h
    rfl
  · obtain ⟨k, u, bs, rfl, ⟨a, rfl, ha⟩, l8, k0, k1, k2, q⟩ := h
    refine ⟨_, (pss_cons (ps_set (i := 2) scShd.nd rfl (.inl rfl) (pe_op op_sub (pe_callB call_abs (by rfl) T.z_abs (by decide +kernel) (pa_cons (pv 0) pa_nil)) pe_int))
      (pss_cons (ps_set (i := 3) scShd.nd rfl (.inl rfl) (pe_and (pe_chain op_le op_lt pe_int (pv 2) (pe_callB call_len_seq (by rfl) T.z_len (by decide +kernel) (pa_cons (pv 1) pa_nil))) (pe_one (pe_ix ix_tup (pv 1) (pv 2) (fun _ _ => rfl)))))
      (pss_one (ps_ret (pe_cmpR op_eq (pv 3) (pe_cmpR op_gt (pv 0) pe_int (nomark _)) (nomark _)))))), ?_⟩
    have e : (if k < 0 then -k else k) = (k.natAbs : Int) := by
      split <;> omega
    refine ⟨_, rfl, k, rfl, _, _, rfl, rfl, ?_⟩
    rw [e]
    have lt : k.natAbs - 1 < bs.length := by omega
    refine ⟨_, rfl, 0, _, rfl, rfl, true, congrArg V.bl (decide_eq_true (by omega)), _, rfl, a, _, rfl, .inr (.of ha), _, _, rfl, rfl, true, congrArg V.bl (decide_eq_true (by rw [List.length_map]; omega)), ?_⟩
    refine ⟨_, rfl, _, rfl, a, _, _, .bl bs[k.natAbs - 1], rfl, rfl, .of ha, at_of (j := k.natAbs - 1) (by omega) (by rw [List.getElem?_map, List.getElem?_eq_getElem lt]; rfl), ?_⟩
    refine ⟨_, rfl, _, rfl, _, _, rfl, rfl, rfl, ?_⟩
    have z : decide (V.bl bs[k.natAbs - 1] = V.bl (decide (0 < k))) = sh bs k := by
      unfold sh
      rw [List.getD_eq_getElem?_getD, List.getElem?_eq_getElem lt, Option.getD_some]
      cases bs[k.natAbs - 1] <;> cases decide (0 < k) <;> rfl
    rw [z]
    exact q
def spHol (P : Addr) : Sp := fun vs H Q _ => ∃ (v u : V) (cs : List Int) (bs : List Bool), vs = [v, u] ∧ TupI H v cs ∧ TupB H u bs ∧ bs.length = 8 ∧ Says cs ∧ TabG H P ∧ ∀ H', Ke Nof H H' → Q (.bl (cs.any (sh bs))) H'
theorem any_take {α : Type} {f : α → Bool} {l : List α} {i : Nat} {x : α} (h : l[i]? = some x) (p : (l.take i).any f = false) : (f x = true → l.any f = true) ∧ (f x = false → (l.take (i + 1)).any f = false) := by
  refine ⟨fun z => List.any_eq_true.mpr ⟨x, List.mem_of_getElem? h, z⟩, fun z => ?_⟩
  rw [List.take_add_one, h, List.any_append, p]
  show (f x || false) = false
  rw [z]
  rfl
theorem ok_hol {f c Pt fS : Addr} {fd fdS : FuncData} {k : Nat} (F : FunC K "holds" "holds" sHol f c fd) (T : Zt mg) (TB : TabB base mg c Pt) (FS : Fun K "say_holds" "say_holds" sShd fS fdS) (bS : Binds K fdS ["say", "setting"] []) (gS : mg "say_holds" = some (.ref fS)) (GS : FnOk P w K mg base CX0 1 fS fdS ["say", "setting"] spShd) :
    FnOk P w K mg base CX0 (k + 3) f fd ["claim", "setting"] (spHol Pt) := by
  refine F.ok scHol (fun vs H Q E h => ?_) (fun A outer s H vs Q E hr h => ?_)
  · obtain ⟨v, u, cs, bs, rfl, _⟩ := h
    rfl
  · obtain ⟨v, u, cs, bs, rfl, ⟨a, rfl, ha⟩, hb, l8, sy, tg, q⟩ := h
    have hr1 : Room (1 + 1) _ := hr.mono (by omega)
    refine ⟨_, (pss_one (ps_ret (Gx.pe_any hr (by rfl) T.z_any rfl scHol.nd TB rfl (pi_tup (pv 0)) (own := [("say", 2)]) (g := gName 2) (tt := tYes) (blkOk_by (N := nHol) (sc := defScope sHol) (by decide +kernel)) ⟨rfl, by decide +kernel, rfl⟩ (fun _ _ _ _ _ _ _ => pg_name (i := 2) scHol.nd rfl (.inl rfl)) (fun _ _ _ _ _ _ _ => pts_nil) (fun _ _ _ _ _ _ _ => pe_call GS (Gx.room_gen hr1) (by rfl) gS FS.kp bS .nil pass0 (pa_cons (pv 2) (pa_cons (pv 1) pa_nil)))))), ?_⟩
    refine ⟨_, rfl, a, rfl, ⟨_, .of ha⟩, tg, fun H1 tb => ?_⟩
    have k1 : Ke Nof H H1 := .tabbed tg tb
    refine Gx.aa_tup (xs := cs.map V.int) (Pv := fun i H' => Ke Nof H H' ∧ (cs.take i).any (sh bs) = false) ⟨k1, rfl⟩ (fun i H' _ p => .of (p.1.tups _ _ ha)) ?_ ?_
    · rintro i x H' hx ⟨k2, p⟩
      obtain ⟨z, hz, rfl⟩ : ∃ z, cs[i]? = some z ∧ x = V.int z := by
        rw [List.getElem?_map] at hx
        cases e : cs[i]? with
        | none =>
          rw [e] at hx
          cases hx
        | some z =>
          rw [e] at hx
          exact ⟨z, rfl, (Option.some.inj hx).symm⟩
      obtain ⟨s0, s1, s2⟩ := sy z (List.mem_of_getElem? hz)
      obtain ⟨t1, t2⟩ := any_take hz p
      refine ⟨rfl, _, rfl, _, rfl, z, u, bs, rfl, hb.ke k2, l8, s0, s1, s2, ?_⟩
      cases e : sh bs z with
      | true =>
        refine .inl ⟨rfl, ?_⟩
        have := q H' k2
        rw [t1 e] at this
        exact this
      | false => exact .inr ⟨rfl, k2, t2 e⟩
    · rintro H' ⟨k2, p⟩
      rw [List.length_map, List.take_length] at p
      have := q H' k2
      rw [p] at this
      exact this
/-- all claims of the book hold -/
def ah (bs : List Bool) (css : List (List Int)) : Bool := css.all fun cs => cs.any (sh bs)
theorem all_take {α : Type} {f : α → Bool} {l : List α} {i : Nat} {x : α} (h : l[i]? = some x) (p : (l.take i).all f = true) : (f x = false → l.all f = false) ∧ (f x = true → (l.take (i + 1)).all f = true) := by
  refine ⟨fun z => List.all_eq_false.mpr ⟨x, List.mem_of_getElem? h, by rw [z]; decide⟩, fun z => ?_⟩
  rw [List.take_add_one, h, List.all_append, p]
  show (f x && true) = true
  rw [z]
  rfl
abbrev sAhd : Stmt := topS 4
abbrev nAhd : List Str := ["book", "setting", "claim"]
theorem scAhd : FnScope nAhd ["book", "setting"] (defScope sAhd) := ⟨rfl, rfl, rfl, by decide +kernel, rfl, by decide +kernel, by decide +kernel⟩
def spAhd (Ph Pa : Addr) : Sp := fun vs H Q _ => ∃ (v u : V) (css : List (List Int)) (bs : List Bool), vs = [v, u] ∧ Bk H v css ∧ TupB H u bs ∧ bs.length = 8 ∧ (∀ cs ∈ css, Says cs) ∧ TabG H Ph ∧ TabG H Pa ∧ ∀ H', Ke Nof H H' → Q (.bl (ah bs css)) H'
theorem ok_ahd {f c Pa Ph fH : Addr} {fd fdH : FuncData} {k : Nat} (F : FunC K "all_hold" "all_hold" sAhd f c fd) (T : Zt mg) (TB : TabB base mg c Pa) (kpH : PySem.W.keepIn K (.ref fH) = true) (bH : Binds K fdH ["claim", "setting"] []) (gH : mg "holds" = some (.ref fH)) (GH : FnOk P w K mg base CX0 3 fH fdH ["claim", "setting"] (spHol Ph)) :
    FnOk P w K mg base CX0 (k + 5) f fd ["book", "setting"] (spAhd Ph Pa) := by
  refine F.ok scAhd (fun vs H Q E h => ?_) (fun A outer s H vs Q E hr h => ?_)
  · obtain ⟨v, u, css, bs, rfl, _⟩ := h
    rfl
  · obtain ⟨v, u, css, bs, rfl, ⟨a, vs, rfl, ha, lv, hv⟩, hb, l8, sy, tg, tga, q⟩ := h
    have hr1 : Room (3 + 1) _ := hr.mono (by omega)
    refine ⟨_, (pss_one (ps_ret (Gx.pe_all hr (by rfl) T.z_all rfl scAhd.nd TB rfl (pi_tup (pv 0)) (own := [("claim", 2)]) (g := gName 2) (tt := tYes) (blkOk_by (N := nAhd) (sc := defScope sAhd) (by decide +kernel)) ⟨rfl, by decide +kernel, rfl⟩ (fun _ _ _ _ _ _ _ => pg_name (i := 2) scAhd.nd rfl (.inl rfl)) (fun _ _ _ _ _ _ _ => pts_nil) (fun _ _ _ _ _ _ _ => pe_call GH (Gx.room_gen hr1) (by rfl) gH kpH bH .nil pass0 (pa_cons (pv 2) (pa_cons (pv 1) pa_nil)))))), ?_⟩
    refine ⟨_, rfl, a, rfl, ⟨_, .of ha⟩, tga, fun H1 tb => ?_⟩
    have k1 : Ke Nof H H1 := .tabbed tga tb
    refine Gx.aa_tup (xs := vs) (Pv := fun i H' => Ke Nof H H' ∧ (css.take i).all (fun cs => cs.any (sh bs)) = true) ⟨k1, rfl⟩ (fun i H' _ p => .of (p.1.tups _ _ ha)) ?_ ?_
    · rintro i x H' hx ⟨k2, p⟩
      have li : i < css.length := by
        have := (List.getElem?_eq_some_iff.mp hx).1
        omega
      have hz := List.getElem?_eq_getElem li
      obtain ⟨t1, t2⟩ := all_take hz p
      have ti := hv i x _ hx hz
      have sz := sy _ (List.mem_of_getElem? hz)
      generalize css[i] = cs at t1 t2 ti sz
      refine ⟨rfl, _, rfl, _, rfl, x, u, cs, bs, rfl, ti.ke k2, hb.ke k2, l8, sz, k2.tabs _ tg, fun H3 k3 => ?_⟩
      have k4 := k2.trans k3
      cases e : cs.any (sh bs) with
      | false =>
        refine .inl ⟨rfl, ?_⟩
        have := q H3 k4
        unfold ah at this
        rw [t1 e] at this
        exact this
      | true => exact .inr ⟨rfl, k4, t2 e⟩
    · rintro H' ⟨k2, p⟩
      rw [lv, List.take_length] at p
      have := q H' k2
      unfold ah at this
      rw [p] at this
      exact this
/-! ### all settings by their numbers -/
def bitB (n : Int) (p : Nat) : Bool := decide (V.int (Builtin.bitAnd (n / 2 ^ p) 1) = V.int 1)
def sbn (n : Int) : List Bool := (List.range 8).map (bitB n)
abbrev sSbn : Stmt := topS 5
abbrev nSbn : List Str := ["number", "place"]
theorem scSbn : FnScope nSbn ["number"] (defScope sSbn) := ⟨rfl, rfl, rfl, by decide +kernel, rfl, by decide +kernel, by decide +kernel⟩
def spSbn : Sp := fun vs H Q _ => ∃ n : Int, vs = [.int n] ∧ ∀ p H', Same H H' → H' p = some (.tup ((sbn n).map V.bl)) → Q (.ref p) H'
theorem ok_sbn {f : Addr} {fd : FuncData} {k : Nat} {tk : Tok} (F : Fun K "setting_by_number" "setting_by_number" sSbn f fd) (T : Zt mg) (M8 : mg "MOST_THINGS" = some (.int 8 tk)) : FnOk P w K mg base CX0 (k + 1) f fd ["number"] spSbn := by
  refine F.ok scSbn (fun vs H Q E h => ?_) (fun cdv A outer s H vs Q E hr h => ?_)
  · obtain ⟨n, rfl, _⟩ := h
    rfl
  · obtain ⟨n, rfl, q⟩ := h
    refine ⟨_, (pss_one (ps_ret (pe_callTy call_tuple_ofN (by rfl) T.z_tuple (by decide +kernel) (pa_cons (pe_lc (own := [("place", 1)]) (g := (gName 1)) (tt := tYes) rfl scSbn.nd (pi_range1 (by rfl) T.z_range (pa_cons (pe_glob (v := .int 8) rfl M8 ⟨_, rfl⟩) pa_nil)) (blkOk_by (N := nSbn) (sc := defScope sSbn) (by decide +kernel)) (fun _ _ _ _ _ => (pg_name (i := 1) scSbn.nd rfl (.inl rfl))) (fun _ _ _ _ _ => pts_nil) (fun _ _ _ _ _ => (pe_cmpR op_eq (pe_op op_and (pe_op op_shr (pv 0) (pv 1)) pe_int) pe_int (nomark _)))) pa_nil)))), ?_⟩
    refine ⟨8, rfl, by decide, by decide, fun D nD => ?_⟩
    refine lc_range (Pv := fun i H' => Same H H' ∧ H' D = some (.lst (((List.range i).map (bitB n)).map V.bl))) ⟨same_new nD, upd_same⟩ ?_ ?_
    · rintro i H' hi ⟨s1, hD⟩
      have hi : i < 8 := hi
      refine ⟨rfl, _, rfl, _, rfl, _, _, rfl, rfl, by show (0 : Int) ≤ 0 + (i : Int); omega, _, _, rfl, rfl, rfl, _, hD, by rw [List.length_map, List.length_map, List.length_range]; exact small1000 (by omega), fun b o e => ?_, ?_⟩
      · rw [upd_ne (ne_of_none e nD)]
        exact s1 _ _ e
      · rw [upd_same, List.range_succ, List.map_append, List.map_append]
        show _ = some (HO.lst (_ ++ [V.bl (bitB n i)]))
        unfold bitB
        rw [show (0 + (i : Int)).toNat = i by omega]
    · rintro H' ⟨s1, hD⟩
      refine ⟨D, _, rfl, .of hD, fun p H2 np s2 hp _ => q p H2 (s1.trans s2) hp⟩
theorem sbn_len (n : Int) : (sbn n).length = 8 := by
  unfold sbn
  rw [List.length_map, List.length_range]
theorem sbn_all (bs : List Bool) (h : bs.length = 8) : ∃ n : Nat, n < 256 ∧ sbn n = bs := by
  match bs, h with
  | [a, b, c, d, e, f, g, i], _ =>
    refine ⟨a.toNat + 2 * b.toNat + 4 * c.toNat + 8 * d.toNat + 16 * e.toNat + 32 * f.toNat + 64 * g.toNat + 128 * i.toNat, ?_, ?_⟩
    · cases a <;> cases b <;> cases c <;> cases d <;> cases e <;> cases f <;> cases g <;> cases i <;> decide
    · revert a b c d e f g i
      decide +kernel
abbrev sEve : Stmt := topS 6
theorem scEve : GScope ["number"] [] (defScope sEve) := ⟨rfl, rfl, rfl, by decide +kernel, rfl, by decide +kernel, by decide +kernel⟩
theorem ncEve (y : Str) : (defScope sEve).names.lookup y ≠ some .cell ∧ (defScope sEve).names.lookup y ≠ some .free := by
  have h : ∀ p ∈ (defScope sEve).names, p.2 ≠ .cell ∧ p.2 ≠ .free := by decide +kernel
  exact ⟨fun e => (h _ (PySem.mem_of_lookup e)).1 rfl, fun e => (h _ (PySem.mem_of_lookup e)).2 rfl⟩
/-- what every_setting hands out at the turn i -/
def YEve (i : Nat) (H : Hp) (x : V) (H' : Hp) : Prop := ∃ p, x = .ref p ∧ Same H H' ∧ H' p = some (.tup ((sbn (0 + (i : Nat))).map V.bl))
abbrev sFol : Stmt := topS 7
theorem scFol : FnScope ["book", "claim", "setting"] ["book", "claim"] (defScope sFol) := ⟨rfl, rfl, rfl, by decide +kernel, rfl, by decide +kernel, by decide +kernel⟩
/-- bs shows that the claim does not follow -/
def Ctr (css : List (List Int)) (cs : List Int) (bs : List Bool) : Prop := bs.length = 8 ∧ cs.any (sh bs) = false ∧ ah bs css = true
def spFol (Ph Pa : Addr) : Sp := fun vs H Q _ => ∃ (v u : V) (css : List (List Int)) (cs : List Int), vs = [v, u] ∧ Bk H v css ∧ TupI H u cs ∧ Says cs ∧ (∀ cs ∈ css, Says cs) ∧ TabG H Ph ∧ TabG H Pa ∧
  (∀ p H', Ke Nof H H' → H' p = some (.tup [.str "follows"]) → (∀ bs, ¬ Ctr css cs bs) → Q (.ref p) H') ∧
  ∀ p r H' bs, Ke Nof H H' → H' p = some (.tup [.str "not", .ref r]) → H' r = some (.tup (bs.map V.bl)) → Ctr css cs bs → Q (.ref p) H'
theorem ok_fol {f fE fB fH fA Ph Pa : Addr} {fd fdE fdB fdH fdA : FuncData} {k : Nat} {tk : Tok} (F : Fun K "follows" "follows" sFol f fd) (T : Zt mg) (M8 : mg "MOST_THINGS" = some (.int 8 tk))
    (FB : Fun K "setting_by_number" "setting_by_number" sSbn fB fdB) (bB : Binds K fdB ["number"] []) (gB : mg "setting_by_number" = some (.ref fB)) (GB : FnOk P w K mg base CX0 2 fB fdB ["number"] spSbn)
    (FE : Fun K "every_setting" "every_setting" sEve fE fdE) (bE : Binds K fdE [] []) (gE : mg "every_setting" = some (.ref fE))
    (FH : Fun K "holds" "holds" sHol fH fdH) (bH : Binds K fdH ["claim", "setting"] []) (gH : mg "holds" = some (.ref fH)) (GH : FnOk P w K mg base CX0 3 fH fdH ["claim", "setting"] (spHol Ph))
    (FA : Fun K "all_hold" "all_hold" sAhd fA fdA) (bA : Binds K fdA ["book", "setting"] []) (gA : mg "all_hold" = some (.ref fA)) (GA : FnOk P w K mg base CX0 5 fA fdA ["book", "setting"] (spAhd Ph Pa)) :
    FnOk P w K mg base CX0 (k + 6) f fd ["book", "claim"] (spFol Ph Pa) := by
  refine F.ok scFol (fun vs H Q E h => ?_) (fun cdv A outer s H vs Q E hr h => ?_)
  · obtain ⟨v, u, css, cs, rfl, _⟩ := h
    rfl
  · obtain ⟨v, u, css, cs, rfl, hbk, hcl, sy, sys, tg, tga, q1, q2⟩ := h
    have hr2 : Room 2 _ := hr.mono (by omega)
    have hr3 : Room 3 _ := hr.mono (by omega)
    have hr4 : Room 5 _ := hr.mono (by omega)
    have hr1 : Room 4 _ := hr.mono (by omega)
    have hrB : ∀ {env : Env}, Room 2 (Around.deeper (Around.in1 _) env) := fun {env} => hr1.in1.deeper env
    obtain ⟨ocE, odE, kVE, docE, pmE, anE, cdvE, ctE, oslE, rfl, lkE, cdE⟩ := FE.ex
    have kpE := FE.kp
    refine ⟨_, (pss_cons (Gt.ps_forG (N := ["number"]) (tot := 256) (Yl := YEve) lkE cdE kpE scEve bE (fun _ => rfl) ncEve (by decide)
      (fun L => ⟨fun _ _ => pg_name (i := 0) scEve.nd rfl (.inl rfl), fun _ _ => pe_call GB hrB (by rfl) gB FB.kp bB .nil pass0 (pa_cons (pv 0) pa_nil), fun i _ q _ h => ⟨_, rfl, _, rfl, fun p _ sm hp => h (.ref p) _ ⟨p, rfl, sm, hp⟩⟩, fun _ _ _ _ ⟨_, _, sm, _⟩ => sm, rfl, rfl⟩)
      (fun _ _ _ => pi_range1 (by rfl) T.z_range (pa_cons (pe_op op_shl pe_int (pe_glob (v := .int 8) rfl M8 ⟨_, rfl⟩)) pa_nil)) (fun _ _ _ h => ⟨_, _, rfl, rfl, ⟨by decide, by decide, by decide⟩, 256, rfl, by decide, by decide, h⟩) (fun _ _ => rfl)
      (by rfl) gE hr2 (fun _ _ h => h) (pg_name (i := 2) scFol.nd rfl (.inl rfl)) (pss_one (ps_if (PW.pt (pw_and (pt_not (pt_val (pe_call GH hr3 (by rfl) gH FH.kp bH .nil pass0 (pa_cons (pv 1) (pa_cons (pv 2) pa_nil))))) (pw_and1 (pt_val (pe_call GA hr4 (by rfl) gA FA.kp bA .nil pass0 (pa_cons (pv 0) (pa_cons (pv 2) pa_nil))))))) (pss_one (ps_ret (pe_tupN (pa_cons pe_str (pa_cons (pv 2) pa_nil))))) pss_nil)))
      (pss_one (ps_ret (pe_tupN (pa_cons pe_str pa_nil))))), ?_⟩
    refine ⟨fun i σ H' => ∃ y3, σ = [some v, some u, y3] ∧ Ke Nof H H' ∧ ∀ n : Nat, n < i → ¬ Ctr css cs (sbn n), ⟨none, rfl, .refl _ _, fun n h => absurd h (Nat.not_lt_zero n)⟩, ?_, ?_⟩
    · rintro i σ H1 hi ⟨y3, rfl, k1, no⟩ x H2 ⟨p, rfl, s2, hp⟩
      rw [show (0 : Int) + (i : Int) = (i : Int) by omega] at hp
      have k2 : Ke Nof H H2 := k1.trans (.same s2)
      have l8 := sbn_len (i : Int)
      generalize hbs : sbn (i : Int) = bs at hp l8
      refine ⟨_, rfl, _, rfl, u, .ref p, cs, bs, rfl, hcl.ke k2, ⟨p, rfl, hp⟩, l8, sy, k2.tabs _ tg, fun H3 k3 => ⟨_, rfl, ?_⟩⟩
      have k4 := k2.trans k3
      have more : ¬ Ctr css cs bs → ∀ n : Nat, n < i + 1 → ¬ Ctr css cs (sbn n) := fun nc n hn => by
        by_cases e : n = i
        · rw [e, hbs]
          exact nc
        · exact no n (by omega)
      cases ea : cs.any (sh bs) with
      | true => exact ⟨_, rfl, k4, more fun z => by rw [z.2.1] at ea; cases ea⟩
      | false =>
        refine ⟨_, rfl, _, rfl, v, .ref p, css, bs, rfl, hbk.ke k4, ⟨p, rfl, k3.tups _ _ hp⟩, l8, sys, k4.tabs _ tg, k4.tabs _ tga, fun H5 k5 => ⟨_, rfl, ?_⟩⟩
        have k6 := k4.trans k5
        cases eb : ah bs css with
        | false => exact ⟨_, rfl, k6, more fun z => by rw [z.2.2] at eb; cases eb⟩
        | true =>
          refine ⟨_, rfl, by show 2 ≤ sizeLine; decide, fun r H7 nr s7 hr7 _ => ?_⟩
          exact q2 r p H7 bs (k6.trans (.same s7)) hr7 (s7 _ _ (k5.tups _ _ (k3.tups _ _ hp))) ⟨l8, ea, eb⟩
    · rintro σ H1 ⟨y3, rfl, k1, no⟩
      refine ⟨by show 1 ≤ sizeLine; decide, fun r H2 nr s2 hr2 _ => q1 r H2 (k1.trans (.same s2)) hr2 fun bs hc => ?_⟩
      obtain ⟨n, hn, e⟩ := sbn_all bs hc.1
      exact no n hn (by rw [e]; exact hc)
end
end Se
namespace Sl
open PySem PySem.Spec PyProof.Rows L2 GxR Nw Dr Kp Se
/-- the built-ins that stand as they stood -/
structure Zl (mg : Str → Option Value) : Prop where
  z_len : mg "len" = none
  z_abs : mg "abs" = none
  z_isinstance : mg "isinstance" = none
  z_tuple : mg "tuple" = none
  z_bool : mg "bool" = none
  z_all : mg "all" = none
abbrev sSho : Stmt := topS 15
abbrev nSho : List Str := ["claim", "setting", "say"]
theorem scSho : FnScope nSho ["claim", "setting"] (defScope sSho) := ⟨rfl, rfl, rfl, by decide +kernel, rfl, by decide +kernel, by decide +kernel⟩
abbrev sSah : Stmt := topS 19
abbrev nSah : List Str := ["claims", "setting", "one"]
theorem scSah : FnScope nSah ["claims", "setting"] (defScope sSah) := ⟨rfl, rfl, rfl, by decide +kernel, rfl, by decide +kernel, by decide +kernel⟩
theorem filter_take {α : Type} {f : α → Bool} {l : List α} {i : Nat} {x : α} (h : l[i]? = some x) : (l.take (i + 1)).filter f = (l.take i).filter f ++ (if f x = true then [x] else []) := by
  rw [List.take_add_one, h, List.filter_append]
  congr 1
  show [x].filter f = _
  cases e : f x with
  | true => rw [List.filter_cons_of_pos e]; rfl
  | false => rw [List.filter_cons_of_neg (by rw [e]; decide)]; rfl
theorem sh_eq {bs : List Bool} {k : Int} (lt : k.natAbs - 1 < bs.length) : decide (V.bl bs[k.natAbs - 1] = V.bl (decide (0 < k))) = sh bs k := by
  unfold sh
  rw [List.getD_eq_getElem?_getD, List.getElem?_eq_getElem lt, Option.getD_some]
  cases bs[k.natAbs - 1] <;> cases decide (0 < k) <;> rfl
theorem filter_any {α : Type} (f : α → Bool) (l : List α) : decide ((0 : Int) < ((l.filter f).length : Int)) = l.any f := by
  cases e : l.any f with
  | true =>
    obtain ⟨x, hx, h⟩ := List.any_eq_true.mp e
    have := List.length_pos_of_mem (List.mem_filter.mpr ⟨hx, h⟩)
    exact decide_eq_true (by omega)
  | false =>
    have z : l.filter f = [] := List.filter_eq_nil_iff.mpr fun x hx h => by
      have := List.any_eq_false.mp e x hx
      exact this h
    rw [z]
    rfl
theorem filter_all {α : Type} (f : α → Bool) (l : List α) : decide (V.int ((l.filter (fun x => !f x)).length : Int) = V.int 0) = l.all f := by
  cases e : l.all f with
  | true =>
    have z : l.filter (fun x => !f x) = [] := List.filter_eq_nil_iff.mpr fun x hx h => by
      have := List.all_eq_true.mp e x hx
      rw [this] at h
      cases h
    rw [z]
    rfl
  | false =>
    obtain ⟨x, hx, h⟩ := List.all_eq_false.mp e
    have := List.length_pos_of_mem (List.mem_filter (p := fun x => !f x).mpr ⟨hx, (by cases g : f x with | true => exact absurd g h | false => rfl : (!f x) = true)⟩)
    exact decide_eq_false fun z => by
      have := V.int.inj z
      omega
section
variable {P : Program} {w : World} {K : PySem.W.Frag} {mg : Str → Option Value} {base : Heap}
def spSho : Sp := fun vs H Q _ => ∃ (v u : V) (cs : List Int) (bs : List Bool), vs = [v, u] ∧ TupI H v cs ∧ TupB H u bs ∧ bs.length = 8 ∧ Says cs ∧ cs.length ≤ 20 ∧ ∀ H', Same H H' → Q (.bl (cs.any (sh bs))) H'
theorem ok_sho {f : Addr} {fd : FuncData} {k : Nat} (F : Fun K "_law_sholds" "_law_sholds" sSho f fd) (T : Zl mg) : FnOk P w K mg base CX0 (k + 1) f fd ["claim", "setting"] spSho := by
  refine F.ok scSho (fun vs H Q E h => ?_) (fun cdv A outer s H vs Q E hr h => ?_)
  · obtain ⟨v, u, cs, bs, rfl, _⟩ := h
    rfl
  · obtain ⟨v, u, cs, bs, rfl, ⟨a, rfl, ha⟩, ⟨b, rfl, hb⟩, l8, sy, lc, q⟩ := h
    refine ⟨_, (pss_one (ps_ret (pe_cmpR op_gt (pe_callB call_len_seq (by rfl) T.z_len (by decide +kernel) (pa_cons (pe_lc (own := [("say", 2)]) (g := (gName 2))  rfl scSho.nd (pi_tup (pv 0)) (blkOk_by (N := nSho) (sc := defScope sSho) (by decide +kernel)) (fun _ _ _ _ _ => (pg_name (i := 2) scSho.nd rfl (.inl rfl))) (fun _ _ _ _ _ => (pts_one (pt_cmpR op_eq (pe_ix (ix_tupB (K := K) rfl) (pv 1) (pe_op op_sub (pe_callB call_abs (by rfl) T.z_abs (by decide +kernel) (pa_cons (pv 2) pa_nil)) pe_int) (fun _ _ => rfl)) (pe_cmpR op_gt (pv 2) pe_int (nomark _)) (nomark _)))) (fun _ _ _ _ _ => (pv 2))) pa_nil)) pe_int (nomark _)))), ?_⟩
    refine ⟨_, rfl, a, rfl, ⟨_, .of ha⟩, fun D nD => ?_⟩
    refine lc_tup (xs := cs.map V.int) (Pv := fun i H' => Same H H' ∧ H' D = some (.lst (((cs.take i).filter (sh bs)).map V.int))) ⟨same_new nD, upd_same⟩ (fun i H' _ p => .of (p.1 _ _ ha)) ?_ ?_
    · rintro i x H' hx ⟨s1, hD⟩
      obtain ⟨k, hz, rfl⟩ : ∃ z, cs[i]? = some z ∧ x = V.int z := by
        rw [List.getElem?_map] at hx
        cases e : cs[i]? with
        | none =>
          rw [e] at hx
          cases hx
        | some z =>
          rw [e] at hx
          exact ⟨z, rfl, (Option.some.inj hx).symm⟩
      obtain ⟨k0, k1, k2⟩ := sy k (List.mem_of_getElem? hz)
      have lt : k.natAbs - 1 < bs.length := by omega
      have e : (if k < 0 then -k else k) = (k.natAbs : Int) := by
        split <;> omega
      refine ⟨rfl, _, rfl, _, rfl, k, rfl, _, _, rfl, rfl, b, _, _, .bl bs[k.natAbs - 1], rfl, rfl, .of (s1 _ _ hb), at_of (j := k.natAbs - 1) (by rw [e]; omega) (by rw [List.getElem?_map, List.getElem?_eq_getElem lt]; rfl), _, rfl, _, _, rfl, rfl, rfl, sh bs k, ?_, ?_⟩
      · exact congrArg V.bl (sh_eq lt)
      · have ft := filter_take (f := sh bs) hz
        refine ite2 (fun z => ?_) (fun z => ?_)
        · refine ⟨_, rfl, _, hD, ?_, fun c o y => ?_, ?_⟩
          · rw [List.length_map]
            exact small1000 (Nat.le_trans (List.length_filter_le _ _) (by rw [List.length_take]; omega))
          · rw [upd_ne (ne_of_none y nD)]
            exact s1 _ _ y
          · rw [upd_same, ft, if_pos z, List.map_append]
            rfl
        · refine ⟨s1, ?_⟩
          rw [ft, if_neg z, List.append_nil]
          exact hD
    · rintro H' ⟨s1, hD⟩
      rw [List.length_map, List.take_length] at hD
      refine ⟨D, _, rfl, .inl (.of hD), _, _, rfl, rfl, ?_⟩
      rw [List.length_map]
      have := q H' s1
      rw [← filter_any] at this
      exact this
def spSah : Sp := fun vs H Q _ => ∃ (v u : V) (css : List (List Int)) (bs : List Bool), vs = [v, u] ∧ Bk H v css ∧ TupB H u bs ∧ bs.length = 8 ∧ (∀ cs ∈ css, Says cs ∧ cs.length ≤ 20) ∧ css.length ≤ 100 ∧ ∀ H', Same H H' → Q (.bl (ah bs css)) H'
theorem ok_sah {f fO : Addr} {fd fdO : FuncData} {k : Nat} (F : Fun K "_law_sall_hold" "_law_sall_hold" sSah f fd) (T : Zl mg) (FO : Fun K "_law_sholds" "_law_sholds" sSho fO fdO) (bO : Binds K fdO ["claim", "setting"] []) (gO : mg "_law_sholds" = some (.ref fO)) (GO : FnOk P w K mg base CX0 1 fO fdO ["claim", "setting"] spSho) :
    FnOk P w K mg base CX0 (k + 2) f fd ["claims", "setting"] spSah := by
  refine F.ok scSah (fun vs H Q E h => ?_) (fun cdv A outer s H vs Q E hr h => ?_)
  · obtain ⟨v, u, css, bs, rfl, _⟩ := h
    rfl
  · obtain ⟨v, u, css, bs, rfl, ⟨a, vs, rfl, ha, lv, hv⟩, hb, l8, sy, lc, q⟩ := h
    have hr1 : Room 1 _ := hr.mono (by omega)
    refine ⟨_, (pss_one (ps_ret (pe_cmpR op_eq (pe_callB call_len_seq (by rfl) T.z_len (by decide +kernel) (pa_cons (pe_lc (own := [("one", 2)]) (g := (gName 2))  rfl scSah.nd (pi_tup (pv 0)) (blkOk_by (N := nSah) (sc := defScope sSah) (by decide +kernel)) (fun _ _ _ _ _ => (pg_name (i := 2) scSah.nd rfl (.inl rfl))) (fun _ _ _ _ _ => (pts_one (pt_not (pt_val (pe_call GO hr1 (by rfl) gO FO.kp bO .nil pass0 (pa_cons (pv 2) (pa_cons (pv 1) pa_nil))))))) (fun _ _ _ _ _ => (pv 2))) pa_nil)) pe_int (nomark _)))), ?_⟩
    refine ⟨_, rfl, a, rfl, ⟨_, .of ha⟩, fun D nD => ?_⟩
    refine lc_tup (xs := vs) (Pv := fun i H' => Same H H' ∧ ∃ ys, H' D = some (.lst ys) ∧ ys.length = ((css.take i).filter fun cs => !cs.any (sh bs)).length) ⟨same_new nD, [], upd_same, rfl⟩ (fun i H' _ p => .of (p.1 _ _ ha)) ?_ ?_
    · rintro i x H' hx ⟨s1, ys, hD, ly⟩
      have li : i < css.length := by
        have := (List.getElem?_eq_some_iff.mp hx).1
        omega
      have hz := List.getElem?_eq_getElem li
      have ti := hv i x _ hx hz
      obtain ⟨sz, szl⟩ := sy _ (List.mem_of_getElem? hz)
      have ft := filter_take (f := fun cs : List Int => !cs.any (sh bs)) hz
      generalize css[i] = cs at ti sz szl ft
      refine ⟨rfl, _, rfl, _, rfl, x, u, cs, bs, rfl, ti.ke (Ke.same (F := Nof) s1), hb.ke (Ke.same (F := Nof) s1), l8, sz, szl, fun H2 s2 => ⟨_, rfl, ?_⟩⟩
      have lf : ((css.take i).filter fun cs => !cs.any (sh bs)).length ≤ 100 := Nat.le_trans (List.length_filter_le _ _) (by rw [List.length_take]; omega)
      refine ite2 (fun z => ?_) (fun z => ?_)
      · refine ⟨_, rfl, _, s2 _ _ hD, small1000 (by omega), fun c o y => ?_, _, upd_same, ?_⟩
        · rw [upd_ne (ne_of_none y nD)]
          exact s2 _ _ (s1 _ _ y)
        · rw [ft, if_pos z, List.length_append, List.length_append, ly]
          rfl
      · refine ⟨s1.trans s2, ys, s2 _ _ hD, ?_⟩
        rw [ft, if_neg z, List.append_nil]
        exact ly
    · rintro H' ⟨s1, ys, hD, ly⟩
      rw [lv, List.take_length] at ly
      refine ⟨D, _, rfl, .inl (.of hD), rfl, ?_⟩
      have := q H' s1
      unfold ah at this
      rw [← filter_all, ← ly] at this
      exact this
end
/-! ### all settings of some things -/
def setF (o : List Bool) (k : Nat) : List Bool := o.take (k - 1) ++ [false] ++ o.drop k
def evs (ks : List Int) : List (List Bool) := ks.foldl (fun e k => e ++ e.map (setF · k.toNat)) [List.replicate 8 true]
theorem setF_len {o : List Bool} {k : Nat} (h : o.length = 8) (h1 : 1 ≤ k) (h2 : k ≤ 8) : (setF o k).length = 8 := by
  unfold setF
  rw [List.length_append, List.length_append, List.length_take, List.length_drop, List.length_singleton]
  omega
theorem evs_snoc (ks : List Int) (k : Int) : evs (ks ++ [k]) = evs ks ++ (evs ks).map (setF · k.toNat) := by
  unfold evs
  rw [List.foldl_append]
  rfl
theorem evs_fold : ∀ (ks : List Int) (E : List (List Bool)), (∀ k ∈ ks, 1 ≤ k ∧ k ≤ 8) → (∀ o ∈ E, o.length = 8) → (∀ o ∈ ks.foldl (fun e k => e ++ e.map (setF · k.toNat)) E, o.length = 8) ∧ (ks.foldl (fun e k => e ++ e.map (setF · k.toNat)) E).length = E.length * 2 ^ ks.length
  | [], E, _, h => ⟨h, by simp⟩
  | k :: r, E, hk, h => by
    obtain ⟨k1, k2⟩ := hk k List.mem_cons_self
    obtain ⟨h1, h2⟩ := evs_fold r (E ++ E.map (setF · k.toNat)) (fun x hx => hk x (List.mem_cons_of_mem _ hx)) fun o ho => by
      rcases List.mem_append.mp ho with z | z
      · exact h o z
      · obtain ⟨p, hp, rfl⟩ := List.mem_map.mp z
        exact setF_len (h p hp) (by omega) (by omega)
    refine ⟨h1, h2.trans ?_⟩
    rw [List.length_append, List.length_map, List.length_cons, Nat.pow_succ]
    rw [← Nat.two_mul, Nat.mul_comm 2 E.length, Nat.mul_assoc, Nat.mul_comm 2]
theorem evs_len8 {ks : List Int} (hk : ∀ k ∈ ks, 1 ≤ k ∧ k ≤ 8) : ∀ o ∈ evs ks, o.length = 8 := (evs_fold ks _ hk fun o ho => by rw [List.mem_singleton.mp ho]; rfl).1
theorem evs_length {ks : List Int} (hk : ∀ k ∈ ks, 1 ≤ k ∧ k ≤ 8) : (evs ks).length = 2 ^ ks.length := by
  have := (evs_fold ks [List.replicate 8 true] hk fun o ho => by rw [List.mem_singleton.mp ho]; rfl).2
  rw [List.length_singleton, Nat.one_mul] at this
  exact this
theorem pow8 {n : Nat} (h : n ≤ 8) : 2 ^ n ≤ 256 := Nat.le_trans (Nat.pow_le_pow_right (by decide) h) (by decide)
def maskB (ks : List Int) (bs : List Bool) : List Bool := (List.range 8).map fun j => if (((j + 1 : Nat) : Int) ∈ ks) then bs.getD j false else true
theorem mask_len (ks : List Int) (bs : List Bool) : (maskB ks bs).length = 8 := by
  unfold maskB
  rw [List.length_map, List.length_range]
theorem mask_get (ks : List Int) (bs : List Bool) {j : Nat} (h : j < 8) : (maskB ks bs)[j]? = some (if (((j + 1 : Nat) : Int) ∈ ks) then bs.getD j false else true) := by
  unfold maskB
  rw [List.getElem?_map, List.getElem?_range h]
  rfl
theorem setF_get {o : List Bool} {k j : Nat} (h : o.length = 8) (k1 : 1 ≤ k) (k2 : k ≤ 8) (hj : j < 8) : (setF o k)[j]? = if j + 1 = k then some false else o[j]? := by
  unfold setF
  by_cases e : j + 1 = k
  · rw [if_pos e, List.getElem?_append_left (by rw [List.length_append, List.length_take, List.length_singleton]; omega), List.getElem?_append_right (by rw [List.length_take]; omega)]
    rw [show j - (o.take (k - 1)).length = 0 by rw [List.length_take]; omega]
    rfl
  · rw [if_neg e]
    by_cases l : j < k - 1
    · rw [List.getElem?_append_left (by rw [List.length_append, List.length_take, List.length_singleton]; omega), List.getElem?_append_left (by rw [List.length_take]; omega), List.getElem?_take_of_lt l]
    · rw [List.getElem?_append_right (by rw [List.length_append, List.length_take, List.length_singleton]; omega), List.getElem?_drop]
      congr 1
      rw [List.length_append, List.length_take, List.length_singleton]
      omega
theorem ext8 {a b : List Bool} (ha : a.length = 8) (hb : b.length = 8) (h : ∀ j, j < 8 → a[j]? = b[j]?) : a = b := List.ext_getElem? fun j => by
  by_cases hj : j < 8
  · exact h j hj
  · rw [List.getElem?_eq_none (by omega), List.getElem?_eq_none (by omega)]
theorem mask_step (pre : List Int) (k : Int) (bs : List Bool) (k1 : 1 ≤ k) (k2 : k ≤ 8) : maskB (pre ++ [k]) bs = maskB pre bs ∨ maskB (pre ++ [k]) bs = setF (maskB pre bs) k.toNat := by
  cases e : bs.getD (k.toNat - 1) false with
  | true =>
    refine .inl (ext8 (mask_len _ _) (mask_len _ _) fun j hj => ?_)
    rw [mask_get _ _ hj, mask_get _ _ hj]
    by_cases h1 : (((j + 1 : Nat) : Int) ∈ pre)
    · rw [if_pos h1, if_pos (List.mem_append_left _ h1)]
    · rw [if_neg h1]
      by_cases h2 : ((j + 1 : Nat) : Int) = k
      · rw [if_pos (List.mem_append_right _ (List.mem_singleton.mpr h2)), show j = k.toNat - 1 by omega, e]
      · rw [if_neg fun z => (List.mem_append.mp z).elim h1 fun y => h2 (List.mem_singleton.mp y)]
  | false =>
    refine .inr (ext8 (mask_len _ _) (setF_len (mask_len _ _) (by omega) (by omega)) fun j hj => ?_)
    rw [mask_get _ _ hj, setF_get (mask_len _ _) (by omega) (by omega) hj]
    by_cases h2 : ((j + 1 : Nat) : Int) = k
    · rw [if_pos (List.mem_append_right _ (List.mem_singleton.mpr h2)), if_pos (by omega), show j = k.toNat - 1 by omega, e]
    · rw [if_neg (show ¬ j + 1 = k.toNat by omega), mask_get _ _ hj]
      by_cases h1 : (((j + 1 : Nat) : Int) ∈ pre)
      · rw [if_pos h1, if_pos (List.mem_append_left _ h1)]
      · rw [if_neg h1, if_neg fun z => (List.mem_append.mp z).elim h1 fun y => h2 (List.mem_singleton.mp y)]
theorem mask_fold : ∀ (ks pre : List Int) (E : List (List Bool)), (∀ k ∈ ks, 1 ≤ k ∧ k ≤ 8) → (∀ bs, maskB pre bs ∈ E) → ∀ bs, maskB (pre ++ ks) bs ∈ ks.foldl (fun e k => e ++ e.map (setF · k.toNat)) E
  | [], pre, E, _, h, bs => by
    rw [List.append_nil]
    exact h bs
  | k :: r, pre, E, hk, h, bs => by
    obtain ⟨k1, k2⟩ := hk k List.mem_cons_self
    have := mask_fold r (pre ++ [k]) (E ++ E.map (setF · k.toNat)) (fun x hx => hk x (List.mem_cons_of_mem _ hx)) (fun cs => by
      rcases mask_step pre k cs k1 k2 with z | z
      · rw [z]
        exact List.mem_append_left _ (h cs)
      · rw [z]
        exact List.mem_append_right _ (List.mem_map.mpr ⟨_, h cs, rfl⟩)) bs
    rw [List.append_assoc] at this
    exact this
theorem mask_mem {ks : List Int} (hk : ∀ k ∈ ks, 1 ≤ k ∧ k ≤ 8) (bs : List Bool) : maskB ks bs ∈ evs ks := by
  have := mask_fold ks [] [List.replicate 8 true] hk (fun cs => by
    rw [List.mem_singleton]
    rfl) bs
  exact this
theorem sh_mask {ks : List Int} {bs : List Bool} {s : Int} (h : (s.natAbs : Int) ∈ ks) (h1 : 1 ≤ s.natAbs) (h2 : s.natAbs ≤ 8) : sh (maskB ks bs) s = sh bs s := by
  unfold sh
  have e : (maskB ks bs).getD (s.natAbs - 1) false = bs.getD (s.natAbs - 1) false := by
    rw [List.getD_eq_getElem?_getD, mask_get _ _ (by omega), Option.getD_some, if_pos]
    rw [show s.natAbs - 1 + 1 = s.natAbs by omega]
    exact h
  rw [e]
/-- the things of these claims are among ks -/
def Among (ks : List Int) (cs : List Int) : Prop := Says cs ∧ ∀ s ∈ cs, (s.natAbs : Int) ∈ ks
theorem any_mask {ks : List Int} {bs : List Bool} {cs : List Int} (h : Among ks cs) : cs.any (sh (maskB ks bs)) = cs.any (sh bs) := by
  rw [Bool.eq_iff_iff, List.any_eq_true, List.any_eq_true]
  have key : ∀ s ∈ cs, sh (maskB ks bs) s = sh bs s := fun s hs => by
    have := h.1 s hs
    exact sh_mask (h.2 s hs) (by omega) (by omega)
  constructor
  · rintro ⟨s, hs, z⟩
    exact ⟨s, hs, by rw [← key s hs]; exact z⟩
  · rintro ⟨s, hs, z⟩
    exact ⟨s, hs, by rw [key s hs]; exact z⟩
theorem ctr_mask {ks cs : List Int} {css : List (List Int)} {bs : List Bool} (h : Among ks cs) (hs : ∀ c ∈ css, Among ks c) (x : Ctr css cs bs) : Ctr css cs (maskB ks bs) := by
  obtain ⟨l, x1, x2⟩ := x
  refine ⟨mask_len _ _, by rw [any_mask h]; exact x1, ?_⟩
  unfold ah at x2 ⊢
  rw [List.all_eq_true] at x2 ⊢
  intro c hc
  rw [any_mask (hs c hc)]
  exact x2 c hc
/-- settings in a list -/
def Ss (H : Hp) (ys : List V) (bss : List (List Bool)) : Prop := ys.length = bss.length ∧ ∀ (i : Nat) (x : V) (bs : List Bool), ys[i]? = some x → bss[i]? = some bs → TupB H x bs
theorem TupB.wr {H : Hp} {D : Addr} {x : V} {bs : List Bool} {ys : List V} {o : HO} (h : TupB H x bs) (hD : H D = some (.lst ys)) : TupB (upd H D o) x bs := by
  obtain ⟨a, e, h⟩ := h
  refine ⟨a, e, ?_⟩
  have n : a ≠ D := fun z => by
    rw [z, hD] at h
    cases h
  rw [upd_ne n]
  exact h
theorem Ss.same {H H' : Hp} {ys : List V} {bss : List (List Bool)} (h : Ss H ys bss) (s : Same H H') : Ss H' ys bss := ⟨h.1, fun i x bs h1 h2 => (h.2 i x bs h1 h2).ke (Ke.same (F := Nof) s)⟩
theorem ix_cat {α β : Type} {R : α → β → Prop} {vs us : List α} {ys zs : List β} (l : vs.length = ys.length) (h : ∀ (i : Nat) (x : α) (z : β), vs[i]? = some x → ys[i]? = some z → R x z) (h' : ∀ (i : Nat) (x : α) (z : β), us[i]? = some x → zs[i]? = some z → R x z) :
    ∀ (i : Nat) (x : α) (z : β), (vs ++ us)[i]? = some x → (ys ++ zs)[i]? = some z → R x z := by
  intro i x z h1 h2
  by_cases hi : i < vs.length
  · rw [List.getElem?_append_left hi] at h1
    rw [List.getElem?_append_left (by omega)] at h2
    exact h i x z h1 h2
  · rw [List.getElem?_append_right (by omega)] at h1 h2
    rw [← l] at h2
    exact h' _ x z h1 h2
theorem cutB_to {bs : List Bool} {k : Int} (h0 : 1 ≤ k) (h8 : k ≤ 8) (l : bs.length = 8) : cutV (bs.map V.bl) none (some (k - 1)) = (bs.take (k.toNat - 1)).map V.bl := by
  unfold cutV
  rw [HT.sIx_none, show k - 1 = ((k.toNat - 1 : Nat) : Int) by omega, HT.sIx_nat, List.drop_zero, Nat.sub_zero, List.length_map, Nat.min_eq_left (by omega), List.map_take]
theorem cutB_from {bs : List Bool} {k : Int} (h0 : 1 ≤ k) (h8 : k ≤ 8) (l : bs.length = 8) : cutV (bs.map V.bl) (some k) none = (bs.drop k.toNat).map V.bl := by
  unfold cutV
  rw [HT.sIx_none, show HT.sIx (bs.map V.bl).length 0 (some k) = k.toNat by
    rw [show k = ((k.toNat : Nat) : Int) by omega, HT.sIx_nat, List.length_map]
    omega]
  rw [List.take_of_length_le (by rw [List.length_drop]; exact Nat.le_refl _), List.map_drop]
abbrev sSev : Stmt := topS 16
abbrev nSev : List Str := ["things", "every", "k", "one"]
theorem scSev : FnScope nSev ["things"] (defScope sSev) := ⟨rfl, rfl, rfl, by decide +kernel, rfl, by decide +kernel, by decide +kernel⟩
section
variable {P : Program} {w : World} {K : PySem.W.Frag} {mg : Str → Option Value} {base : Heap}
def spSev : Sp := fun vs H Q _ => ∃ (t : Addr) (ks : List Int), vs = [.ref t] ∧ H t = some (.lst (ks.map V.int)) ∧ (∀ k ∈ ks, 1 ≤ k ∧ k ≤ 8) ∧ ks.length ≤ 8 ∧ ∀ L ys H', Same H H' → H' L = some (.lst ys) → Ss H' ys (evs ks) → Q (.ref L) H'
theorem ok_sev {f : Addr} {fd : FuncData} {k : Nat} (F : Fun K "_law_severy" "_law_severy" sSev f fd) : FnOk P w K mg base CX0 (k + 1) f fd ["things"] spSev := by
  refine F.ok scSev (fun vs H Q E h => ?_) (fun cdv A outer s H vs Q E hr h => ?_)
  · obtain ⟨t, ks, rfl, _⟩ := h
    rfl
  · obtain ⟨t, ks, rfl, ht, hk, lk, q⟩ := h
    refine ⟨_, (pss_cons (ps_set (i := 1) scSev.nd rfl (.inl rfl) (pe_lstN (pa_cons (pe_op op_repTN (pe_tupN (pa_cons pe_bl pa_nil)) pe_int) pa_nil)))
      (pss_cons (ps_for PassesOwn.never rfl (pi_list (pv 0)) (pg_name (i := 2) scSev.nd rfl (.inr rfl)) (pss_one (ps_set (i := 1) scSev.nd rfl (.inl rfl) (pe_op op_catN (pv 1) (pe_lc (own := [("one", 3)]) (g := (gName 3)) (tt := tYes) rfl scSev.nd (pi_list (pv 1)) (blkOk_by (N := nSev) (sc := defScope sSev) (by decide +kernel)) (fun _ _ _ _ _ => (pg_name (i := 3) scSev.nd rfl (.inl rfl))) (fun _ _ _ _ _ => pts_nil) (fun _ _ _ _ _ => (pe_op op_catTN (pe_op op_catTN (pe_slice sl_tupN (pv 3) po_none (po_some (pe_op op_sub (pv 2) pe_int))) (pe_tupN (pa_cons pe_bl pa_nil))) (pe_slice sl_tupN (pv 3) (po_some (pv 2)) po_none))))))))
      (pss_one (ps_ret (pv 1))))), ?_⟩
    refine ⟨by show 1 ≤ sizeLine; decide, fun p1 H1 np1 s1 hp1 _ => ⟨p1, 8, _, rfl, rfl, hp1, by simp, by decide, by decide, by show 1 ≤ 1000; decide, fun p2 H2 s2 hp2 => ?_⟩⟩
    refine ⟨by show 1 ≤ sizeLine; decide, fun L0 H3 nL0 s3 hL0 _ => ?_⟩
    have s03 := (s1.trans s2).trans s3
    refine ⟨_, rfl, t, rfl, ⟨_, .of (s03 _ _ ht)⟩, for_list (K := K) (a := t) (xs := ks.map V.int) (Pv := fun i σ H' => ∃ (L : Addr) (y2 : Option V) (ys : List V), σ = [some (.ref t), some (.ref L), y2, none] ∧ Same H H' ∧ H' L = some (.lst ys) ∧ Ss H' ys (evs (ks.take i))) ?_ (fun i σ H' _ ⟨_, _, _, _, sm, _⟩ => .of (sm _ _ ht)) ?_ ?_⟩
    · refine ⟨L0, none, _, rfl, s03, hL0, rfl, fun i x bs h1 h2 => ?_⟩
      match i, h1, h2 with
      | 0, h1, h2 =>
        cases h1
        cases h2
        exact ⟨p2, rfl, s3 _ _ hp2⟩
    · rintro i x σ H4 hx ⟨L, y2, ys, rfl, s4, hL, ss⟩
      obtain ⟨z, hz, rfl⟩ : ∃ z, ks[i]? = some z ∧ x = V.int z := by
        rw [List.getElem?_map] at hx
        cases e : ks[i]? with
        | none =>
          rw [e] at hx
          cases hx
        | some z =>
          rw [e] at hx
          exact ⟨z, rfl, (Option.some.inj hx).symm⟩
      obtain ⟨z1, z2⟩ := hk z (List.mem_of_getElem? hz)
      have hk' : ∀ k ∈ ks.take i, 1 ≤ k ∧ k ≤ 8 := fun k h => hk k (List.mem_of_mem_take h)
      have l8 := evs_len8 hk'
      have ln : (evs (ks.take i)).length ≤ 256 := by
        rw [evs_length hk']
        exact pow8 (by rw [List.length_take]; omega)
      have sn : evs (ks.take (i + 1)) = evs (ks.take i) ++ (evs (ks.take i)).map (setF · z.toNat) := by
        rw [List.take_add_one, hz]
        exact evs_snoc _ _
      generalize evs (ks.take i) = Es at ss l8 ln sn
      refine ⟨_, rfl, _, rfl, L, rfl, ⟨_, .of hL⟩, fun D nD => ?_⟩
      refine lc_list (xs := ys) (Pv := fun j H' => Same H4 H' ∧ ∃ zs, H' D = some (.lst zs) ∧ Ss H' zs ((Es.take j).map (setF · z.toNat))) ⟨same_new nD, [], upd_same, rfl, fun i x bs h => by simp at h⟩ (fun j H' _ p => .of (p.1 _ _ hL)) ?_ ?_
      · rintro j x H5 hj ⟨s5, zs, hD, lz, hzs⟩
        have lj : j < Es.length := by
          have := (List.getElem?_eq_some_iff.mp hj).1
          have := ss.1
          omega
        have ho := List.getElem?_eq_getElem lj
        obtain ⟨a, rfl, ha⟩ := (ss.2 j x _ hj ho).ke (Ke.same (F := Nof) s5)
        have o8 := l8 _ (List.mem_of_getElem? ho)
        generalize hoo : Es[j] = o at ha o8
        have l1 : ((Es.take j).map (setF · z.toNat)).length = j := by
          rw [List.length_map, List.length_take]
          omega
        refine ⟨rfl, _, rfl, _, rfl, _, _, rfl, rfl, _, rfl, a, _, rfl, ha, fun q1 J1 u1 h1 => ?_⟩
        refine ⟨by show 1 ≤ sizeLine; decide, fun q2 J2 nq2 u2 h2 _ => ⟨q1, q2, _, _, rfl, rfl, u2 _ _ h1, h2, ?_, fun q3 J3 u3 h3 => ?_⟩⟩
        · rw [cutB_to z1 z2 o8, List.length_map, List.length_take]
          show _ + 1 ≤ sizeLine
          exact Nat.le_trans (by omega : _ ≤ 1000) (by decide)
        have u13 := (u1.trans u2).trans u3
        refine ⟨_, rfl, _, rfl, _, rfl, a, _, rfl, u13 _ _ ha, fun q4 J4 u4 h4 => ⟨q3, q4, _, _, rfl, rfl, u4 _ _ h3, h4, ?_, fun q5 J5 u5 h5 => ?_⟩⟩
        · rw [cutB_to z1 z2 o8, cutB_from z1 z2 o8, List.length_append, List.length_map, List.length_map, List.length_take, List.length_drop]
          show _ + 1 + _ ≤ sizeLine
          exact Nat.le_trans (by omega : _ ≤ 1000) (by decide)
        have u15 := (u13.trans u4).trans u5
        have hD5 : J5 D = some (.lst zs) := u15 _ _ hD
        refine ⟨_, hD5, small1000 (by rw [lz, l1]; omega), fun b oo e => ?_, zs ++ [.ref q5], upd_same, ?_⟩
        · rw [upd_ne (ne_of_none e nD)]
          exact u15 _ _ (s5 _ _ e)
        · rw [List.take_add_one, ho, hoo, List.map_append]
          refine ⟨by rw [List.length_append, List.length_append, lz]; rfl, Cl.ix_append lz (fun i x bs h1 h2 => TupB.wr ((hzs i x bs h1 h2).ke (Ke.same (F := Nof) u15)) hD5) (TupB.wr ⟨q5, rfl, ?_⟩ hD5)⟩
          rw [h5, cutB_to z1 z2 o8, cutB_from z1 z2 o8]
          unfold setF
          rw [List.map_append, List.map_append]
          rfl
      · rintro H5 ⟨s5, zs, hD, ssz⟩
        rw [ss.1, List.take_length] at ssz
        refine ⟨L, D, _, _, rfl, rfl, s5 _ _ hL, hD, ?_, fun M H6 nM s6 hM _ => ?_⟩
        · rw [ss.1, ssz.1, List.length_map]
          exact Nat.le_trans (by omega : _ ≤ 1000) (by decide)
        · refine ⟨M, _, _, rfl, s4.trans (s5.trans s6), hM, ?_⟩
          rw [sn]
          have ss6 := ss.same (s5.trans s6)
          have sz6 := ssz.same s6
          exact ⟨by rw [List.length_append, List.length_append, ss6.1, sz6.1], ix_cat ss6.1 ss6.2 sz6.2⟩
    · rintro σ H4 ⟨L, y2, ys, rfl, s4, hL, ss⟩
      rw [List.length_map, List.take_length] at ss
      exact ⟨_, rfl, q L ys H4 s4 hL ss⟩
abbrev sSag : Stmt := topS 17
theorem scSag : FnScope ["claims", "claim", "things", "setting"] ["claims", "claim", "things"] (defScope sSag) := ⟨rfl, rfl, rfl, by decide +kernel, rfl, by decide +kernel, by decide +kernel⟩
def spSag : Sp := fun vs H Q _ => ∃ (v u : V) (t : Addr) (css : List (List Int)) (cs ks : List Int), vs = [v, u, .ref t] ∧ Bk H v css ∧ TupI H u cs ∧ Says cs ∧ cs.length ≤ 20 ∧ (∀ cs ∈ css, Says cs ∧ cs.length ≤ 20) ∧ css.length ≤ 100 ∧ H t = some (.lst (ks.map V.int)) ∧ (∀ k ∈ ks, 1 ≤ k ∧ k ≤ 8) ∧ ks.length ≤ 8 ∧
  (∀ H', Same H H' → (∀ bs ∈ evs ks, ¬ Ctr css cs bs) → Q .non H') ∧ ∀ r H' bs, Same H H' → Ctr css cs bs → Q (.ref r) H'
theorem ok_sag {f fO fA fV : Addr} {fd fdO fdA fdV : FuncData} {k : Nat} (F : Fun K "_law_sagainst" "_law_sagainst" sSag f fd) (FO : Fun K "_law_sholds" "_law_sholds" sSho fO fdO) (bO : Binds K fdO ["claim", "setting"] []) (gO : mg "_law_sholds" = some (.ref fO)) (GO : FnOk P w K mg base CX0 1 fO fdO ["claim", "setting"] spSho)
    (FA : Fun K "_law_sall_hold" "_law_sall_hold" sSah fA fdA) (bA : Binds K fdA ["claims", "setting"] []) (gA : mg "_law_sall_hold" = some (.ref fA)) (GA : FnOk P w K mg base CX0 2 fA fdA ["claims", "setting"] spSah)
    (FV : Fun K "_law_severy" "_law_severy" sSev fV fdV) (bV : Binds K fdV ["things"] []) (gV : mg "_law_severy" = some (.ref fV)) (GV : FnOk P w K mg base CX0 1 fV fdV ["things"] spSev) :
    FnOk P w K mg base CX0 (k + 3) f fd ["claims", "claim", "things"] spSag := by
  refine F.ok scSag (fun vs H Q E h => ?_) (fun cdv A outer s H vs Q E hr h => ?_)
  · obtain ⟨v, u, t, css, cs, ks, rfl, _⟩ := h
    rfl
  · obtain ⟨v, u, t, css, cs, ks, rfl, hbk, hcl, sy, lc, sys, lcs, ht, hk, lk, q1, q2⟩ := h
    have hr1 : Room 1 _ := hr.mono (by omega)
    have hr2 : Room 2 _ := hr.mono (by omega)
    refine ⟨_, (pss_cons (ps_for PassesOwn.never rfl (pi_list (pe_call GV hr1 (by rfl) gV FV.kp bV .nil pass0 (pa_cons (pv 2) pa_nil))) (pg_name (i := 3) scSag.nd rfl (.inl rfl)) (pss_one (ps_if (pt_not (pt_val (pe_call GO hr1 (by rfl) gO FO.kp bO .nil pass0 (pa_cons (pv 1) (pa_cons (pv 3) pa_nil))))) (pss_one (ps_if (pt_val (pe_call GA hr2 (by rfl) gA FA.kp bA .nil pass0 (pa_cons (pv 0) (pa_cons (pv 3) pa_nil)))) (pss_one (ps_ret (pv 3))) pss_nil)) pss_nil)))
      (pss_one (ps_ret pe_non))), ?_⟩
    refine ⟨_, rfl, t, ks, rfl, ht, hk, lk, fun L ys H1 s1 hL ss => ⟨L, rfl, ⟨_, .of hL⟩, for_list (K := K) (a := L) (xs := ys) (Pv := fun i σ H' => ∃ y3, σ = [some v, some u, some (.ref t), y3] ∧ Same H1 H' ∧ ∀ bs ∈ (evs ks).take i, ¬ Ctr css cs bs) ?_ (fun i σ H' _ p => ?_) ?_ ?_⟩⟩
    · exact ⟨none, rfl, Same.refl _, fun bs h => by simp at h⟩
    · obtain ⟨_, _, sm, _⟩ := p
      exact .of (sm _ _ hL)
    · rintro i x σ H2 hx ⟨y3, rfl, s2, no⟩
      have li : i < (evs ks).length := by
        have := (List.getElem?_eq_some_iff.mp hx).1
        have := ss.1
        omega
      have hz := List.getElem?_eq_getElem li
      have tb := (ss.2 i x _ hx hz).ke (Ke.same (F := Nof) s2)
      have l8 := evs_len8 hk _ (List.mem_of_getElem? hz)
      have tk : ∀ bs, bs ∈ (evs ks).take (i + 1) → bs ∈ (evs ks).take i ∨ bs = (evs ks)[i] := fun bs h => by
        rw [List.take_add_one, hz] at h
        rcases List.mem_append.mp h with z | z
        · exact .inl z
        · exact .inr (List.mem_singleton.mp z)
      generalize (evs ks)[i] = bs at tb l8 tk
      have k2 : Ke Nof H H2 := (Ke.same s1).trans (.same s2)
      have more : ¬ Ctr css cs bs → ∀ o ∈ (evs ks).take (i + 1), ¬ Ctr css cs o := fun nc o ho => by
        rcases tk o ho with z | z
        · exact no o z
        · rw [z]
          exact nc
      refine ⟨_, rfl, _, rfl, u, x, cs, bs, rfl, hcl.ke k2, tb, l8, sy, lc, fun H3 s3 => ⟨_, rfl, ?_⟩⟩
      cases ea : cs.any (sh bs) with
      | true => exact ⟨_, rfl, s2.trans s3, more fun z => by rw [z.2.1] at ea; cases ea⟩
      | false =>
        have k3 : Ke Nof H H3 := k2.trans (.same s3)
        refine ⟨_, rfl, _, rfl, v, x, css, bs, rfl, hbk.ke k3, tb.ke (Ke.same (F := Nof) s3), l8, sys, lcs, fun H4 s4 => ⟨_, rfl, ?_⟩⟩
        cases eb : ah bs css with
        | false => exact ⟨_, rfl, (s2.trans s3).trans s4, more fun z => by rw [z.2.2] at eb; cases eb⟩
        | true =>
          obtain ⟨r, rfl, _⟩ := tb
          exact ⟨_, rfl, q2 r H4 bs (((s1.trans s2).trans s3).trans s4) ⟨l8, ea, eb⟩⟩
    · rintro σ H2 ⟨y3, rfl, s2, no⟩
      rw [ss.1, List.take_length] at no
      exact q1 H2 (s1.trans s2) no
abbrev sSis : Stmt := topS 18
abbrev nSis : List Str := ["thing", "truth"]
theorem scSis : FnScope nSis ["thing"] (defScope sSis) := ⟨rfl, rfl, rfl, by decide +kernel, rfl, by decide +kernel, by decide +kernel⟩
def spSis : Sp := fun vs H Q _ => ∃ (u : V) (bs : List Bool), vs = [u] ∧ TupB H u bs ∧ bs.length = 8 ∧ ∀ H', Same H H' → Q (.bl true) H'
theorem ok_sis {f : Addr} {fd : FuncData} {k : Nat} (F : Fun K "_law_sis_setting" "_law_sis_setting" sSis f fd) (T : Zl mg) : FnOk P w K mg base CX0 (k + 1) f fd ["thing"] spSis := by
  refine F.ok scSis (fun vs H Q E h => ?_) (fun cdv A outer s H vs Q E hr h => ?_)
  · obtain ⟨u, bs, rfl, _⟩ := h
    rfl
  · obtain ⟨u, bs, rfl, ⟨a, rfl, ha⟩, l8, q⟩ := h
    refine ⟨_, (pss_cons (ps_if (PW.pt (pw_or (pt_not (pt_val (pe_callB call_isi (by rfl) T.z_isinstance (by decide +kernel) (pa_cons (pv 0) (pa_cons (pe_bltn (v := .ty "tuple") (u := .type "tuple") (by rfl) T.z_tuple (by decide +kernel) rfl) pa_nil))))) (pw_or1 (pt_cmpR op_ne (pe_callB call_len_seq (by rfl) T.z_len (by decide +kernel) (pa_cons (pv 0) pa_nil)) pe_int (nomark _))))) pss_never pss_nil)
      (pss_one (ps_ret (pe_callB (cr_all rfl) (by rfl) T.z_all (by decide +kernel) (pa_cons (pe_lc (own := [("truth", 1)]) (g := (gName 1)) (tt := tYes) rfl scSis.nd (pi_tup (pv 0)) (blkOk_by (N := nSis) (sc := defScope sSis) (by decide +kernel)) (fun _ _ _ _ _ => (pg_name (i := 1) scSis.nd rfl (.inl rfl))) (fun _ _ _ _ _ => pts_nil) (fun _ _ _ _ _ => (pe_callB (call_isiB (K := K) rfl) (by rfl) T.z_isinstance (by decide +kernel) (pa_cons (pv 1) (pa_cons (pe_bltn (v := .ty "bool") (u := .type "bool") (by rfl) T.z_bool (by decide +kernel) rfl) pa_nil))))) pa_nil))))), ?_⟩
    refine ⟨_, rfl, .ref a, .ty "tuple", .type "tuple", .type "tuple", true, rfl, .ty _, .base (.tup ha), kit_ty (by decide +kernel), _, rfl, ?_⟩
    refine ⟨_, rfl, a, _, rfl, .inr (.of ha), rfl, false, ?_, ?_⟩
    · rw [List.length_map, l8]
      rfl
    refine ⟨_, rfl, a, rfl, ⟨_, .of ha⟩, fun D nD => ?_⟩
    refine lc_tup (xs := bs.map V.bl) (Pv := fun i H' => Same H H' ∧ H' D = some (.lst ((List.replicate i true).map V.bl))) ⟨same_new nD, upd_same⟩ (fun i H' _ p => .of (p.1 _ _ ha)) ?_ ?_
    · rintro i x H' hx ⟨s1, hD⟩
      have li : i < 8 := by
        have := (List.getElem?_eq_some_iff.mp hx).1
        rw [List.length_map] at this
        omega
      obtain ⟨z, rfl⟩ : ∃ z, x = V.bl z := by
        rw [List.getElem?_map] at hx
        cases e : bs[i]? with
        | none =>
          rw [e] at hx
          cases hx
        | some z =>
          rw [e] at hx
          exact ⟨z, (Option.some.inj hx).symm⟩
      refine ⟨rfl, _, rfl, .bl z, .ty "bool", .type "bool", .type "bool", true, rfl, .ty _, .base (.bl z), kit_ty (by decide +kernel), _, hD, by rw [List.length_map, List.length_replicate]; exact small1000 (by omega), fun b o e => ?_, ?_⟩
      · rw [upd_ne (ne_of_none e nD)]
        exact s1 _ _ e
      · rw [upd_same, List.replicate_succ', List.map_append]
        rfl
    · rintro H' ⟨s1, hD⟩
      refine ⟨D, _, rfl, .of hD, ?_⟩
      rw [List.length_map, l8]
      exact q H' s1
abbrev sRgt : Stmt := topS 20
theorem scRgt : FnScope ["book", "claim", "every", "told"] ["book", "claim", "every"] (defScope sRgt) := ⟨rfl, rfl, rfl, by decide +kernel, rfl, by decide +kernel, by decide +kernel⟩
def spRgt (Ph Pa : Addr) : Sp := fun vs H Q _ => ∃ (v u : V) (t : Addr) (css : List (List Int)) (cs ks : List Int), vs = [v, u, .ref t] ∧ Bk H v css ∧ TupI H u cs ∧ Among ks cs ∧ cs.length ≤ 20 ∧ (∀ cs ∈ css, Among ks cs ∧ cs.length ≤ 20) ∧ css.length ≤ 100 ∧ H t = some (.lst (ks.map V.int)) ∧ (∀ k ∈ ks, 1 ≤ k ∧ k ≤ 8) ∧ ks.length ≤ 8 ∧ TabG H Ph ∧ TabG H Pa ∧
  ∀ H', Ke Nof H H' → Q (.bl true) H'
theorem ok_rgt {f fO fA fF fG fI Ph Pa : Addr} {fd fdO fdA fdF fdG fdI : FuncData} {k : Nat} (F : Fun K "_law_s_right" "_law_s_right" sRgt f fd) (T : Zl mg) (FO : Fun K "_law_sholds" "_law_sholds" sSho fO fdO) (bO : Binds K fdO ["claim", "setting"] []) (gO : mg "_law_sholds" = some (.ref fO)) (GO : FnOk P w K mg base CX0 1 fO fdO ["claim", "setting"] spSho)
    (FA : Fun K "_law_sall_hold" "_law_sall_hold" sSah fA fdA) (bA : Binds K fdA ["claims", "setting"] []) (gA : mg "_law_sall_hold" = some (.ref fA)) (GA : FnOk P w K mg base CX0 2 fA fdA ["claims", "setting"] spSah)
    (FF : Fun K "follows" "follows" sFol fF fdF) (bF : Binds K fdF ["book", "claim"] []) (gF : mg "follows" = some (.ref fF)) (GF : FnOk P w K mg base CX0 6 fF fdF ["book", "claim"] (spFol Ph Pa))
    (FG : Fun K "_law_sagainst" "_law_sagainst" sSag fG fdG) (bG : Binds K fdG ["claims", "claim", "things"] []) (gG : mg "_law_sagainst" = some (.ref fG)) (GG : FnOk P w K mg base CX0 3 fG fdG ["claims", "claim", "things"] spSag)
    (FI : Fun K "_law_sis_setting" "_law_sis_setting" sSis fI fdI) (bI : Binds K fdI ["thing"] []) (gI : mg "_law_sis_setting" = some (.ref fI)) (GI : FnOk P w K mg base CX0 1 fI fdI ["thing"] spSis) :
    FnOk P w K mg base CX0 (k + 7) f fd ["book", "claim", "every"] (spRgt Ph Pa) := by
  refine F.ok scRgt (fun vs H Q E h => ?_) (fun cdv A outer s H vs Q E hr h => ?_)
  · obtain ⟨v, u, t, css, cs, ks, rfl, _⟩ := h
    rfl
  · obtain ⟨v, u, t, css, cs, ks, rfl, hbk, hcl, am, lc, ams, lcs, ht, hk, lk, tg, tga, q⟩ := h
    have hr1 : Room 1 _ := hr.mono (by omega)
    have hr2 : Room 2 _ := hr.mono (by omega)
    have hr3 : Room 3 _ := hr.mono (by omega)
    have hr6 : Room 6 _ := hr.mono (by omega)
    have sys : ∀ cs ∈ css, Says cs := fun c hc => (ams c hc).1.1
    refine ⟨_, (pss_cons (ps_set (i := 3) scRgt.nd rfl (.inl rfl) (pe_call GF hr6 (by rfl) gF FF.kp bF .nil pass0 (pa_cons (pv 0) (pa_cons (pv 1) pa_nil))))
      (pss_cons (ps_if (pt_cmpR op_isN (pe_call GG hr3 (by rfl) gG FG.kp bG .nil pass0 (pa_cons (pv 0) (pa_cons (pv 1) (pa_cons (pv 2) pa_nil)))) pe_non (nomark _)) (pss_one (ps_ret (pe_cmpR (op_eqD hr.units) (pv 3) (pe_tupN (pa_cons pe_str pa_nil)) (nomark _)))) pss_nil)
      (pss_cons (ps_if (PW.pt (pw_or (pt_not (pt_val (pe_callB call_isi (by rfl) T.z_isinstance (by decide +kernel) (pa_cons (pv 3) (pa_cons (pe_bltn (v := .ty "tuple") (u := .type "tuple") (by rfl) T.z_tuple (by decide +kernel) rfl) pa_nil))))) (pw_or (pt_cmpR op_ne (pe_callB call_len_seq (by rfl) T.z_len (by decide +kernel) (pa_cons (pv 3) pa_nil)) pe_int (nomark _)) (pw_or1 (pt_cmpR op_ne (pe_ix ix_tup (pv 3) pe_int (fun _ _ => rfl)) pe_str (nomark _)))))) pss_never pss_nil)
      (pss_cons (ps_if (PW.pt (pw_or (pt_not (pt_val (pe_call GI hr1 (by rfl) gI FI.kp bI .nil pass0 (pa_cons (pe_ix ix_tup (pv 3) pe_int (fun _ _ => rfl)) pa_nil)))) (pw_or1 (pt_val (pe_call GO hr1 (by rfl) gO FO.kp bO .nil pass0 (pa_cons (pv 1) (pa_cons (pe_ix ix_tup (pv 3) pe_int (fun _ _ => rfl)) pa_nil))))))) pss_never pss_nil)
      (pss_one (ps_ret (pe_call GA hr2 (by rfl) gA FA.kp bA .nil pass0 (pa_cons (pv 0) (pa_cons (pe_ix ix_tup (pv 3) pe_int (fun _ _ => rfl)) pa_nil))))))))), ?_⟩
    refine ⟨_, rfl, _, rfl, v, u, css, cs, rfl, hbk, hcl, am.1, sys, tg, tga, fun p H1 k1 hp no => ?_, fun p r H1 bs k1 hp hr1' ct => ?_⟩
    · -- it follows
      refine ⟨_, rfl, _, rfl, _, rfl, v, u, t, css, cs, ks, rfl, hbk.ke k1, hcl.ke k1, am.1, lc, fun c hc => ⟨(ams c hc).1.1, (ams c hc).2⟩, lcs, k1.lst ht (fun z => z), hk, lk, fun H2 s2 _ => ?_, fun r H2 bs s2 ct => absurd ct (no bs)⟩
      refine ⟨rfl, true, rfl, ?_⟩
      refine ⟨_, rfl, by show 1 ≤ sizeLine; decide, fun p2 H3 np2 s3 hp2 _ => ?_⟩
      refine ⟨_, _, .tup (.of (s3 _ _ (s2 _ _ hp))) (.cons (.str _) .nil), .tup (.of hp2) (.cons (.str _) .nil), by decide +kernel, by decide +kernel, ?_⟩
      rw [show PyData.eqv (.tuple [.str "follows"]) (.tuple [.str "follows"]) = true from eqv_self (by decide +kernel)]
      exact q H3 (k1.trans (.same (s2.trans s3)))
    · -- it does not
      refine ⟨_, rfl, _, rfl, _, rfl, v, u, t, css, cs, ks, rfl, hbk.ke k1, hcl.ke k1, am.1, lc, fun c hc => ⟨(ams c hc).1.1, (ams c hc).2⟩, lcs, k1.lst ht (fun z => z), hk, lk, fun H2 s2 no => absurd (ctr_mask am (fun c hc => (ams c hc).1) ct) (no _ (mask_mem hk bs)), fun r2 H2 bs2 s2 _ => ?_⟩
      refine ⟨rfl, false, rfl, ?_⟩
      have hp2 := s2 _ _ hp
      have hr2' : TupB H2 (.ref r) bs := ⟨r, rfl, s2 _ _ hr1'⟩
      refine ⟨_, rfl, .ref p, .ty "tuple", .type "tuple", .type "tuple", true, rfl, .ty _, .base (.tup hp2), kit_ty (by decide +kernel), _, rfl, ?_⟩
      refine ⟨_, rfl, p, _, rfl, .inr (.of hp2), rfl, false, rfl, ?_⟩
      refine ⟨_, rfl, p, _, 0, _, rfl, rfl, .of hp2, rfl, rfl, false, by decide +kernel, ?_⟩
      refine ⟨_, rfl, p, _, 1, _, rfl, rfl, .of hp2, rfl, .ref r, bs, rfl, hr2', ct.1, fun H3 s3 => ⟨_, rfl, ?_⟩⟩
      have k3 : Ke Nof H H3 := k1.trans (.same (s2.trans s3))
      refine ⟨_, rfl, _, rfl, p, _, 1, _, rfl, rfl, .of (s3 _ _ hp2), rfl, u, .ref r, cs, bs, rfl, hcl.ke k3, hr2'.ke (Ke.same (F := Nof) s3), ct.1, am.1, lc, fun H4 s4 => ⟨_, rfl, ?_⟩⟩
      rw [ct.2.1]
      have k4 := k3.trans (.same s4)
      refine ⟨_, rfl, _, rfl, p, _, 1, _, rfl, rfl, .of (s4 _ _ (s3 _ _ hp2)), rfl, v, .ref r, css, bs, rfl, hbk.ke k4, hr2'.ke (Ke.same (F := Nof) (s3.trans s4)), ct.1, fun c hc => ⟨(ams c hc).1.1, (ams c hc).2⟩, lcs, fun H5 s5 => ?_⟩
      rw [ct.2.2]
      exact q H5 (k4.trans (.same s5))
end
end Sl
namespace St
open PySem PySem.Spec PyProof.Rows L2 Nw
/-! ### set(xs) of a list of whole numbers, and sorted of it -/
/-- a set as it begins -/
abbrev bare (w : World) : Obj := { cls := .type "set", dict := none, data := .set #[] 0 (.fresh 0 0 (!w.params.followText "set-order")) }
section
variable {P : Program} {w : World} {A : Around} {E : Value → Shared → Prop} {s : Shared}
set_option maxRecDepth 100000 in
set_option maxHeartbeats 3200000 in
theorem set_of_list {l : Addr} {xs : Array Value} (ks : List Int) {Q : Value → Shared → Prop} (hA : A.handled = none) (hx : s.heap.IsList l xs) (hk : IntsAre xs.toList ks) (few : ks.length + 1 < scanBound)
    (want : ∀ (h' : Heap) (tk c : Nat), SetR w h' s.heap.objs.size (fun j => decide (j ∈ ks)) c → c ≤ ks.length → (∀ b o, s.heap.get? b = some o → h'.get? b = some o) → Q (.ref s.heap.objs.size) { s with heap := h', toks := tk }) :
    wpAny (model P w) A (call (.type "set") [.ref l]) Q E s := by
  have sz : xs.size = ks.length := by rw [← Array.length_toList]; exact IntsAre.length hk
  obtain ⟨c, tl, hmro⟩ := F.called_set.mro
  have m1 := F.called_set.made
  have m2 := F.called_set.sub
  have m3 := F.called_set.notType
  have m4 := F.called_set.canCreate
  have m5 := F.typeCall_set_1 (.ref l)
  refine wpAny_call (codeAny_of_tree (wpAny_pure ⟨Code.quiet_builtin _ (by decide +kernel), codeAny_builtin F.entry_type_call ?_⟩))
  rw [Around.under_plain (weight_type_call_type "set" [.ref l] []) rfl]
  repeat (any_goals (first | assumption | wp_step))
  refine codeAny_mono (code_set_led1 (.ref l) (E := E) (Q₁ := fun o s1 => o = .ref s.heap.objs.size ∧ s1 = { s with heap := s.heap.push (bare w) }) ⟨rfl, rfl⟩) fun r s1 hr => ?_
  cases r with
  | error e => exact hr
  | ok fl =>
    cases fl with
    | next => exact hr.elim
    | brk => exact hr.elim
    | cont => exact hr.elim
    | ret o =>
      obtain ⟨rfl, rfl⟩ := hr
      have g0 : (s.heap.push (bare w)).get? s.heap.objs.size = some (bare w) := Heap.get?_push_size _ rfl
      have t0 : Shared.TypeIs { s with heap := s.heap.push (bare w) } (.ref s.heap.objs.size) "set" := ⟨_, g0, rfl⟩
      have m6 := F.called_set.init.lookup
      have m7 := F.called_set.init.bind (.ref s.heap.objs.size)
      repeat (any_goals (first | assumption | wp_step))
      refine codeAny_mono (codeAny_call_builtin (R := wants (fun r s2 => r = .none ∧ ∃ h' tk c, s2 = { s with heap := h', toks := tk } ∧ SetR w h' s.heap.objs.size (fun j => decide (j ∈ ks)) c ∧ c ≤ ks.length ∧ ∀ b o, s.heap.get? b = some o → h'.get? b = some o) E) F.called_set.init.plain F.entry_set_init (check_set_init_1 t0 ?_)) fun r2 s2 hr2 => ?_
      · obtain ⟨ol, g1, hc, nl, hd⟩ := hx
        have lt : l < s.heap.objs.size := Heap.lt_size g1
        obtain ⟨oc, od, oda, osl⟩ := ol
        dsimp only at hc hd
        subst hc hd
        have g2 : (s.heap.push (bare w)).get? l = some { cls := .type "list", dict := od, data := .seq xs nl, slots := osl } := Heap.get?_push_of_some _ g1
        have i1 : (s.heap.push (bare w)).IsList l xs := ⟨_, g2, rfl, nl, rfl⟩
        have m8 := F.sub_list_set
        have m9 := F.sub_list_frozenset
        have m10 : (Value.type "list" == Value.type "dict") = false := by decide
        have szp : (s.heap.push (bare w)).objs.size = s.heap.objs.size + 1 := Heap.size_push ..
        unfold Builtin.«set.__init__» noKeywords Builtin.Frozenset.updateFrom
        generalize hPI : pyIter = PI
        wp_walk
        subst hPI
        refine wpAny_pyIter_list i1 (wpAny_bind (wpAny_runValue ?_))
        have ne1 : l ≠ (s.heap.push (bare w)).objs.size := by rw [szp]; exact Nat.ne_of_lt (Nat.lt_succ_of_lt lt)
        have ne2 : s.heap.objs.size ∉ [(s.heap.push (bare w)).objs.size, l] := by
          rw [szp]
          simp only [List.mem_cons, List.not_mem_nil, or_false, not_or]
          exact ⟨Nat.ne_of_lt (Nat.lt_succ_self _), Nat.ne_of_gt lt⟩
        have at_ : ∀ (i : Nat) (v : Value), xs[i]? = some v → ∃ k t, ks[i]? = some k ∧ v = .int k t := fun i v hv => by
          have hi : i < ks.length := by rw [← sz]; exact (Array.getElem?_eq_some_iff.mp hv).1
          obtain ⟨t, e⟩ := IntsAre.int_at hk i v (by rw [Array.getElem?_toList]; exact hv)
          rw [List.getD_eq_getElem?_getD, List.getElem?_eq_getElem hi, Option.getD_some] at e
          exact ⟨ks[i], t, List.getElem?_eq_getElem hi, e⟩
        have hA3 : A.in1.in1.in1.handled = none := by simp [hA]
        refine set_update_ints ((Walks.list hA3 _ l ne1 xs).toS) s.heap.objs.size ne2 ks sz few at_ (xs.size - 0) 0 _ (by omega) (Nat.zero_le _) ⟨⟨_, Heap.get?_push_size _ rfl, rfl, rfl⟩, i1.push _⟩ ⟨0, Nat.le_refl 0, setR_new_at (Heap.get?_push_of_some _ g0)⟩ ?_
        intro s' c' hm hc' hS'
        obtain ⟨h', g', d', tk', os'⟩ := s'
        obtain rfl : g' = s.gens := hm.gens
        obtain rfl : d' = s.drawn := hm.drawn
        obtain rfl : os' = s.os := hm.os
        show wpAny _ _ _ _ _ _
        refine wpAny_pure (wpAny_pure ⟨rfl, h', tk', c', rfl, hS', by omega, fun b o e => ?_⟩)
        have lb : b < s.heap.objs.size := Heap.lt_size e
        refine hm.heap b o ?_ (Heap.get?_push_of_some _ (Heap.get?_push_of_some _ e))
        rw [szp]
        simp only [List.mem_cons, List.not_mem_nil, or_false, not_or]
        exact ⟨Nat.ne_of_lt lb, Nat.ne_of_lt (Nat.lt_succ_of_lt lb)⟩
      · cases r2 with
        | error e => exact hr2
        | ok f2 =>
          cases f2 with
          | next => exact hr2.elim
          | brk => exact hr2.elim
          | cont => exact hr2.elim
          | ret r =>
            obtain ⟨rfl, h', tk, c', rfl, hS', hc', hk'⟩ := hr2
            repeat (any_goals (first | assumption | wp_step))
            exact want _ _ _ hS' hc' hk'
end
end St
namespace St
open PySem PySem.Spec PyProof.Rows L2 Nw
theorem cr_setL {X : Cx} (hc : X.calm = true) : CallR X (.type "set") (fun xs H Q => ∃ (a : Addr) (ns : List Int), xs = [.ref a] ∧ SqL X.K H a (ns.map V.int) ∧ ns.length ≤ 60 ∧ ∀ p H2 n, H p = none → Same H H2 → H2 p = some (SetO X.w p (fun j => decide (j ∈ ns)) n) → n ≤ ns.length → Q (.ref p) H2) := by
  intro pins s σ H xs us Q I r h
  obtain ⟨a, ns, rfl, hs, hl, q⟩ := h
  obtain ⟨u, rfl, ru⟩ := Vals.one r
  cases ru
  obtain ⟨its, ri, pl, _⟩ := I.list hs
  have hn : H s.heap.objs.size = none := I.hok.fresh (Nat.le_refl _)
  refine set_of_list ns (I.ok.hd hc) (PlainL.isList pl) (by rw [List.toList_toArray]; exact Vals.ints ri) (by unfold scanBound; omega) fun h' tk c R lc k => ?_
  exact ⟨.ref s.heap.objs.size, upd H s.heap.objs.size (SetO X.w s.heap.objs.size (fun j => decide (j ∈ ns)) c), I.laid (t' := tk) k (Nat.le_refl _) (setO_new R), rfl, q _ _ c hn (same_new hn) upd_same lc⟩
theorem cr_sortedS {X : Cx} (hc : X.calm = true) : CallR X (.builtin "sorted") (fun vs H Q => ∃ (a : Addr) (S : Int → Bool) (n : Nat), vs = [V.ref a] ∧ H a = some (SetO X.w a S n) ∧ n < 64 ∧ ∀ ns : List Int, ns.Pairwise (· < ·) → (∀ k : Int, k ∈ ns ↔ S k = true) → ns.length = n → New H (.lst (ns.map V.int)) Q) :=
  call_weak (cr_sortedSet hc) fun _ _ _ ⟨a, S, n, h1, h2, h3, h4⟩ => ⟨a, S, n, h1, h2, h3, fun ns p x1 x2 x3 np => (h4 ns x1 x2 x3).to p np⟩
end St
namespace St
open PySem PySem.Spec PyProof.Rows L2 Nw
section
variable {X : Cx}
/-- sorted(t), t a tuple of whole numbers: the items are gathered in a list, then a list of these is sorted in its place -/
theorem cr_sortedT : CallR X (.builtin "sorted") (fun vs H Q => ∃ (a : Addr) (ns : List Int), vs = [V.ref a] ∧ SqT X.K H a (ns.map V.int) ∧ ∀ ns' : List Int, ns'.Perm ns → ns'.Pairwise (· ≤ ·) → New H (.lst (ns'.map V.int)) Q) := by
  intro pins s σ H vs us Q I r h
  obtain ⟨a, ns, rfl, hs, q⟩ := h
  obtain ⟨its, rv, ⟨o, ho, hcl, n, hd⟩, hz⟩ := I.tuple hs
  obtain ⟨u, rfl, ru⟩ := Vals.one r
  cases ru
  have hin := Vals.ints rv
  have lz : its.length ≤ sizeLine := by rw [← Vals.length rv]; exact hz
  refine Calls.call_function_entry PyProof.Rows.kind_sorted PyProof.Rows.plain_sorted PyProof.Rows.entry_sorted (PyProof.Rows.args_sorted1 _) ?_
  unfold Builtin.«sorted»
  refine wpAny_bind (m := checkCount "sorted" 1 1 _) (wpAny_pure (wpAny_bind (wpAny_collect_seq a (.inr rfl) ho hcl hd (fun h1 k1 => ?_) (by rw [List.size_toArray]; exact lz))))
  refine wpAny_bind (wpAny_newList ?_ (by rw [List.toList_toArray]; exact lz))
  rw [List.toList_toArray]
  have at1 : (h1.push (seqObj "list" its.toArray 0)).get? h1.objs.size = some (seqObj "list" its.toArray 0) := Heap.get?_push_size _ rfl
  have up1 : ∀ b o, s.heap.get? b = some o → b ≠ h1.objs.size ∧ (h1.push (seqObj "list" its.toArray 0)).get? b = some o := fun b o e => ⟨Nat.ne_of_lt (Heap.lt_size (k1 b o e)), Heap.get?_push_of_some _ (k1 b o e)⟩
  refine wpAny_bind (wpAny_holding (wpAny_call_entry PyProof.Rows.slot_list_sort ⟨_, at1, rfl⟩ PyProof.Rows.entry_list_sort (SrtO.list_sort_ord SrtO.swo_int at1 lz (fun h2 => SrtO.ints_sortable hin h2) fun out g1 g2 => ⟨_, rfl, ?_⟩) (PyProof.Rows.args_list_sort _)))
  obtain ⟨i1, i2, i3⟩ := SrtO.ints_out hin g1 g2
  obtain ⟨ep, hat⟩ := PyProof.Rows.sortedHeap_at (out := out.toArray) at1
  have gone : s.heap.get? h1.objs.size = none := by
    cases e : s.heap.get? h1.objs.size with
    | none => rfl
    | some o => exact absurd (Heap.lt_size (k1 _ o e)) (Nat.lt_irrefl _)
  have hn : H h1.objs.size = none := I.hok.gone gone
  have old : ∀ b o, s.heap.get? b = some o → (PyProof.Rows.sortedHeap (h1.push (seqObj "list" its.toArray 0)) h1.objs.size its out.toArray).get? b = some o := fun b o e => by
    rw [PyProof.Rows.sortedHeap_old (up1 b o e).1 (Heap.lt_size (up1 b o e).2)]
    exact (up1 b o e).2
  have len : ((out.map SrtO.iv).map V.int).length ≤ sizeLine := by
    rw [List.length_map, i2.length_eq]
    rw [List.length_map] at hz
    exact hz
  refine wpAny_pure ⟨_, rfl, .ref h1.objs.size, upd H h1.objs.size (.lst ((out.map SrtO.iv).map V.int)), I.laidN (t' := s.toks) old gone hn ⟨len, out, ep, vals_of_ints i1, hat⟩, rfl, (q _ i2 i3).to _ hn⟩
end
end St
namespace K3
open PySem PySem.Spec PyProof.Rows L2 GxR Nw Dr Kp Cl Se Sl
abbrev sLaw : Stmt := topS 21
abbrev nLaw : List Str := ["script", "feed", "turn", "things", "book", "some", "one", "left", "claim", "every", "k", "say"]
theorem scL : FnScope nLaw ["script"] (defScope sLaw) := ⟨rfl, rfl, rfl, by decide +kernel, rfl, by decide +kernel, by decide +kernel⟩
structure Zk (mg : Str → Option Value) : Prop where
  z_len : mg "len" = none
  z_range : mg "range" = none
  z_tuple : mg "tuple" = none
  z_sorted : mg "sorted" = none
  z_set : mg "set" = none
  z_abs : mg "abs" = none
/-- feed and tables -/
structure Ctx (f c Ph Pa : Addr) (B : Nat) (H : Hp) : Prop where
  fe : Feed H f c B
  th : TabG H Ph
  ta : TabG H Pa
variable {f c Ph Pa : Addr} {B B' : Nat} {H H' : Hp}
theorem Ctx.ke (x : Ctx f c Ph Pa B H) (k : Ke (· = f) H H') (F : Feed H' f c B') : Ctx f c Ph Pa B' H' := ⟨F, k.tabs _ x.th, k.tabs _ x.ta⟩
theorem Ctx.same (x : Ctx f c Ph Pa B H) (s : Same H H') : Ctx f c Ph Pa B H' := x.ke (.same s) (x.fe.same s)
theorem Ctx.ke0 (x : Ctx f c Ph Pa B H) (k : Ke Nof H H') : Ctx f c Ph Pa B H' := x.ke k.all (k.feed x.fe)
/-- a good claim to ask about -/
def Good (cs : List Int) : Prop := Says cs ∧ cs.length ≤ 20
/-- claims in a list -/
def Cs (H : Hp) (vs : List V) (cls : List (List Int)) : Prop := vs.length = cls.length ∧ ∀ (i : Nat) (x : V) (cs : List Int), vs[i]? = some x → cls[i]? = some cs → TupI H x cs
theorem Cs.nil (H : Hp) : Cs H [] [] := ⟨rfl, fun i x cs h => by simp at h⟩
theorem Cs.cons {H : Hp} {v : V} {vs : List V} {cs : List Int} {cls : List (List Int)} (h : TupI H v cs) (r : Cs H vs cls) : Cs H (v :: vs) (cs :: cls) := by
  refine ⟨by rw [List.length_cons, List.length_cons, r.1], fun i x ds h1 h2 => ?_⟩
  cases i with
  | zero =>
    cases h1
    cases h2
    exact h
  | succ i => exact r.2 i x ds h1 h2
theorem Cs.ke {F : Addr → Prop} {H H' : Hp} {vs : List V} {cls : List (List Int)} (h : Cs H vs cls) (k : Ke F H H') : Cs H' vs cls := ⟨h.1, fun i x cs h1 h2 => (h.2 i x cs h1 h2).ke k⟩
theorem Cs.app {H : Hp} {vs us : List V} {cls dls : List (List Int)} (a : Cs H vs cls) (b : Cs H us dls) : Cs H (vs ++ us) (cls ++ dls) := ⟨by rw [List.length_append, List.length_append, a.1, b.1], ix_cat a.1 a.2 b.2⟩
theorem good_cl {cs : List Int} (h : IsCl cs) : Good cs := ⟨h.says, by have := h.len; omega⟩
theorem Good.tail {x : Int} {cs : List Int} (h : Good (x :: cs)) : Good cs := ⟨fun k hk => h.1 k (List.mem_cons_of_mem _ hk), by have := h.2; rw [List.length_cons] at this; omega⟩
theorem cut_tail (cs : List Int) : cutV (cs.map V.int) (some 1) none = (cs.drop 1).map V.int := by
  unfold cutV
  rw [HT.sIx_none, show HT.sIx (cs.map V.int).length 0 (some 1) = min 1 (cs.map V.int).length from HT.sIx_nat _ _ 1]
  cases cs with
  | nil => rfl
  | cons x r =>
    rw [show min 1 ((x :: r).map V.int).length = 1 by rw [List.length_map, List.length_cons]; omega]
    exact List.take_of_length_le (by rw [List.length_drop]; exact Nat.le_refl _)
theorem cut_head (cs : List Int) : cutV (cs.map V.int) none (some 1) = (cs.take 1).map V.int := by
  unfold cutV
  rw [HT.sIx_none, show HT.sIx (cs.map V.int).length (cs.map V.int).length (some 1) = min 1 (cs.map V.int).length from HT.sIx_nat _ _ 1, List.drop_zero, Nat.sub_zero, List.map_take]
  cases cs with
  | nil => rfl
  | cons x r => rw [show min 1 ((x :: r).map V.int).length = 1 by rw [List.length_map, List.length_cons]; omega]
theorem flat_int (cs : List Int) : (cs.map V.int).all flatV = true := by
  rw [List.all_map, List.all_eq_true]
  exact fun _ _ => rfl
theorem up_len : ∀ (ns : List Int) (lo : Int), ns.Pairwise (· < ·) → (∀ k ∈ ns, lo ≤ k ∧ k ≤ 8) → (ns.length : Int) ≤ max 0 (9 - lo)
  | [], lo, _, _ => by show (0 : Int) ≤ _; omega
  | a :: r, lo, h, hk => by
    obtain ⟨h1, h2⟩ := List.pairwise_cons.mp h
    obtain ⟨a1, a2⟩ := hk a List.mem_cons_self
    have := up_len r (a + 1) h2 fun k hr => ⟨by have := h1 k hr; omega, (hk k (List.mem_cons_of_mem _ hr)).2⟩
    rw [List.length_cons]
    omega
theorem _root_.Kp.Frs.nf {H : Hp} {p f c : Addr} {B : Nat} (h : Frs H p) (F : Feed H f c B) : p ≠ f := by
  obtain ⟨_, _, _, h1, _⟩ := F
  exact Ne.symm (h f _ h1 fun ps z => by cases z)
theorem thg8 : Thg [1, 2, 3, 4, 5, 6, 7, 8] := ⟨by decide, fun k hk => by
  simp only [List.mem_cons, List.not_mem_nil, or_false] at hk
  omega, by decide⟩
theorem int_at {ks : List Int} {i : Nat} {x : V} (hx : (ks.map V.int)[i]? = some x) : ∃ z, ks[i]? = some z ∧ x = V.int z := by
  rw [List.getElem?_map] at hx
  cases e : ks[i]? with
  | none =>
    rw [e] at hx
    cases hx
  | some z =>
    rw [e] at hx
    exact ⟨z, rfl, (Option.some.inj hx).symm⟩
section
variable {P : Program} {w : World} {K : PySem.W.Frag} {mg : Str → Option Value} {base : Heap}
def spLaw (Ph Pa : Addr) (K : PySem.W.Frag) : Sp := fun vs H Q _ => ∃ (a : Addr) (ns : List Int), vs = [.ref a] ∧ SqL K H a (ns.map V.int) ∧ TabG H Ph ∧ TabG H Pa ∧ ∀ H', Q (.bl true) H'
theorem ok_law {f fD fO fT fC fB fR Ph Pa : Addr} {fd fdD fdO fdT fdC fdB fdR : FuncData} (FL : Fun K "law" "law" sLaw f fd) (T : Zk mg)
    (FD : Fun K "_law_sdraw" "_law_sdraw" sDrw fD fdD) (bD : Binds K fdD ["feed", "many"] []) (gD : mg "_law_sdraw" = some (.ref fD)) (GD : FnOk P w K mg base CX0 2 fD fdD ["feed", "many"] spDrw)
    (FO : Fun K "_law_sopen" "_law_sopen" sOpn fO fdO) (bO : Binds K fdO ["script"] []) (gO : mg "_law_sopen" = some (.ref fO)) (GO : FnOk P w K mg base CX0 1 fO fdO ["script"] (spOpn K))
    (FT : Fun K "_law_sthings" "_law_sthings" sThg fT fdT) (bT : Binds K fdT ["feed", "least", "most"] []) (gT : mg "_law_sthings" = some (.ref fT)) (GT : FnOk P w K mg base CX0 3 fT fdT ["feed", "least", "most"] spThg)
    (FC : Fun K "_law_sclaim" "_law_sclaim" sClm fC fdC) (bC : Binds K fdC ["feed", "things", "most"] []) (gC : mg "_law_sclaim" = some (.ref fC)) (GC : FnOk P w K mg base CX0 3 fC fdC ["feed", "things", "most"] spClm)
    (FB : Fun K "_law_sbook" "_law_sbook" sBok fB fdB) (bB : Binds K fdB ["feed", "things", "most"] []) (gB : mg "_law_sbook" = some (.ref fB)) (GB : FnOk P w K mg base CX0 4 fB fdB ["feed", "things", "most"] spBok)
    (FR : Fun K "_law_s_right" "_law_s_right" sRgt fR fdR) (bR : Binds K fdR ["book", "claim", "every"] []) (gR : mg "_law_s_right" = some (.ref fR)) (GR : FnOk P w K mg base CX0 7 fR fdR ["book", "claim", "every"] (spRgt Ph Pa)) :
    FnOk P w K mg base CX0 8 f fd ["script"] (spLaw Ph Pa K) := by
  refine FL.ok scL (fun vs H Q E h => ?_) (fun cdv A outer s H vs Q E hr h => ?_)
  · obtain ⟨a, ns, rfl, _⟩ := h
    rfl
  · obtain ⟨a, ns, rfl, hS, tg, tga, q⟩ := h
    have hr1 : Room 1 _ := hr.mono (by decide)
    have hr2 : Room 2 _ := hr.mono (by decide)
    have hr3 : Room 3 _ := hr.mono (by decide)
    have hr4 : Room 4 _ := hr.mono (by decide)
    have hr7 : Room 7 _ := hr.mono (by decide)
    refine ⟨_, (pss_cons (ps_set (i := 1) scL.nd rfl (.inr rfl) (pe_call GO hr1 (by rfl) gO FO.kp bO .nil pass0 (pa_cons (pv 0) pa_nil)))
      (Evl.pss_cut (ps_for PassesOwn.never rfl (pi_range1 (by rfl) T.z_range (pa_cons pe_int pa_nil)) (pg_name (i := 2) scL.nd rfl (.inl rfl)) (Evl.pss_cut (ps_set (i := 3) scL.nd rfl (.inr rfl) (pe_call GT hr3 (by rfl) gT FT.kp bT .nil pass0 (pa_cons (pv 1) (pa_cons pe_int (pa_cons pe_int pa_nil)))))
      (Evl.pss_cut (ps_set (i := 4) scL.nd rfl (.inl rfl) (pe_call GB hr4 (by rfl) gB FB.kp bB .nil pass0 (pa_cons (pv 1) (pa_cons (pv 3) (pa_cons pe_int pa_nil)))))
      (Evl.pss_cut (ps_set (i := 5) scL.nd rfl (.inl rfl) (pe_lstN (pa_cons (pe_tupN pa_nil) (pa_cons (pe_call GC hr3 (by rfl) gC FC.kp bC .nil pass0 (pa_cons (pv 1) (pa_cons (pv 3) (pa_cons pe_int pa_nil)))) (pa_cons (pe_call GC hr3 (by rfl) gC FC.kp bC .nil pass0 (pa_cons (pv 1) (pa_cons (pe_lstN (pa_cons pe_int (pa_cons pe_int (pa_cons pe_int (pa_cons pe_int (pa_cons pe_int (pa_cons pe_int (pa_cons pe_int (pa_cons pe_int pa_nil))))))))) (pa_cons pe_int pa_nil)))) pa_nil)))))
      (Evl.pss_cut (ps_set (i := 6) scL.nd rfl (.inr rfl) (pe_ix ix_tup (pv 4) (pe_call GD hr2 (by rfl) gD FD.kp bD .nil pass0 (pa_cons (pv 1) (pa_cons (pe_callB call_len_seq (by rfl) T.z_len (by decide +kernel) (pa_cons (pv 4) pa_nil)) pa_nil))) (fun _ _ => rfl)))
      (Evl.pss_cut (ps_setLc (i := 7) (own := [("k", 10)]) (g := (gName 10))  rfl scL.nd rfl rfl (sw_true rfl rfl rfl (by decide +kernel)) (pi_list (pv 3)) (blkOk_by (N := nLaw) (sc := defScope sLaw) (by decide +kernel)) (fun _ _ _ _ _ => (pg_name (i := 10) scL.nd rfl (.inl rfl))) (fun _ _ _ _ _ => (pts_one (PW.pt (pw_and (pt_cmpR (op_notIn_seqB (K := K) rfl) (pv 10) (pv 6) (by rfl)) (pw_and1 (pt_cmpR (op_notIn_seqB (K := K) rfl) (pe_op op_sub pe_int (pv 10)) (pv 6) (by rfl))))))) (fun _ _ _ _ _ => (pv 10)))
      (Evl.pss_cut (ps_set (i := 5) scL.nd rfl (.inl rfl) (pe_op op_catN (pv 5) (pe_lstN (pa_cons (pv 6) (pa_cons (pe_slice sl_tupN (pv 6) (po_some pe_int) po_none) (pa_cons (pe_callTy call_tuple_ofN (by rfl) T.z_tuple (by decide +kernel) (pa_cons (pe_callB St.cr_sortedT (by rfl) T.z_sorted (by decide +kernel) (pa_cons (pe_op op_catTN (pv 6) (pe_callTy call_tuple_ofN (by rfl) T.z_tuple (by decide +kernel) (pa_cons (pe_slice sl_listN (pv 7) po_none (po_some pe_int)) pa_nil))) pa_nil)) pa_nil)) pa_nil))))))
      (pss_one (ps_for PassesOwn.never rfl (pi_list (pv 5)) (pg_name (i := 8) scL.nd rfl (.inl rfl)) (Evl.pss_cut (ps_set (i := 9) scL.nd rfl (.inl rfl) (pe_callB (St.cr_sortedS rfl) (by rfl) T.z_sorted (by decide +kernel) (pa_cons (pe_callTy (St.cr_setL rfl) (by rfl) T.z_set (by decide +kernel) (pa_cons (pe_op op_catN (pv 3) (pe_lc (own := [("say", 11)]) (g := (gName 11)) (tt := tYes) rfl scL.nd (pi_tup (pv 8)) (blkOk_by (N := nLaw) (sc := defScope sLaw) (by decide +kernel)) (fun _ _ _ _ _ => (pg_name (i := 11) scL.nd rfl (.inl rfl))) (fun _ _ _ _ _ => pts_nil) (fun _ _ _ _ _ => (pe_callB call_abs (by rfl) T.z_abs (by decide +kernel) (pa_cons (pv 11) pa_nil))))) pa_nil)) pa_nil)))
      (pss_one (ps_if (pt_not (pt_val (pe_call GR hr7 (by rfl) gR FR.kp bR .nil pass0 (pa_cons (pv 4) (pa_cons (pv 8) (pa_cons (pv 9) pa_nil)))))) pss_never pss_nil))))))))))))
      (Evl.pss_cut (ps_set (i := 3) scL.nd rfl (.inr rfl) (pe_call GT hr3 (by rfl) gT FT.kp bT .nil pass0 (pa_cons (pv 1) (pa_cons pe_int (pa_cons pe_int pa_nil)))))
      (Evl.pss_cut (ps_set (i := 4) scL.nd rfl (.inl rfl) (pe_callTy call_tuple_ofN (by rfl) T.z_tuple (by decide +kernel) (pa_cons (pe_lc (own := [("k", 10)]) (g := (gName 10)) (tt := tYes) rfl scL.nd (pi_range1 (by rfl) T.z_range (pa_cons (pe_op op_add pe_int (pe_call GD hr2 (by rfl) gD FD.kp bD .nil pass0 (pa_cons (pv 1) (pa_cons pe_int pa_nil)))) pa_nil)) (blkOk_by (N := nLaw) (sc := defScope sLaw) (by decide +kernel)) (fun _ _ _ _ _ => (pg_name (i := 10) scL.nd rfl (.inl rfl))) (fun _ _ _ _ _ => pts_nil) (fun _ _ _ _ _ => (pe_call GC hr3 (by rfl) gC FC.kp bC .nil pass0 (pa_cons (pv 1) (pa_cons (pv 3) (pa_cons pe_int pa_nil)))))) pa_nil)))
      (Evl.pss_cut (ps_set (i := 6) scL.nd rfl (.inr rfl) (pe_ix ix_tup (pv 4) (pe_call GD hr2 (by rfl) gD FD.kp bD .nil pass0 (pa_cons (pv 1) (pa_cons (pe_callB call_len_seq (by rfl) T.z_len (by decide +kernel) (pa_cons (pv 4) pa_nil)) pa_nil))) (fun _ _ => rfl)))
      (pss_cons (ps_for PassesOwn.never rfl (pi_tup (pe_tupN (pa_cons (pe_tupN pa_nil) (pa_cons (pe_slice sl_tupN (pv 6) (po_some pe_int) po_none) (pa_cons (pe_call GC hr3 (by rfl) gC FC.kp bC .nil pass0 (pa_cons (pv 1) (pa_cons (pv 3) (pa_cons pe_int pa_nil)))) pa_nil))))) (pg_name (i := 8) scL.nd rfl (.inl rfl)) (pss_one (ps_if (pt_not (pt_val (pe_call GR hr7 (by rfl) gR FR.kp bR .nil pass0 (pa_cons (pv 4) (pa_cons (pv 8) (pa_cons (pe_callB cr_sortedN (by rfl) T.z_sorted (by decide +kernel) (pa_cons (pv 3) pa_nil)) pa_nil)))))) pss_never pss_nil)))
      (pss_one (ps_ret pe_bl)))))))), ?_⟩
    refine ⟨.ref a, rfl, a, ns, rfl, hS, fun fe c H1 nf nc s1 F1 => ?_⟩
    have C1 : Ctx fe c Ph Pa 0 H1 := ⟨F1, (Ke.same (F := Nof) s1).tabs _ tg, (Ke.same (F := Nof) s1).tabs _ tga⟩
    refine Evl.q_cut (M := fun σ' H' => ∃ y2 y3 y4 y5 y6 y7 y8 y9 : Option V, σ' = [some (.ref a), some (.ref fe), y2, y3, y4, y5, y6, y7, y8, y9, none, none] ∧ Ctx fe c Ph Pa 15000 H') ?_ ?_
    · refine ⟨3, rfl, by decide, by decide, for_range (Pv := fun i σ H' => ∃ y2 y3 y4 y5 y6 y7 y8 y9 : Option V, σ = [some (.ref a), some (.ref fe), y2, y3, y4, y5, y6, y7, y8, y9, none, none] ∧ Ctx fe c Ph Pa (5000 * i) H') ?_ ?_ ?_⟩
      · exact ⟨none, none, none, none, none, none, none, none, rfl, C1⟩
      · rintro i σ H2 hi ⟨y2, y3, y4, y5, y6, y7, y8, y9, rfl, C2⟩
        have hi : i < 3 := hi
        -- things
        refine Evl.q_cut (M := fun σ' H' => ∃ (t : Addr) (ks : List Int), σ' = [some (.ref a), some (.ref fe), some (.int (0 + (i : Int))), some (.ref t), y4, y5, y6, y7, y8, y9, none, none] ∧ Ctx fe c Ph Pa (5000 * i + 10) H' ∧ H' t = some (.lst (ks.map V.int)) ∧ t ≠ fe ∧ Thg ks ∧ 1 ≤ ks.length ∧ ks.length ≤ 6) ?_ ?_
        · refine ⟨_, rfl, fe, c, 1, 6, _, rfl, by decide, by decide, by decide, C2.fe, by omega, fun ks p H3 F3 k3 fr hp Tk l1 l2 => ?_⟩
          exact ⟨p, ks, rfl, C2.ke k3 F3, hp, fr.nf C2.fe, Tk, by omega, by omega⟩
        rintro σ' H3 ⟨t, ks, rfl, C3, ht, ntf, Tk, l1, l6⟩
        -- book
        refine Evl.q_cut (M := fun σ' H' => ∃ (b : Addr) (css : List (List Int)), σ' = [some (.ref a), some (.ref fe), some (.int (0 + (i : Int))), some (.ref t), some (.ref b), y5, y6, y7, y8, y9, none, none] ∧ Ctx fe c Ph Pa (5000 * i + 510) H' ∧ H' t = some (.lst (ks.map V.int)) ∧ Bk H' (.ref b) css ∧ (∀ cs ∈ css, Of ks cs) ∧ 1 ≤ css.length ∧ css.length ≤ 16) ?_ ?_
        · refine ⟨_, rfl, _, rfl, fe, c, t, 16, _, ks, rfl, by decide, by decide, ht, Tk, (fun z => by rw [z] at l1; cases l1), ntf, C3.fe, by omega, fun css p H4 F4 k4 _ hb hc m1 m2 => ?_⟩
          exact ⟨p, css, rfl, C3.ke k4 F4, k4.lst ht ntf, hb, hc, m1, by omega⟩
        rintro σ' H4 ⟨b, css, rfl, C4, ht, hb, oc, m1, m2⟩
        -- some
        refine Evl.q_cut (M := fun σ' H' => ∃ (p : Addr) (vs : List V) (cls : List (List Int)), σ' = [some (.ref a), some (.ref fe), some (.int (0 + (i : Int))), some (.ref t), some (.ref b), some (.ref p), y6, y7, y8, y9, none, none] ∧ Ctx fe c Ph Pa (5000 * i + 550) H' ∧ H' t = some (.lst (ks.map V.int)) ∧ Bk H' (.ref b) css ∧ H' p = some (.lst vs) ∧ p ≠ fe ∧ Cs H' vs cls ∧ (∀ cs ∈ cls, Good cs) ∧ cls.length = 3) ?_ ?_
        · refine ⟨Nat.zero_le _, fun p1 J1 n1 u1 h1 _ => ?_⟩
          refine ⟨_, rfl, _, rfl, fe, c, t, 4, _, ks, rfl, by decide, by decide, u1 _ _ ht, Tk, C4.fe.same u1, by omega, fun cs2 p2 J2 F2 k2 _ h2 c2 _ _ => ?_⟩
          refine ⟨_, rfl, by show 8 ≤ sizeLine; decide, fun p3 J3 n3 u3 h3 _ => ?_⟩
          refine ⟨fe, c, p3, 8, _, [1, 2, 3, 4, 5, 6, 7, 8], rfl, by decide, by decide, h3, thg8, F2.same u3, by omega, fun cs4 p4 J4 F4 k4 _ h4 c4 _ _ => ?_⟩
          refine ⟨by show 3 ≤ sizeLine; decide, fun p5 J5 n5 u5 h5 _ => ?_⟩
          have k14 : Ke (· = fe) J1 J4 := (k2.trans (.same u3)).trans k4
          have k45 : Ke (· = fe) J4 J5 := .same u5
          have kA : Ke (· = fe) H4 J5 := ((Ke.same u1).trans k14).trans k45
          refine ⟨p5, _, [[], cs2, cs4], rfl, (C4.ke kA ((F4.same u5).mono (by omega))), kA.lst ht ntf, hb.ke kA, h5, F4.nf n5, ?_, ?_, rfl⟩
          · refine .cons ⟨p1, rfl, (k14.trans k45).tups _ _ h1⟩ (.cons ⟨p2, rfl, ((Ke.same u3).trans k4 |>.trans k45).tups _ _ h2⟩ (.cons ⟨p4, rfl, k45.tups _ _ h4⟩ (.nil _)))
          · intro cs h
            simp only [List.mem_cons, List.not_mem_nil, or_false] at h
            rcases h with rfl | rfl | rfl
            · exact good_cl .nil
            · exact good_cl c2
            · exact good_cl c4
        rintro σ' H5 ⟨sp, svs, cls, rfl, C5, ht, hb, hsp, nsp, hcs, gd, lcl⟩
        -- one
        refine Evl.q_cut (M := fun σ' H' => ∃ (o : Addr) (cs : List Int), σ' = [some (.ref a), some (.ref fe), some (.int (0 + (i : Int))), some (.ref t), some (.ref b), some (.ref sp), some (.ref o), y7, y8, y9, none, none] ∧ Ctx fe c Ph Pa (5000 * i + 551) H' ∧ H' t = some (.lst (ks.map V.int)) ∧ Bk H' (.ref b) css ∧ H' sp = some (.lst svs) ∧ Cs H' svs cls ∧ H' o = some (.tup (cs.map V.int)) ∧ Of ks cs) ?_ ?_
        · obtain ⟨b', bvs, e, hb1, lb, hbi⟩ := hb
          cases e
          refine ⟨_, rfl, _, rfl, _, rfl, b, bvs, rfl, .inr (.of hb1), fe, c, _, _, rfl, by omega, by omega, C5.fe, by omega, fun d H6 d0 d1 F6 b6 => ?_⟩
          have k6 : Ke (· = fe) H5 H6 := .but C5.fe b6
          have dl : d.toNat < bvs.length := by omega
          have dc : d.toNat < css.length := by omega
          have ti := (hbi d.toNat _ _ (List.getElem?_eq_getElem dl) (List.getElem?_eq_getElem dc)).ke k6
          obtain ⟨o, eo, ho⟩ := ti
          refine ⟨b, bvs, d, .ref o, rfl, rfl, .of (k6.tups _ _ hb1), at_of (j := d.toNat) (by omega) (by rw [List.getElem?_eq_getElem dl, eo]), ?_⟩
          exact ⟨o, css[d.toNat], rfl, C5.ke k6 (F6.mono (by omega)), k6.lst ht ntf, ⟨b, bvs, rfl, k6.tups _ _ hb1, lb, fun i x cs h1 h2 => (hbi i x cs h1 h2).ke k6⟩, k6.lst hsp nsp, hcs.ke k6, ho, oc _ (List.getElem_mem dc)⟩
        rintro σ' H6 ⟨o, cs, rfl, C6, ht, hb, hsp, hcs, ho, hoc⟩
        -- left
        refine Evl.q_cut (M := fun σ' H' => ∃ (D : Addr) (ls : List Int), σ' = [some (.ref a), some (.ref fe), some (.int (0 + (i : Int))), some (.ref t), some (.ref b), some (.ref sp), some (.ref o), some (.ref D), y8, y9, none, none] ∧ Same H6 H' ∧ H' D = some (.lst (ls.map V.int)) ∧ (∀ k ∈ ls, k ∈ ks) ∧ ls.length ≤ 8) ?_ ?_
        · refine ⟨_, rfl, t, rfl, ⟨_, .of ht⟩, fun D nD => ?_⟩
          refine lc_list (xs := ks.map V.int) (Pv := fun j H' => Same H6 H' ∧ ∃ ls : List Int, H' D = some (.lst (ls.map V.int)) ∧ (∀ k ∈ ls, k ∈ ks) ∧ ls.length ≤ j) ⟨same_new nD, [], upd_same, fun k h => (nomatch h), Nat.le_refl _⟩ (fun j H' _ p => .of (p.1 _ _ ht)) ?_ ?_
          · rintro j x H7 hx ⟨s7, ls, hD, hl, ll⟩
            obtain ⟨z, hz, rfl⟩ := int_at hx
            have lj : j < ks.length := (List.getElem?_eq_some_iff.mp hz).1
            have := Tk.len
            have no : Same H6 H7 ∧ ∃ ls : List Int, H7 D = some (.lst (ls.map V.int)) ∧ (∀ k ∈ ls, k ∈ ks) ∧ ls.length ≤ j + 1 := ⟨s7, ls, hD, hl, by omega⟩
            refine ⟨rfl, _, rfl, _, rfl, o, _, rfl, .inr (.of (s7 _ _ ho)), rfl, flat_int cs, _, rfl, ite2 (fun _ => ?_) (fun _ => no)⟩
            refine ⟨_, rfl, _, _, rfl, rfl, _, rfl, o, _, rfl, .inr (.of (s7 _ _ ho)), rfl, flat_int cs, _, rfl, ite2 (fun _ => ?_) (fun _ => no)⟩
            refine ⟨_, rfl, _, hD, by rw [List.length_map]; exact small1000 (by omega), fun c o y => ?_, ls ++ [z], ?_, fun k hk => ?_, ?_⟩
            · rw [upd_ne (ne_of_none y nD)]
              exact s7 _ _ y
            · rw [upd_same, List.map_append]
              rfl
            · rcases List.mem_append.mp hk with h | h
              · exact hl k h
              · rw [List.mem_singleton.mp h]
                exact List.mem_of_getElem? hz
            · rw [List.length_append]
              show ls.length + 1 ≤ j + 1
              omega
          · rintro H7 ⟨s7, ls, hD, hl, ll⟩
            rw [List.length_map] at ll
            have := Tk.len
            exact ⟨D, ls, rfl, s7, hD, hl, by omega⟩
        rintro σ' H7 ⟨D, ls, rfl, s7, hD, hl, ll⟩
        -- some
        have go : Good cs := good_cl hoc.1
        refine Evl.q_cut (M := fun σ' H' => ∃ (p : Addr) (vs : List V) (cls : List (List Int)), σ' = [some (.ref a), some (.ref fe), some (.int (0 + (i : Int))), some (.ref t), some (.ref b), some (.ref p), some (.ref o), some (.ref D), y8, y9, none, none] ∧ Same H7 H' ∧ H' p = some (.lst vs) ∧ Cs H' vs cls ∧ (∀ cs ∈ cls, Good cs) ∧ cls.length = 6) ?_ ?_
        · refine ⟨_, rfl, _, rfl, _, rfl, _, rfl, o, _, rfl, s7 _ _ ho, fun q1 J1 u1 h1 => ?_⟩
          refine ⟨_, rfl, _, rfl, _, rfl, D, _, rfl, .of (u1 _ _ hD), fun q2 J2 n2 u2 h2 _ => ?_⟩
          refine ⟨q2, _, rfl, .of h2, fun q3 J3 n3 u3 h3 _ => ?_⟩
          rw [cut_head] at h3
          rw [cut_tail] at h1
          have u13 := (u1.trans u2).trans u3
          refine ⟨o, q3, _, _, rfl, rfl, u13 _ _ (s7 _ _ ho), h3, ?_, fun q4 J4 u4 h4 => ?_⟩
          · rw [List.length_map, List.length_map, List.length_take]
            have := go.2
            exact Nat.le_trans (by omega : _ ≤ 1000) (by decide)
          rw [← List.map_append] at h4
          refine ⟨q4, _, rfl, .of h4, fun ns' pm so q5 J5 n5 u5 h5 _ => ?_⟩
          refine ⟨q5, _, rfl, .of h5, fun q6 J6 n6 u6 h6 _ => ?_⟩
          refine ⟨by show 3 ≤ sizeLine; decide, fun q7 J7 n7 u7 h7 _ => ?_⟩
          have u27 := ((((u2.trans u3).trans u4).trans u5).trans u6).trans u7
          have u17 := u1.trans u27
          refine ⟨sp, q7, _, _, rfl, rfl, u17 _ _ (s7 _ _ hsp), h7, ?_, fun q8 J8 n8 u8 h8 _ => ?_⟩
          · rw [hcs.1, lcl]
            show 6 ≤ sizeLine
            decide
          have hcs7 := (hcs.ke (Ke.same (F := Nof) s7)).ke (Ke.same (F := Nof) (u17.trans u8))
          have ns4 : Good ns' := by
            refine ⟨fun k hk => ?_, ?_⟩
            · rcases List.mem_append.mp (pm.mem_iff.mp hk) with h | h
              · exact go.1 k h
              · have := Tk.one k (hl k (List.mem_of_mem_take h))
                omega
            · rw [pm.length_eq, List.length_append, List.length_take]
              have := hoc.1.len
              omega
          have gt : Good (cs.drop 1) := ⟨fun k hk => go.1 k (List.mem_of_mem_drop hk), by rw [List.length_drop]; have := go.2; omega⟩
          refine ⟨q8, _, cls ++ [cs, cs.drop 1, ns'], rfl, u17.trans u8, h8, hcs7.app (.cons ⟨o, rfl, u8 _ _ (u17 _ _ (s7 _ _ ho))⟩ (.cons ⟨q1, rfl, u8 _ _ (u27 _ _ h1)⟩ (.cons ⟨q6, rfl, u8 _ _ (u7 _ _ h6)⟩ (.nil _)))), fun c hc => ?_, by rw [List.length_append, lcl]; rfl⟩
          rcases List.mem_append.mp hc with h | h
          · exact gd c h
          · simp only [List.mem_cons, List.not_mem_nil, or_false] at h
            rcases h with rfl | rfl | rfl
            · exact go
            · exact gt
            · exact ns4
        clear hsp hcs gd lcl
        rintro σ' H8 ⟨p, vs, cls, rfl, s8, hp, hcs, gd, lcl⟩
        have s78 := s7.trans s8
        have C8 := C6.same s78
        have ht8 := s78 _ _ ht
        have hb8 := hb.ke (Ke.same (F := Nof) s78)
        -- the claims, one by one
        refine ⟨_, rfl, p, rfl, ⟨_, .of hp⟩, for_list (K := K) (a := p) (xs := vs) (Pv := fun j σ H' => ∃ y8 y9 : Option V, σ = [some (.ref a), some (.ref fe), some (.int (0 + (i : Int))), some (.ref t), some (.ref b), some (.ref p), some (.ref o), some (.ref D), y8, y9, none, none] ∧ Ke Nof H8 H') ?_ (fun j σ H' _ p => ?_) ?_ ?_⟩
        · exact ⟨y8, y9, rfl, .refl _ _⟩
        · obtain ⟨_, _, _, k9⟩ := p
          exact .of (k9.lst hp fun z => z)
        · rintro j x σ H9 hx ⟨z8, z9, rfl, k9⟩
          have lj : j < cls.length := by
            have := (List.getElem?_eq_some_iff.mp hx).1
            have := hcs.1
            omega
          have hz := List.getElem?_eq_getElem lj
          have tx := (hcs.2 j x _ hx hz).ke k9
          have gx := gd _ (List.getElem_mem lj)
          generalize cls[j] = cx at tx gx
          have ht9 := k9.lst ht8 (fun z => z)
          refine Evl.q_cut (M := fun σ' H' => ∃ (e : Addr) (es : List Int), σ' = [some (.ref a), some (.ref fe), some (.int (0 + (i : Int))), some (.ref t), some (.ref b), some (.ref p), some (.ref o), some (.ref D), some x, some (.ref e), none, none] ∧ Same H9 H' ∧ H' e = some (.lst (es.map V.int)) ∧ (∀ k ∈ es, 1 ≤ k ∧ k ≤ 8) ∧ es.length ≤ 8 ∧ (∀ k ∈ ks, k ∈ es) ∧ ∀ s ∈ cx, (s.natAbs : Int) ∈ es) ?_ ?_
          · obtain ⟨ax, rfl, hax⟩ := tx
            refine ⟨_, rfl, _, rfl, ax, rfl, ⟨_, .of hax⟩, fun D2 nD2 => ?_⟩
            refine lc_tup (xs := cx.map V.int) (Pv := fun j H' => Same H9 H' ∧ H' D2 = some (.lst (((cx.take j).map fun s : Int => (s.natAbs : Int)).map V.int))) ⟨same_new nD2, upd_same⟩ (fun j H' _ p => .of (p.1 _ _ hax)) ?_ ?_
            · rintro j2 x2 H10 hx2 ⟨s10, hD2⟩
              obtain ⟨z, hz2, rfl⟩ := int_at hx2
              have lj2 := (List.getElem?_eq_some_iff.mp hz2).1
              have lg := gx.2
              refine ⟨rfl, _, rfl, z, rfl, _, hD2, ?_, fun c o y => ?_, ?_⟩
              · rw [List.length_map, List.length_map, List.length_take]
                exact small1000 (by omega)
              · rw [upd_ne (ne_of_none y nD2)]
                exact s10 _ _ y
              · rw [upd_same, List.take_add_one, hz2, List.map_append, List.map_append]
                have e : (if z < 0 then -z else z) = (z.natAbs : Int) := by
                  split <;> omega
                rw [e]
                rfl
            · rintro H10 ⟨s10, hD2⟩
              rw [List.length_map, List.take_length] at hD2
              have lg := gx.2
              have lk := Tk.len
              refine ⟨t, D2, _, _, rfl, rfl, s10 _ _ ht9, hD2, ?_, fun M H11 nM s11 hM _ => ?_⟩
              · rw [List.length_map, List.length_map, List.length_map]
                exact Nat.le_trans (by omega : _ ≤ 1000) (by decide)
              rw [← List.map_append] at hM
              refine ⟨M, _, rfl, .of hM, by rw [List.length_append, List.length_map]; omega, fun q H12 n nq s12 hq ln => ?_⟩
              rw [List.length_append, List.length_map] at ln
              refine ⟨q, _, n, rfl, hq, by omega, fun es up me le r H13 nr s13 hr' _ => ?_⟩
              have me : ∀ k : Int, k ∈ es ↔ k ∈ ks ++ cx.map fun s : Int => (s.natAbs : Int) := fun k => (me k).trans decide_eq_true_iff
              have bd : ∀ k ∈ es, 1 ≤ k ∧ k ≤ 8 := fun k hk => by
                rcases List.mem_append.mp ((me k).mp hk) with h | h
                · exact Tk.one k h
                · obtain ⟨s, hs, rfl⟩ := List.mem_map.mp h
                  have := gx.1 s hs
                  omega
              refine ⟨r, es, rfl, (s10.trans s11).trans (s12.trans s13), hr', bd, ?_, fun k hk => (me k).mpr (List.mem_append_left _ hk), fun s hs => (me _).mpr (List.mem_append_right _ (List.mem_map.mpr ⟨s, hs, rfl⟩))⟩
              have := up_len es 1 up bd
              omega
          rintro σ' H10 ⟨e, es, rfl, s10, he, bd, le, ke, ce⟩
          have k10 : Ke Nof H8 H10 := k9.trans (.same s10)
          refine ⟨_, rfl, _, rfl, _, rfl, .ref b, x, e, css, cx, es, rfl, hb8.ke k10, tx.ke (Ke.same (F := Nof) s10), ⟨gx.1, ce⟩, gx.2, fun c hc => ?_, by omega, he, bd, le, k10.tabs _ C8.th, k10.tabs _ C8.ta, fun H11 k11 => ⟨_, rfl, ?_⟩⟩
          · obtain ⟨c1, c2⟩ := oc c hc
            exact ⟨⟨(good_cl c1).1, fun s hs => ke _ (c2 s hs)⟩, (good_cl c1).2⟩
          · exact ⟨_, _, rfl, k10.trans k11⟩
        · rintro σ H9 ⟨z8, z9, rfl, k9⟩
          exact ⟨_, _, _, _, _, _, _, _, rfl, ⟨(k9.feed C8.fe).mono (by omega), k9.tabs _ C8.th, k9.tabs _ C8.ta⟩⟩
      · rintro σ H2 ⟨y2, y3, y4, y5, y6, y7, y8, y9, rfl, C2⟩
        exact ⟨y2, y3, y4, y5, y6, y7, y8, y9, rfl, C2⟩
    rintro σ' H2 ⟨y2, y3, y4, y5, y6, y7, y8, y9, rfl, C2⟩
    -- things
    refine Evl.q_cut (M := fun σ' H' => ∃ (t : Addr) (ks : List Int), σ' = [some (.ref a), some (.ref fe), y2, some (.ref t), y4, y5, y6, y7, y8, y9, none, none] ∧ Ctx fe c Ph Pa 15010 H' ∧ H' t = some (.lst (ks.map V.int)) ∧ t ≠ fe ∧ Thg ks) ?_ ?_
    · refine ⟨_, rfl, fe, c, 7, 8, _, rfl, by decide, by decide, by decide, C2.fe, by omega, fun ks p H3 F3 k3 fr hp Tk l1 l2 => ?_⟩
      exact ⟨p, ks, rfl, C2.ke k3 F3, hp, fr.nf C2.fe, Tk⟩
    rintro σ' H3 ⟨t, ks, rfl, C3, ht, ntf, Tk⟩
    -- book
    refine Evl.q_cut (M := fun σ' H' => ∃ (b : Addr) (css : List (List Int)), σ' = [some (.ref a), some (.ref fe), y2, some (.ref t), some (.ref b), y5, y6, y7, y8, y9, none, none] ∧ Ctx fe c Ph Pa 16000 H' ∧ H' t = some (.lst (ks.map V.int)) ∧ Bk H' (.ref b) css ∧ (∀ cs ∈ css, Of ks cs) ∧ 1 ≤ css.length ∧ css.length ≤ 16) ?_ ?_
    · refine ⟨_, rfl, fe, c, 8, _, rfl, by decide, by decide, C3.fe, by omega, fun d H4 d0 d1 F4 b4 => ?_⟩
      have k4 : Ke (· = fe) H3 H4 := .but C3.fe b4
      refine ⟨_, _, rfl, rfl, 1 + d, rfl, by omega, by omega, fun D nD => ?_⟩
      have nDf : D ≠ fe := F4.nf nD
      have nDc : D ≠ c := F4.nc nD
      refine lc_range (Pv := fun j H' => ∃ css : List (List Int), Feed H' fe c (15011 + 20 * j) ∧ Ke (· = fe) H4 H' ∧ Ls H' D css ∧ (∀ cs ∈ css, Of ks cs) ∧ css.length = j) ?_ ?_ ?_
      · exact ⟨[], F4.same (same_new nD), .same (same_new nD), ⟨[], upd_same, rfl, fun i x cs h => by simp at h⟩, fun cs h => (nomatch h), rfl⟩
      · rintro j H5 hj ⟨css, F5, k5, ⟨vs, hD, lv, hv⟩, oc, lc⟩
        have hj : j < (1 + d).toNat := hj
        refine ⟨rfl, _, rfl, _, rfl, fe, c, t, 8, _, ks, rfl, by decide, by decide, k5.lst (k4.lst ht ntf) ntf, Tk, F5, by omega, fun cs p H6 F6 k6 _ hp h1 h2 _ => ?_⟩
        have hD6 := k6.lst hD nDf
        refine ⟨_, hD6, small1000 (by omega), css ++ [cs], (F6.upd nDf nDc).mono (by omega), (k5.trans k6).write (.of nD) hD6, ?_, fun ds hd => ?_, by rw [List.length_append, lc]; rfl⟩
        · have tp : ∀ {x : V} {ds : List Int}, TupI H6 x ds → TupI (upd H6 D (.lst (vs ++ [.ref p]))) x ds := fun {x ds} ⟨a, e, h⟩ => ⟨a, e, by
            have n : a ≠ D := fun z => by
              rw [z, hD6] at h
              cases h
            rw [upd_ne n]
            exact h⟩
          exact ⟨vs ++ [.ref p], upd_same, by rw [List.length_append, List.length_append, lv]; rfl, ix_append lv (fun i x ds h1 h2 => tp ((hv i x ds h1 h2).ke k6)) (tp ⟨p, rfl, hp⟩)⟩
        · rcases List.mem_append.mp hd with z | z
          · exact oc ds z
          · rw [List.mem_singleton.mp z]
            exact ⟨h1, h2⟩
      · rintro H5 ⟨css, F5, k5, ⟨vs, hD, lv, hv⟩, oc, lc⟩
        refine ⟨D, vs, rfl, .of hD, fun p H6 np s6 hp _ => ?_⟩
        have k6 : Ke (· = fe) H3 H6 := (k4.trans k5).trans (.same s6)
        have lc' : css.length = (1 + d).toNat := lc
        exact ⟨p, css, rfl, C3.ke k6 ((F5.same s6).mono (by omega)), k6.lst ht ntf, ⟨p, vs, rfl, hp, lv, fun i x cs h1 h2 => (hv i x cs h1 h2).ke (Ke.same (F := Nof) s6)⟩, oc, by omega, by omega⟩
    rintro σ' H4 ⟨b, css, rfl, C4, ht, hb, oc, m1, m2⟩
    -- one
    refine Evl.q_cut (M := fun σ' H' => ∃ (o : Addr) (cs : List Int), σ' = [some (.ref a), some (.ref fe), y2, some (.ref t), some (.ref b), y5, some (.ref o), y7, y8, y9, none, none] ∧ Ctx fe c Ph Pa 16001 H' ∧ H' t = some (.lst (ks.map V.int)) ∧ Bk H' (.ref b) css ∧ H' o = some (.tup (cs.map V.int)) ∧ Of ks cs) ?_ ?_
    · obtain ⟨b', bvs, e, hb1, lb, hbi⟩ := hb
      cases e
      refine ⟨_, rfl, _, rfl, _, rfl, b, bvs, rfl, .inr (.of hb1), fe, c, _, _, rfl, by omega, by omega, C4.fe, by omega, fun d H6 d0 d1 F6 b6 => ?_⟩
      have k6 : Ke (· = fe) H4 H6 := .but C4.fe b6
      have dl : d.toNat < bvs.length := by omega
      have dc : d.toNat < css.length := by omega
      have ti := (hbi d.toNat _ _ (List.getElem?_eq_getElem dl) (List.getElem?_eq_getElem dc)).ke k6
      obtain ⟨o, eo, ho⟩ := ti
      refine ⟨b, bvs, d, .ref o, rfl, rfl, .of (k6.tups _ _ hb1), at_of (j := d.toNat) (by omega) (by rw [List.getElem?_eq_getElem dl, eo]), ?_⟩
      exact ⟨o, css[d.toNat], rfl, C4.ke k6 (F6.mono (by omega)), k6.lst ht ntf, ⟨b, bvs, rfl, k6.tups _ _ hb1, lb, fun i x cs h1 h2 => (hbi i x cs h1 h2).ke k6⟩, ho, oc _ (List.getElem_mem dc)⟩
    rintro σ' H6 ⟨o, cs, rfl, C6, ht, hb, ho, hoc⟩
    -- the three claims
    have go : Good cs := good_cl hoc.1
    refine ⟨Nat.zero_le _, fun p1 J1 n1 u1 h1 _ => ?_⟩
    refine ⟨_, rfl, _, rfl, o, _, rfl, u1 _ _ ho, fun q1 J2 u2 h2 => ?_⟩
    rw [cut_tail] at h2
    have u12 := u1.trans u2
    refine ⟨_, rfl, _, rfl, fe, c, t, 8, _, ks, rfl, by decide, by decide, u12 _ _ ht, Tk, C6.fe.same u12, by omega, fun cs3 p3 J3 F3 k3 _ h3 c3 o3 _ => ?_⟩
    refine ⟨by show 3 ≤ sizeLine; decide, fun p4 J4 n4 u4 h4 _ => ?_⟩
    have kA : Ke (· = fe) H6 J4 := ((Ke.same u12).trans k3).trans (.same u4)
    have C8 : Ctx fe c Ph Pa 16100 J4 := C6.ke kA ((F3.same u4).mono (by omega))
    have ht8 := kA.lst ht ntf
    have hb8 := hb.ke kA
    have hcs : Cs J4 [.ref p1, .ref q1, .ref p3] [[], cs.drop 1, cs3] := .cons ⟨p1, rfl, ((k3.trans (.same u4)).tups _ _ (u2 _ _ h1))⟩ (.cons ⟨q1, rfl, (k3.trans (.same u4)).tups _ _ h2⟩ (.cons ⟨p3, rfl, u4 _ _ h3⟩ (.nil _)))
    have gd : ∀ c ∈ [[], cs.drop 1, cs3], Good c ∧ ∀ s ∈ c, (s.natAbs : Int) ∈ ks := fun c hc => by
      simp only [List.mem_cons, List.not_mem_nil, or_false] at hc
      rcases hc with rfl | rfl | rfl
      · exact ⟨good_cl .nil, fun s h => (nomatch h)⟩
      · exact ⟨⟨fun k hk => go.1 k (List.mem_of_mem_drop hk), by rw [List.length_drop]; have := go.2; omega⟩, fun s hs => hoc.2 s (List.mem_of_mem_drop hs)⟩
      · exact ⟨good_cl c3, o3⟩
    refine ⟨p4, rfl, ⟨_, .of h4⟩, for_tup (K := K) (a := p4) (xs := [.ref p1, .ref q1, .ref p3]) (Pv := fun j σ H' => ∃ y8 : Option V, σ = [some (.ref a), some (.ref fe), y2, some (.ref t), some (.ref b), y5, some (.ref o), y7, y8, y9, none, none] ∧ Ke Nof J4 H') ?_ (fun j σ H' _ p => ?_) ?_ ?_⟩
    · exact ⟨y8, rfl, .refl _ _⟩
    · obtain ⟨_, _, k9⟩ := p
      exact .of (k9.tups _ _ h4)
    · rintro j x σ H9 hx ⟨z8, rfl, k9⟩
      have lj : j < [[], cs.drop 1, cs3].length := (List.getElem?_eq_some_iff.mp hx).1
      have hz := List.getElem?_eq_getElem lj
      have tx := (hcs.2 j x _ hx hz).ke k9
      obtain ⟨gx, am⟩ := gd _ (List.getElem_mem lj)
      generalize ([[], cs.drop 1, cs3] : List (List Int))[j] = cx at tx gx am
      have ht9 := k9.lst ht8 (fun z => z)
      refine ⟨_, rfl, _, rfl, _, rfl, t, ks, rfl, .of ht9, fun es pm so e H10 ne s10 he _ => ?_⟩
      have k10 : Ke Nof J4 H10 := k9.trans (.same s10)
      refine ⟨.ref b, x, e, css, cx, es, rfl, hb8.ke k10, tx.ke (Ke.same (F := Nof) s10), ⟨gx.1, fun s hs => pm.mem_iff.mpr (am s hs)⟩, gx.2, fun c hc => ?_, by omega, he, fun k hk => Tk.one k (pm.mem_iff.mp hk), by rw [pm.length_eq]; exact Tk.len, k10.tabs _ C8.th, k10.tabs _ C8.ta, fun H11 k11 => ⟨_, rfl, ?_⟩⟩
      · obtain ⟨c1, c2⟩ := oc c hc
        exact ⟨⟨(good_cl c1).1, fun s hs => pm.mem_iff.mpr (c2 s hs)⟩, (good_cl c1).2⟩
      · exact ⟨_, rfl, k10.trans k11⟩
    · rintro σ H9 ⟨z8, rfl, k9⟩
      exact q H9
end
end K3
namespace K3
open PySem PySem.Spec PyProof.Rows L2 GxR Nw Dr Kp Cl Se Sl
/-! ### the end: two defs whose code objects have tables -/
/-- what stands where a def's code object has its table -/
abbrev Own (K : PySem.W.Frag) (h : Heap) (mg : Str → Option Value) (ys : List Str) : Prop := ∀ y ∈ ys, ∀ f, mg y = some (.ref f) → LamX.OwnTab K f h
theorem walk_own {l : PySem.W.OpenLaw} {m k : Nat} {pr : Program} {ls : List Str} {XP : (Str → Option Value) → Heap → Prop} {YP : World → Heap → Prop} {d : DefRec} {K : Params → PySem.W.Frag} {x : Str} (ys : List Str)
    (e1 : l.most = some m) (e2 : m ≤ sizeLine) (e3 : d.params.defaults = []) (room : Room k callerA) (named : ∀ y ∈ ys, ((recsOf pr).any fun e => e.name == y) = true) (inK : ∀ (w : World) (h : Heap), YP w h → (K w.params).In h)
    (go : ∀ (w : World) (mg : Str → Option Value) (g : Addr) (h : Heap), YP w h → (K w.params).In h → h.Ns mainGlobals mg → mg d.name = some (.ref g) → Own (K w.params) h mg ys → LamX.LawAtS l w (K w.params) CX0 k m x mg g h) :
    PySem.W.WalkO pr ls XP YP l.row.toRowW d [] (fun f vs => PySem.call f vs) := by
  refine Att.attach_callB e1 e3 fun w s0 s1 mg mb fa o pm cd doc a us ns G Y ho hd hcd hmg hobj hints hlen hbits hg => ?_
  have inH := inK w _ Y
  have tabs : Own (K w.params) s1.heap mg ys := fun y hy f hf c P ob fd e dd vs sl q1 q2 q3 q4 q5 => by
    obtain ⟨r, hr1, hr2⟩ := List.any_eq_true.mp (named y hy)
    obtain ⟨f', ob', fd', c', P', t1, t2, t3, t4, t5, ⟨⟨oc, vc, u1, _, u3, u4⟩, u5⟩⟩ := G.T.tab r hr1
    rw [show r.name = y from beq_iff_eq.mp hr2, hf] at t1
    cases t1
    rw [inH _ _ q1] at t2
    cases t2
    rw [q2] at t3
    cases t3
    rw [q3] at t4
    cases t4
    rw [inH _ _ q4] at u1
    cases u1
    cases u3
    rw [q5] at u4
    cases u4
    exact u5
  obtain ⟨fd, cs, sp, h1, h2, h3, h4, h5, h6⟩ := go w mg fa _ Y inH G.T.g hmg tabs
  exact LamX.law_callTs inH G.T.g G.T.b G.T.builtins G.T.nolimit hg h1 h2 h3 G.T.bmain hobj hints (Nat.le_trans hlen e2) room h6 h4 (fun H z1 z2 => h5 H a ns hlen hbits z1 z2) fun _ _ _ z => z
theorem all_mk {l : PySem.W.OpenLaw} {w : World} {K : PySem.W.Frag} {h : Heap} {mg : Str → Option Value} {top : Addr} (X : K.In h) (G : h.Ns mainGlobals mg) (htop : mg "law" = some (.ref top)) (ow : Own K h mg ["holds", "all_hold"]) {fM fD fO fT fC fB fS fN fE fF fo fa fV fG fI fR fL fH fA cH PH cA PA : Addr} {tk : Tok}
    {od_fM an_fM : Option Addr} {sl_fM : Array (Option Value)} {oc_fM kV_fM dc_fM pm_fM ct_fM : Value} {cd_fM : Value} {od_fD an_fD : Option Addr} {sl_fD : Array (Option Value)} {oc_fD kV_fD dc_fD pm_fD ct_fD : Value} {cd_fD : Value} {od_fO an_fO : Option Addr} {sl_fO : Array (Option Value)} {oc_fO kV_fO dc_fO pm_fO ct_fO : Value} {cd_fO : Value} {od_fT an_fT : Option Addr} {sl_fT : Array (Option Value)} {oc_fT kV_fT dc_fT pm_fT ct_fT : Value} {cd_fT : Value} {od_fC an_fC : Option Addr} {sl_fC : Array (Option Value)} {oc_fC kV_fC dc_fC pm_fC ct_fC : Value} {cd_fC : Value} {od_fB an_fB : Option Addr} {sl_fB : Array (Option Value)} {oc_fB kV_fB dc_fB pm_fB ct_fB : Value} {cd_fB : Value} {od_fS an_fS : Option Addr} {sl_fS : Array (Option Value)} {oc_fS kV_fS dc_fS pm_fS ct_fS : Value} {cd_fS : Value} {od_fN an_fN : Option Addr} {sl_fN : Array (Option Value)} {oc_fN kV_fN dc_fN pm_fN ct_fN : Value} {cd_fN : Value} {od_fE an_fE : Option Addr} {sl_fE : Array (Option Value)} {oc_fE kV_fE dc_fE pm_fE ct_fE : Value} {cd_fE : Value} {od_fF an_fF : Option Addr} {sl_fF : Array (Option Value)} {oc_fF kV_fF dc_fF pm_fF ct_fF : Value} {cd_fF : Value} {od_fo an_fo : Option Addr} {sl_fo : Array (Option Value)} {oc_fo kV_fo dc_fo pm_fo ct_fo : Value} {cd_fo : Value} {od_fa an_fa : Option Addr} {sl_fa : Array (Option Value)} {oc_fa kV_fa dc_fa pm_fa ct_fa : Value} {cd_fa : Value} {od_fV an_fV : Option Addr} {sl_fV : Array (Option Value)} {oc_fV kV_fV dc_fV pm_fV ct_fV : Value} {cd_fV : Value} {od_fG an_fG : Option Addr} {sl_fG : Array (Option Value)} {oc_fG kV_fG dc_fG pm_fG ct_fG : Value} {cd_fG : Value} {od_fI an_fI : Option Addr} {sl_fI : Array (Option Value)} {oc_fI kV_fI dc_fI pm_fI ct_fI : Value} {cd_fI : Value} {od_fR an_fR : Option Addr} {sl_fR : Array (Option Value)} {oc_fR kV_fR dc_fR pm_fR ct_fR : Value} {cd_fR : Value} {od_fL an_fL : Option Addr} {sl_fL : Array (Option Value)} {oc_fL kV_fL dc_fL pm_fL ct_fL : Value} {cd_fL : Value} {od_fH an_fH : Option Addr} {sl_fH : Array (Option Value)} {oc_fH kV_fH dc_fH pm_fH ct_fH : Value} {od_fA an_fA : Option Addr} {sl_fA : Array (Option Value)} {oc_fA kV_fA dc_fA pm_fA ct_fA : Value} {e_H : Value} {dd_H : Option Addr} {vs_H : Array Value} {sf_H : Array (Option Value)} {e_A : Value} {dd_A : Option Addr} {vs_A : Array Value} {sf_A : Array (Option Value)}
    (b_fM : PySem.W.nsIn K mainGlobals "_law_smixed" = some (some (.ref fM)))
    (l_fM : K.lookup fM = some ⟨oc_fM, od_fM, .func (PySem.W.fnOf "_law_smixed" "_law_smixed" (defArgs sMix) (defBody sMix) (defScope sMix) .none kV_fM dc_fM pm_fM an_fM cd_fM ct_fM), sl_fM⟩)
    (c_fM : PySem.W.codeIn K cd_fM "_law_smixed" = true)
    (k_fM : PySem.W.keepIn K (.ref fM) = true)
    (b_fD : PySem.W.nsIn K mainGlobals "_law_sdraw" = some (some (.ref fD)))
    (l_fD : K.lookup fD = some ⟨oc_fD, od_fD, .func (PySem.W.fnOf "_law_sdraw" "_law_sdraw" (defArgs sDrw) (defBody sDrw) (defScope sDrw) .none kV_fD dc_fD pm_fD an_fD cd_fD ct_fD), sl_fD⟩)
    (c_fD : PySem.W.codeIn K cd_fD "_law_sdraw" = true)
    (k_fD : PySem.W.keepIn K (.ref fD) = true)
    (b_fO : PySem.W.nsIn K mainGlobals "_law_sopen" = some (some (.ref fO)))
    (l_fO : K.lookup fO = some ⟨oc_fO, od_fO, .func (PySem.W.fnOf "_law_sopen" "_law_sopen" (defArgs sOpn) (defBody sOpn) (defScope sOpn) .none kV_fO dc_fO pm_fO an_fO cd_fO ct_fO), sl_fO⟩)
    (c_fO : PySem.W.codeIn K cd_fO "_law_sopen" = true)
    (k_fO : PySem.W.keepIn K (.ref fO) = true)
    (b_fT : PySem.W.nsIn K mainGlobals "_law_sthings" = some (some (.ref fT)))
    (l_fT : K.lookup fT = some ⟨oc_fT, od_fT, .func (PySem.W.fnOf "_law_sthings" "_law_sthings" (defArgs sThg) (defBody sThg) (defScope sThg) .none kV_fT dc_fT pm_fT an_fT cd_fT ct_fT), sl_fT⟩)
    (c_fT : PySem.W.codeIn K cd_fT "_law_sthings" = true)
    (k_fT : PySem.W.keepIn K (.ref fT) = true)
    (b_fC : PySem.W.nsIn K mainGlobals "_law_sclaim" = some (some (.ref fC)))
    (l_fC : K.lookup fC = some ⟨oc_fC, od_fC, .func (PySem.W.fnOf "_law_sclaim" "_law_sclaim" (defArgs sClm) (defBody sClm) (defScope sClm) .none kV_fC dc_fC pm_fC an_fC cd_fC ct_fC), sl_fC⟩)
    (c_fC : PySem.W.codeIn K cd_fC "_law_sclaim" = true)
    (k_fC : PySem.W.keepIn K (.ref fC) = true)
    (b_fB : PySem.W.nsIn K mainGlobals "_law_sbook" = some (some (.ref fB)))
    (l_fB : K.lookup fB = some ⟨oc_fB, od_fB, .func (PySem.W.fnOf "_law_sbook" "_law_sbook" (defArgs sBok) (defBody sBok) (defScope sBok) .none kV_fB dc_fB pm_fB an_fB cd_fB ct_fB), sl_fB⟩)
    (c_fB : PySem.W.codeIn K cd_fB "_law_sbook" = true)
    (k_fB : PySem.W.keepIn K (.ref fB) = true)
    (b_fS : PySem.W.nsIn K mainGlobals "say_holds" = some (some (.ref fS)))
    (l_fS : K.lookup fS = some ⟨oc_fS, od_fS, .func (PySem.W.fnOf "say_holds" "say_holds" (defArgs sShd) (defBody sShd) (defScope sShd) .none kV_fS dc_fS pm_fS an_fS cd_fS ct_fS), sl_fS⟩)
    (c_fS : PySem.W.codeIn K cd_fS "say_holds" = true)
    (k_fS : PySem.W.keepIn K (.ref fS) = true)
    (b_fN : PySem.W.nsIn K mainGlobals "setting_by_number" = some (some (.ref fN)))
    (l_fN : K.lookup fN = some ⟨oc_fN, od_fN, .func (PySem.W.fnOf "setting_by_number" "setting_by_number" (defArgs sSbn) (defBody sSbn) (defScope sSbn) .none kV_fN dc_fN pm_fN an_fN cd_fN ct_fN), sl_fN⟩)
    (c_fN : PySem.W.codeIn K cd_fN "setting_by_number" = true)
    (k_fN : PySem.W.keepIn K (.ref fN) = true)
    (b_fE : PySem.W.nsIn K mainGlobals "every_setting" = some (some (.ref fE)))
    (l_fE : K.lookup fE = some ⟨oc_fE, od_fE, .func (PySem.W.fnOf "every_setting" "every_setting" (defArgs sEve) (defBody sEve) (defScope sEve) .none kV_fE dc_fE pm_fE an_fE cd_fE ct_fE), sl_fE⟩)
    (c_fE : PySem.W.codeIn K cd_fE "every_setting" = true)
    (k_fE : PySem.W.keepIn K (.ref fE) = true)
    (b_fF : PySem.W.nsIn K mainGlobals "follows" = some (some (.ref fF)))
    (l_fF : K.lookup fF = some ⟨oc_fF, od_fF, .func (PySem.W.fnOf "follows" "follows" (defArgs sFol) (defBody sFol) (defScope sFol) .none kV_fF dc_fF pm_fF an_fF cd_fF ct_fF), sl_fF⟩)
    (c_fF : PySem.W.codeIn K cd_fF "follows" = true)
    (k_fF : PySem.W.keepIn K (.ref fF) = true)
    (b_fo : PySem.W.nsIn K mainGlobals "_law_sholds" = some (some (.ref fo)))
    (l_fo : K.lookup fo = some ⟨oc_fo, od_fo, .func (PySem.W.fnOf "_law_sholds" "_law_sholds" (defArgs sSho) (defBody sSho) (defScope sSho) .none kV_fo dc_fo pm_fo an_fo cd_fo ct_fo), sl_fo⟩)
    (c_fo : PySem.W.codeIn K cd_fo "_law_sholds" = true)
    (k_fo : PySem.W.keepIn K (.ref fo) = true)
    (b_fa : PySem.W.nsIn K mainGlobals "_law_sall_hold" = some (some (.ref fa)))
    (l_fa : K.lookup fa = some ⟨oc_fa, od_fa, .func (PySem.W.fnOf "_law_sall_hold" "_law_sall_hold" (defArgs sSah) (defBody sSah) (defScope sSah) .none kV_fa dc_fa pm_fa an_fa cd_fa ct_fa), sl_fa⟩)
    (c_fa : PySem.W.codeIn K cd_fa "_law_sall_hold" = true)
    (k_fa : PySem.W.keepIn K (.ref fa) = true)
    (b_fV : PySem.W.nsIn K mainGlobals "_law_severy" = some (some (.ref fV)))
    (l_fV : K.lookup fV = some ⟨oc_fV, od_fV, .func (PySem.W.fnOf "_law_severy" "_law_severy" (defArgs sSev) (defBody sSev) (defScope sSev) .none kV_fV dc_fV pm_fV an_fV cd_fV ct_fV), sl_fV⟩)
    (c_fV : PySem.W.codeIn K cd_fV "_law_severy" = true)
    (k_fV : PySem.W.keepIn K (.ref fV) = true)
    (b_fG : PySem.W.nsIn K mainGlobals "_law_sagainst" = some (some (.ref fG)))
    (l_fG : K.lookup fG = some ⟨oc_fG, od_fG, .func (PySem.W.fnOf "_law_sagainst" "_law_sagainst" (defArgs sSag) (defBody sSag) (defScope sSag) .none kV_fG dc_fG pm_fG an_fG cd_fG ct_fG), sl_fG⟩)
    (c_fG : PySem.W.codeIn K cd_fG "_law_sagainst" = true)
    (k_fG : PySem.W.keepIn K (.ref fG) = true)
    (b_fI : PySem.W.nsIn K mainGlobals "_law_sis_setting" = some (some (.ref fI)))
    (l_fI : K.lookup fI = some ⟨oc_fI, od_fI, .func (PySem.W.fnOf "_law_sis_setting" "_law_sis_setting" (defArgs sSis) (defBody sSis) (defScope sSis) .none kV_fI dc_fI pm_fI an_fI cd_fI ct_fI), sl_fI⟩)
    (c_fI : PySem.W.codeIn K cd_fI "_law_sis_setting" = true)
    (k_fI : PySem.W.keepIn K (.ref fI) = true)
    (b_fR : PySem.W.nsIn K mainGlobals "_law_s_right" = some (some (.ref fR)))
    (l_fR : K.lookup fR = some ⟨oc_fR, od_fR, .func (PySem.W.fnOf "_law_s_right" "_law_s_right" (defArgs sRgt) (defBody sRgt) (defScope sRgt) .none kV_fR dc_fR pm_fR an_fR cd_fR ct_fR), sl_fR⟩)
    (c_fR : PySem.W.codeIn K cd_fR "_law_s_right" = true)
    (k_fR : PySem.W.keepIn K (.ref fR) = true)
    (b_fL : PySem.W.nsIn K mainGlobals "law" = some (some (.ref fL)))
    (l_fL : K.lookup fL = some ⟨oc_fL, od_fL, .func (PySem.W.fnOf "law" "law" (defArgs sLaw) (defBody sLaw) (defScope sLaw) .none kV_fL dc_fL pm_fL an_fL cd_fL ct_fL), sl_fL⟩)
    (c_fL : PySem.W.codeIn K cd_fL "law" = true)
    (k_fL : PySem.W.keepIn K (.ref fL) = true)
    (b_fH : PySem.W.nsIn K mainGlobals "holds" = some (some (.ref fH)))
    (l_fH : K.lookup fH = some ⟨oc_fH, od_fH, .func (PySem.W.fnOf "holds" "holds" (defArgs sHol) (defBody sHol) (defScope sHol) .none kV_fH dc_fH pm_fH an_fH (.ref cH) ct_fH), sl_fH⟩)
    (c_fH : PySem.W.codeIn K (.ref cH) "holds" = true)
    (k_fH : PySem.W.keepIn K (.ref fH) = true)
    (b_fA : PySem.W.nsIn K mainGlobals "all_hold" = some (some (.ref fA)))
    (l_fA : K.lookup fA = some ⟨oc_fA, od_fA, .func (PySem.W.fnOf "all_hold" "all_hold" (defArgs sAhd) (defBody sAhd) (defScope sAhd) .none kV_fA dc_fA pm_fA an_fA (.ref cA) ct_fA), sl_fA⟩)
    (c_fA : PySem.W.codeIn K (.ref cA) "all_hold" = true)
    (k_fA : PySem.W.keepIn K (.ref fA) = true)
    (lc_H : K.lookup cH = some ⟨e_H, dd_H, .fields vs_H, sf_H⟩)
    (v_H : vs_H[11]? = some (Value.ref PH))
    (hd_H : PySem.W.codeHdIn K cH PH = true)
    (np_H : K.lookup PH = none)
    (lc_A : K.lookup cA = some ⟨e_A, dd_A, .fields vs_A, sf_A⟩)
    (v_A : vs_A[11]? = some (Value.ref PA))
    (hd_A : PySem.W.codeHdIn K cA PA = true)
    (np_A : K.lookup PA = none)
    (b_M8 : PySem.W.nsIn K mainGlobals "MOST_THINGS" = some (some (.int 8 tk)))
    (z_range : PySem.W.nsIn K mainGlobals "range" = some none)
    (z_isinstance : PySem.W.nsIn K mainGlobals "isinstance" = some none)
    (z_len : PySem.W.nsIn K mainGlobals "len" = some none)
    (z_list : PySem.W.nsIn K mainGlobals "list" = some none)
    (z_min : PySem.W.nsIn K mainGlobals "min" = some none)
    (z_tuple : PySem.W.nsIn K mainGlobals "tuple" = some none)
    (z_sorted : PySem.W.nsIn K mainGlobals "sorted" = some none)
    (z_set : PySem.W.nsIn K mainGlobals "set" = some none)
    (z_abs : PySem.W.nsIn K mainGlobals "abs" = some none)
    (z_any : PySem.W.nsIn K mainGlobals "any" = some none)
    (z_all : PySem.W.nsIn K mainGlobals "all" = some none)
    (z_bool : PySem.W.nsIn K mainGlobals "bool" = some none) :
    LamX.LawAtS l w K CX0 8 63 "script" mg top h := by
  have e := htop.symm.trans (PySem.W.mg_of X G b_fL)
  cases e
  have F_fM := fun_mk (st := sMix) l_fM c_fM k_fM
  have B_fM := F_fM.binds (ps := ["cell", "at"]) fun _ _ _ _ _ _ us hl => match us, hl with | [_, _], _ => rfl
  have g_fM := PySem.W.mg_of X G b_fM
  have F_fD := fun_mk (st := sDrw) l_fD c_fD k_fD
  have B_fD := F_fD.binds (ps := ["feed", "many"]) fun _ _ _ _ _ _ us hl => match us, hl with | [_, _], _ => rfl
  have g_fD := PySem.W.mg_of X G b_fD
  have F_fO := fun_mk (st := sOpn) l_fO c_fO k_fO
  have B_fO := F_fO.binds (ps := ["script"]) fun _ _ _ _ _ _ us hl => match us, hl with | [_], _ => rfl
  have g_fO := PySem.W.mg_of X G b_fO
  have F_fT := fun_mk (st := sThg) l_fT c_fT k_fT
  have B_fT := F_fT.binds (ps := ["feed", "least", "most"]) fun _ _ _ _ _ _ us hl => match us, hl with | [_, _, _], _ => rfl
  have g_fT := PySem.W.mg_of X G b_fT
  have F_fC := fun_mk (st := sClm) l_fC c_fC k_fC
  have B_fC := F_fC.binds (ps := ["feed", "things", "most"]) fun _ _ _ _ _ _ us hl => match us, hl with | [_, _, _], _ => rfl
  have g_fC := PySem.W.mg_of X G b_fC
  have F_fB := fun_mk (st := sBok) l_fB c_fB k_fB
  have B_fB := F_fB.binds (ps := ["feed", "things", "most"]) fun _ _ _ _ _ _ us hl => match us, hl with | [_, _, _], _ => rfl
  have g_fB := PySem.W.mg_of X G b_fB
  have F_fS := fun_mk (st := sShd) l_fS c_fS k_fS
  have B_fS := F_fS.binds (ps := ["say", "setting"]) fun _ _ _ _ _ _ us hl => match us, hl with | [_, _], _ => rfl
  have g_fS := PySem.W.mg_of X G b_fS
  have F_fN := fun_mk (st := sSbn) l_fN c_fN k_fN
  have B_fN := F_fN.binds (ps := ["number"]) fun _ _ _ _ _ _ us hl => match us, hl with | [_], _ => rfl
  have g_fN := PySem.W.mg_of X G b_fN
  have F_fE := fun_mk (st := sEve) l_fE c_fE k_fE
  have B_fE := F_fE.binds (ps := []) fun _ _ _ _ _ _ us hl => match us, hl with | [], _ => rfl
  have g_fE := PySem.W.mg_of X G b_fE
  have F_fF := fun_mk (st := sFol) l_fF c_fF k_fF
  have B_fF := F_fF.binds (ps := ["book", "claim"]) fun _ _ _ _ _ _ us hl => match us, hl with | [_, _], _ => rfl
  have g_fF := PySem.W.mg_of X G b_fF
  have F_fo := fun_mk (st := sSho) l_fo c_fo k_fo
  have B_fo := F_fo.binds (ps := ["claim", "setting"]) fun _ _ _ _ _ _ us hl => match us, hl with | [_, _], _ => rfl
  have g_fo := PySem.W.mg_of X G b_fo
  have F_fa := fun_mk (st := sSah) l_fa c_fa k_fa
  have B_fa := F_fa.binds (ps := ["claims", "setting"]) fun _ _ _ _ _ _ us hl => match us, hl with | [_, _], _ => rfl
  have g_fa := PySem.W.mg_of X G b_fa
  have F_fV := fun_mk (st := sSev) l_fV c_fV k_fV
  have B_fV := F_fV.binds (ps := ["things"]) fun _ _ _ _ _ _ us hl => match us, hl with | [_], _ => rfl
  have g_fV := PySem.W.mg_of X G b_fV
  have F_fG := fun_mk (st := sSag) l_fG c_fG k_fG
  have B_fG := F_fG.binds (ps := ["claims", "claim", "things"]) fun _ _ _ _ _ _ us hl => match us, hl with | [_, _, _], _ => rfl
  have g_fG := PySem.W.mg_of X G b_fG
  have F_fI := fun_mk (st := sSis) l_fI c_fI k_fI
  have B_fI := F_fI.binds (ps := ["thing"]) fun _ _ _ _ _ _ us hl => match us, hl with | [_], _ => rfl
  have g_fI := PySem.W.mg_of X G b_fI
  have F_fR := fun_mk (st := sRgt) l_fR c_fR k_fR
  have B_fR := F_fR.binds (ps := ["book", "claim", "every"]) fun _ _ _ _ _ _ us hl => match us, hl with | [_, _, _], _ => rfl
  have g_fR := PySem.W.mg_of X G b_fR
  have F_fL := fun_mk (st := sLaw) l_fL c_fL k_fL
  have B_fL := F_fL.binds (ps := ["script"]) fun _ _ _ _ _ _ us hl => match us, hl with | [_], _ => rfl
  have g_fL := PySem.W.mg_of X G b_fL
  have F_fH := fun_mk (st := sHol) l_fH c_fH k_fH
  have B_fH := F_fH.binds (ps := ["claim", "setting"]) fun _ _ _ _ _ _ us hl => match us, hl with | [_, _], _ => rfl
  have g_fH := PySem.W.mg_of X G b_fH
  have F_fA := fun_mk (st := sAhd) l_fA c_fA k_fA
  have B_fA := F_fA.binds (ps := ["book", "setting"]) fun _ _ _ _ _ _ us hl => match us, hl with | [_, _], _ => rfl
  have g_fA := PySem.W.mg_of X G b_fA
  have Z_range := PySem.W.mg_none_of X G z_range
  have Z_isinstance := PySem.W.mg_none_of X G z_isinstance
  have Z_len := PySem.W.mg_none_of X G z_len
  have Z_list := PySem.W.mg_none_of X G z_list
  have Z_min := PySem.W.mg_none_of X G z_min
  have Z_tuple := PySem.W.mg_none_of X G z_tuple
  have Z_sorted := PySem.W.mg_none_of X G z_sorted
  have Z_set := PySem.W.mg_none_of X G z_set
  have Z_abs := PySem.W.mg_none_of X G z_abs
  have Z_any := PySem.W.mg_none_of X G z_any
  have Z_all := PySem.W.mg_none_of X G z_all
  have Z_bool := PySem.W.mg_none_of X G z_bool
  have C_fH : FunC K "holds" "holds" sHol fH cH _ := ⟨⟨_, _, _, _, _, _, _, _, rfl, l_fH, c_fH⟩, k_fH⟩
  have C_fA : FunC K "all_hold" "all_hold" sAhd fA cA _ := ⟨⟨_, _, _, _, _, _, _, _, rfl, l_fA, c_fA⟩, k_fA⟩
  have M8 := PySem.W.mg_of X G b_M8
  refine ⟨PySem.W.fnOf "law" "law" (defArgs sLaw) (defBody sLaw) (defScope sLaw) .none kV_fL dc_fL pm_fL an_fL cd_fL ct_fL, [(cH, PH), (cA, PA)], spLaw PH PA K, ?_, ?_, ?_, fun s u => .of_eq rfl, fun H a ns _ _ hT hS => ?_, fun base hb hn hT => ?_⟩
  · intro p hp
    rcases List.mem_cons.mp hp with rfl | hp
    · exact ow "holds" List.mem_cons_self _ g_fH cH PH _ _ _ _ _ _ l_fH rfl rfl lc_H v_H
    · rw [List.mem_singleton.mp hp]
      exact ow "all_hold" (List.mem_cons_of_mem _ List.mem_cons_self) _ g_fA cA PA _ _ _ _ _ _ l_fA rfl rfl lc_A v_A
  · intro p hp
    rcases List.mem_cons.mp hp with rfl | hp
    · exact np_H
    · rw [List.mem_singleton.mp hp]
      exact np_A
  · intro p hp
    rcases List.mem_cons.mp hp with rfl | hp
    · exact PySem.W.codeHd_of_K X hd_H
    · rw [List.mem_singleton.mp hp]
      exact PySem.W.codeHd_of_K X hd_A
  · exact ⟨a, ns, rfl, hS, ⟨#[], hT (cH, PH) List.mem_cons_self, trivial⟩, ⟨#[], hT (cA, PA) (List.mem_cons_of_mem _ List.mem_cons_self), trivial⟩, fun _ => rfl⟩
  · have t1 := hT (cH, PH) List.mem_cons_self
    have t2 := hT (cA, PA) (List.mem_cons_of_mem _ List.mem_cons_self)
    have TH : TabB base mg cH PH := ⟨t1.code, t1.bm, t1.gP⟩
    have TA : TabB base mg cA PA := ⟨t2.code, t2.bm, t2.gP⟩
    have Ts : Zs mg := ⟨Z_len, Z_list, Z_range, Z_min, Z_tuple, Z_sorted⟩
    have Tt : Zt mg := ⟨Z_len, Z_abs, Z_any, Z_all, Z_tuple, Z_range⟩
    have Tl : Zl mg := ⟨Z_len, Z_abs, Z_isinstance, Z_tuple, Z_bool, Z_all⟩
    have Tk : Zk mg := ⟨Z_len, Z_range, Z_tuple, Z_sorted, Z_set, Z_abs⟩
    have GD : FnOk l.prog w K mg base CX0 2 fD _ ["feed", "many"] spDrw := ok_drw F_fD F_fM B_fM g_fM Z_len
    have GO : FnOk l.prog w K mg base CX0 1 fO _ ["script"] (spOpn K) := ok_opn F_fO Z_list
    have GT : FnOk l.prog w K mg base CX0 3 fT _ ["feed", "least", "most"] spThg := ok_thg F_fT Ts F_fD B_fD g_fD GD
    have GC : FnOk l.prog w K mg base CX0 3 fC _ ["feed", "things", "most"] spClm := ok_clm F_fC Ts F_fD B_fD g_fD GD
    have GB : FnOk l.prog w K mg base CX0 4 fB _ ["feed", "things", "most"] spBok := ok_bok F_fB Ts F_fD B_fD g_fD GD F_fC B_fC g_fC GC
    have GS : FnOk l.prog w K mg base CX0 1 fS _ ["say", "setting"] spShd := ok_shd F_fS Tt
    have GN : FnOk l.prog w K mg base CX0 2 fN _ ["number"] spSbn := ok_sbn F_fN Tt M8
    have GH : FnOk l.prog w K mg base CX0 3 fH _ ["claim", "setting"] (spHol PH) := ok_hol C_fH Tt TH F_fS B_fS g_fS GS
    have GA : FnOk l.prog w K mg base CX0 5 fA _ ["book", "setting"] (spAhd PH PA) := ok_ahd C_fA Tt TA k_fH B_fH g_fH GH
    have GF : FnOk l.prog w K mg base CX0 6 fF _ ["book", "claim"] (spFol PH PA) := ok_fol F_fF Tt M8 F_fN B_fN g_fN GN F_fE B_fE g_fE F_fH B_fH g_fH GH F_fA B_fA g_fA GA
    have Go : FnOk l.prog w K mg base CX0 1 fo _ ["claim", "setting"] spSho := ok_sho F_fo Tl
    have Ga : FnOk l.prog w K mg base CX0 2 fa _ ["claims", "setting"] spSah := ok_sah F_fa Tl F_fo B_fo g_fo Go
    have GV : FnOk l.prog w K mg base CX0 1 fV _ ["things"] spSev := ok_sev F_fV
    have GG : FnOk l.prog w K mg base CX0 3 fG _ ["claims", "claim", "things"] spSag := ok_sag F_fG F_fo B_fo g_fo Go F_fa B_fa g_fa Ga F_fV B_fV g_fV GV
    have GI : FnOk l.prog w K mg base CX0 1 fI _ ["thing"] spSis := ok_sis F_fI Tl
    have GR : FnOk l.prog w K mg base CX0 7 fR _ ["book", "claim", "every"] (spRgt PH PA) := ok_rgt F_fR Tl F_fo B_fo g_fo Go F_fa B_fa g_fa Ga F_fF B_fF g_fF GF F_fG B_fG g_fG GG F_fI B_fI g_fI GI
    exact ok_law F_fL Tk F_fD B_fD g_fD GD F_fO B_fO g_fO GO F_fT B_fT g_fT GT F_fC B_fC g_fC GC F_fB B_fB g_fB GB F_fR B_fR g_fR GR
end K3
open PySem PySem.W PyProof.Rows
set_option maxHeartbeats 0 in
theorem PySem.Challenge.cw_sparecut_k03_what_follows_holds : PySem.Challenge.rw_sparecut_k03_what_follows.Holds := by
  w_on; o_law; k_head; (case hw => w_witness2)
  k_fill
  refine K3.walk_own (l := PySem.Challenge.rw_sparecut_k03_what_follows) (m := 63) (k := 8) (x := "script") ["holds", "all_hold"] rfl (by decide) rfl ⟨rfl, by decide, by decide⟩ (by decide +kernel) (fun w h Y => PySem.W.kIn_of Y) ?F
  case F =>
    intro w mg fa h Y KX G hmg ow
    refine' K3.all_mk KX G hmg ow ?b_fM ?l_fM ?c_fM ?k_fM ?b_fD ?l_fD ?c_fD ?k_fD ?b_fO ?l_fO ?c_fO ?k_fO ?b_fT ?l_fT ?c_fT ?k_fT ?b_fC ?l_fC ?c_fC ?k_fC ?b_fB ?l_fB ?c_fB ?k_fB ?b_fS ?l_fS ?c_fS ?k_fS ?b_fN ?l_fN ?c_fN ?k_fN ?b_fE ?l_fE ?c_fE ?k_fE ?b_fF ?l_fF ?c_fF ?k_fF ?b_fo ?l_fo ?c_fo ?k_fo ?b_fa ?l_fa ?c_fa ?k_fa ?b_fV ?l_fV ?c_fV ?k_fV ?b_fG ?l_fG ?c_fG ?k_fG ?b_fI ?l_fI ?c_fI ?k_fI ?b_fR ?l_fR ?c_fR ?k_fR ?b_fL ?l_fL ?c_fL ?k_fL ?b_fH ?l_fH ?c_fH ?k_fH ?b_fA ?l_fA ?c_fA ?k_fA ?lc_H ?v_H ?hd_H ?np_H ?lc_A ?v_A ?hd_A ?np_A ?b_M8 ?z_range ?z_isinstance ?z_len ?z_list ?z_min ?z_tuple ?z_sorted ?z_set ?z_abs ?z_any ?z_all ?z_bool
    (case b_fM => k_is)
    (case l_fM => k_is)
    (case c_fM => k_is)
    (case k_fM => k_is)
    (case b_fD => k_is)
    (case l_fD => k_is)
    (case c_fD => k_is)
    (case k_fD => k_is)
    (case b_fO => k_is)
    (case l_fO => k_is)
    (case c_fO => k_is)
    (case k_fO => k_is)
    (case b_fT => k_is)
    (case l_fT => k_is)
    (case c_fT => k_is)
    (case k_fT => k_is)
    (case b_fC => k_is)
    (case l_fC => k_is)
    (case c_fC => k_is)
    (case k_fC => k_is)
    (case b_fB => k_is)
    (case l_fB => k_is)
    (case c_fB => k_is)
    (case k_fB => k_is)
    (case b_fS => k_is)
    (case l_fS => k_is)
    (case c_fS => k_is)
    (case k_fS => k_is)
    (case b_fN => k_is)
    (case l_fN => k_is)
    (case c_fN => k_is)
    (case k_fN => k_is)
    (case b_fE => k_is)
    (case l_fE => k_is)
    (case c_fE => k_is)
    (case k_fE => k_is)
    (case b_fF => k_is)
    (case l_fF => k_is)
    (case c_fF => k_is)
    (case k_fF => k_is)
    (case b_fo => k_is)
    (case l_fo => k_is)
    (case c_fo => k_is)
    (case k_fo => k_is)
    (case b_fa => k_is)
    (case l_fa => k_is)
    (case c_fa => k_is)
    (case k_fa => k_is)
    (case b_fV => k_is)
    (case l_fV => k_is)
    (case c_fV => k_is)
    (case k_fV => k_is)
    (case b_fG => k_is)
    (case l_fG => k_is)
    (case c_fG => k_is)
    (case k_fG => k_is)
    (case b_fI => k_is)
    (case l_fI => k_is)
    (case c_fI => k_is)
    (case k_fI => k_is)
    (case b_fR => k_is)
    (case l_fR => k_is)
    (case c_fR => k_is)
    (case k_fR => k_is)
    (case b_fL => k_is)
    (case l_fL => k_is)
    (case c_fL => k_is)
    (case k_fL => k_is)
    (case b_fH => k_is)
    (case l_fH => k_is)
    (case c_fH => k_is)
    (case k_fH => k_is)
    (case b_fA => k_is)
    (case l_fA => k_is)
    (case c_fA => k_is)
    (case k_fA => k_is)
    (case lc_H => k_is)
    (case v_H => exact rfl)
    (case hd_H => kernel_rfl)
    (case np_H => kernel_rfl)
    (case lc_A => k_is)
    (case v_A => exact rfl)
    (case hd_A => kernel_rfl)
    (case np_A => kernel_rfl)
    (case b_M8 => k_is)
    (case z_range => k_is)
    (case z_isinstance => k_is)
    (case z_len => k_is)
    (case z_list => k_is)
    (case z_min => k_is)
    (case z_tuple => k_is)
    (case z_sorted => k_is)
    (case z_set => k_is)
    (case z_abs => k_is)
    (case z_any => k_is)
    (case z_all => k_is)
    (case z_bool => k_is)
