import PyProof.Rows.All
import Wide.All
import OpenK.AllK
import Wide.FinOn
import PyProof.EqAt
import PyProof.EqKinds
import PyProof.TupleCall
import PySem.Challenge.RW_sparecut_k08_whole_ladders_follow
import HandS.ForMost
import HandS.Evl
import HandS.Conv
import HandS.Exc
import HandS.ExcOwn
import HandS.ExcInit
import HandS.ExcValue
import HandS.ExcIs
import KE.KExcIs
import KE.KxText
import HandS.AnyAll
import HandS.GenOver
import HandS.GenList
import HandS.SortInts
import HandS.TupAny
import HandS.TupMul
import HandS.Strs
import HandS.IsInst
import HandS.EndTab
import HandS.EndOwn
import HandS.SetFor
import KE.KNestM
import KE.GoesEnum
import HandS.FStr
import HandS.RaiseMore
import KE.DatumOrd
import HandS.Zip
set_option Elab.async false
set_option linter.all false
set_option maxRecDepth 100000
set_option maxHeartbeats 2000000
namespace Nw
open PySem PySem.Spec PyProof.Rows L2
/-! ### readings that hide the heap: what is new is told by its facts alone -/
theorem same_new {H : Hp} {p : Addr} {o : HO} (h : H p = none) : Same H (upd H p o) := fun b x e => by
  rw [upd_ne (ne_of_none e h)]
  exact e
theorem sqt {K : PySem.W.Frag} {H H' : Hp} {a : Addr} {xs : List V} (e : Same H H') (h : SqT K H a xs) : SqT K H' a xs := by
  rcases h with (h | ⟨o, h⟩) | h
  · exact .inl (.inl (e _ _ h))
  · exact .inl (.inr ⟨o, e _ _ h⟩)
  · exact .inr h
/-- a new object o at a place of its own -/
def New (H : Hp) (o : HO) (Q : VK) : Prop := ∀ p H2, H p = none → Same H H2 → H2 p = some o → (∀ b, b ≠ p → H2 b = H b) → Q (.ref p) H2
theorem New.to {H : Hp} {o : HO} {Q : VK} (h : New H o Q) : ∀ p, H p = none → Q (.ref p) (upd H p o) := fun p n => h p _ n (same_new n) upd_same fun b nb => upd_ne nb
section
variable {X : Cx} {e : Expr} {es : List Expr} {t t' : TE} {ta : TA} {pos : Pos}
theorem pe_weak (h : PE X e t) (i : ∀ σ H Q, t' σ H Q → t σ H Q) : PE X e t' := ⟨fun pins s σ H Q I q => h.run pins s σ H Q I (i σ H Q q)⟩
theorem op_weak {f : Value → Value → Sem Value} {r r' : R2} (h : OpR X f r) (i : ∀ x y H Q, r' x y H Q → r x y H Q) : OpR X f r' := fun pins s σ H x y v u Q I rx ry q => h pins s σ H x y v u Q I rx ry (i x y H Q q)
theorem call_weak {f : Value} {r r' : List V → Hp → VK → Prop} (h : CallR X f r) (i : ∀ xs H Q, r' xs H Q → r xs H Q) : CallR X f r' := fun pins s σ H xs us Q I rx q => h pins s σ H xs us Q I rx (i xs H Q q)
theorem mt_weak {id : String} {r r' : V → List V → Hp → VK → Prop} (h : MtR X id r) (i : ∀ x xs H Q, r' x xs H Q → r x xs H Q) : MtR X id r' := fun pins s σ H x xs v us Q I rx rs q => h pins s σ H x xs v us Q I rx rs (i x xs H Q q)
theorem sl_weak {r r' : V → Option Int → Option Int → Hp → VK → Prop} (h : SlR X r) (i : ∀ x lo hi H Q, r' x lo hi H Q → r x lo hi H Q) : SlR X r' := fun pins s σ H x v vl vu lo hi sl Q I rx a b c q => h pins s σ H x v vl vu lo hi sl Q I rx a b c (i x lo hi H Q q)
/-- what follows may be asked for less -/
def clA (t : TA) : TA := fun σ H R => ∃ R' : List V → Hp → Prop, (∀ xs H1, R' xs H1 → R xs H1) ∧ t σ H R'
theorem pa_cl (h : PA X es ta) : PA X es (clA ta) := ⟨fun ps pins s σ H Q I ⟨R', i, q⟩ => thn (h.run ps pins s σ H R' I q) fun us s1 ⟨vs, H1, I1, r1, q1⟩ => ⟨vs, H1, I1, r1, i vs H1 q1⟩⟩
def clE (t : TE) : TE := fun σ H R => ∃ R' : VK, (∀ v H1, R' v H1 → R v H1) ∧ t σ H R'
theorem pe_cl (h : PE X e t) : PE X e (clE t) := ⟨fun pins s σ H Q I ⟨R', i, q⟩ => thn (h.run pins s σ H R' I q) fun u s1 ⟨v, H1, I1, r1, q1⟩ => ⟨v, H1, I1, r1, i v H1 q1⟩⟩
def nLst (t : TA) : TE := fun σ H Q => t σ H fun xs H1 => xs.length ≤ sizeLine ∧ New H1 (.lst xs) Q
def nTup (t : TA) : TE := fun σ H Q => t σ H fun xs H1 => xs.length ≤ sizeLine ∧ New H1 (.tup xs) Q
theorem pe_lstN (h : PA X es ta) : PE X (.List es pos) (nLst ta) := pe_weak (pe_lst (pa_cl h)) fun _ _ _ q => ⟨_, fun _ _ z => ⟨z.1, z.2.to⟩, q⟩
theorem pe_tupN {x1} (h : PA X es ta) : PE X (.Tuple es x1 pos) (nTup ta) := pe_weak (pe_tup (pa_cl h)) fun _ _ _ q => ⟨_, fun _ _ z => ⟨z.1, z.2.to⟩, q⟩
/-- xs + ys (lists) -/
def rCatN : R2 := fun x y H Q => ∃ p q xs ys, x = .ref p ∧ y = .ref q ∧ H p = some (.lst xs) ∧ H q = some (.lst ys) ∧ xs.length + ys.length ≤ sizeLine ∧ New H (.lst (xs ++ ys)) Q
theorem op_catN : OpR X (binaryOp .Add) rCatN := op_weak op_cat fun x y H Q ⟨p, q, xs, ys, h1, h2, h3, h4, h5, h6⟩ => ⟨p, q, xs, ys, h1, h2, h3, h4, h5, h6.to⟩
/-- a tuple of xs, new or not -/
def ResT (H : Hp) (xs : List V) (Q : VK) : Prop := ∀ p H2, Same H H2 → H2 p = some (.tup xs) → Q (.ref p) H2
theorem call_list_ofN : CallR X (.type "list") (fun xs H Q => ∃ p ys, xs = [.ref p] ∧ (SqL X.K H p ys ∨ SqT X.K H p ys) ∧ New H (.lst ys) Q) := call_weak call_list_of fun _ _ _ ⟨p, ys, h1, h2, h3⟩ => ⟨p, ys, h1, h2, h3.to⟩
theorem call_tuple_ofN : CallR X (.type "tuple") (fun xs H Q => ∃ p ys, xs = [.ref p] ∧ SqL X.K H p ys ∧ New H (.tup ys) Q) := call_weak call_tuple_of fun _ _ _ ⟨p, ys, h1, h2, h3⟩ => ⟨p, ys, h1, .inl ⟨h2, h3.to⟩⟩
theorem sl_listN : SlR X (fun x lo hi H Q => ∃ a xs, x = .ref a ∧ SqL X.K H a xs ∧ New H (.lst (cutV xs lo hi)) Q) := sl_weak sl_list fun _ _ _ _ _ ⟨a, xs, h1, h2, h3⟩ => ⟨a, xs, h1, h2, h3.to⟩
end
/-! ### data by its values -/
theorem dp_bls {K : PySem.W.Frag} {H : Hp} : ∀ bs : List Bool, DpAll K H (bs.map V.bl) (bs.map PyData.bool)
  | [] => .nil
  | b :: r => .cons (.bl b) (dp_bls r)
theorem dp_ints {K : PySem.W.Frag} {H : Hp} : ∀ ns : List Int, DpAll K H (ns.map V.int) (ns.map PyData.int)
  | [] => .nil
  | b :: r => .cons (.int b) (dp_ints r)
/-- flat data: numbers, truths, None -/
def flatD : PyData → Bool
  | .none | .bool _ | .int _ => true
  | _ => false
theorem flat_lay : ∀ ds : List PyData, ds.all flatD = true → PyData.canLayAll0 ds = true
  | [], _ => rfl
  | d :: r, h => by
    rw [List.all_cons, Bool.and_eq_true] at h
    show (PyData.canLay0 d && PyData.canLayAll0 r) = true
    rw [flat_lay r h.2, Bool.and_true]
    cases d <;> first | rfl | exact Bool.noConfusion h.1
theorem flat_depth : ∀ ds : List PyData, ds.all flatD = true → PyData.depthAll ds ≤ 1
  | [], _ => by decide
  | d :: r, h => by
    rw [List.all_cons, Bool.and_eq_true] at h
    have ih := flat_depth r h.2
    have hd : PyData.depth d ≤ 1 := by
      cases d <;> first | decide | exact Bool.noConfusion h.1 | exact Nat.zero_le _ | exact Nat.le_refl _
    show Nat.max (PyData.depth d) (PyData.depthAll r) ≤ 1
    exact Nat.max_le.mpr ⟨hd, ih⟩
theorem shaped_list {ds : List PyData} (h : ds.all flatD = true) : SeqAt.shaped (.list ds) = true := by
  have e := flat_depth ds h
  have e2 : PyData.depth (.list ds) ≤ 64 := by
    show PyData.depthAll ds + 1 ≤ 64
    omega
  show (PyData.canLayAll0 ds && decide (PyData.depth (.list ds) ≤ 64)) = true
  rw [flat_lay ds h, decide_eq_true e2]
  rfl
theorem shaped_tuple {ds : List PyData} (h : ds.all flatD = true) : SeqAt.shaped (.tuple ds) = true := by
  have e := flat_depth ds h
  have e2 : PyData.depth (.tuple ds) ≤ 64 := by
    show PyData.depthAll ds + 1 ≤ 64
    omega
  show (PyData.canLayAll0 ds && decide (PyData.depth (.tuple ds) ≤ 64)) = true
  rw [flat_lay ds h, decide_eq_true e2]
  rfl
theorem flat_bls (bs : List Bool) : (bs.map PyData.bool).all flatD = true := by
  rw [List.all_map, List.all_eq_true]
  exact fun _ _ => rfl
theorem flat_ints (ns : List Int) : (ns.map PyData.int).all flatD = true := by
  rw [List.all_map, List.all_eq_true]
  exact fun _ _ => rfl
theorem eqv_self {d : PyData} (h : SeqAt.shaped d = true) : PyData.eqv d d = true := SeqAt.eqv_refl d (SeqAt.canLay_of_shaped h)
end Nw
namespace Nw
open PySem PySem.Spec PyProof.Rows L2
section
variable {X : Cx}
theorem cr_sortedN : CallR X (.builtin "sorted") (fun vs H Q => ∃ (a : Addr) (ns : List Int), vs = [V.ref a] ∧ SqL X.K H a (ns.map V.int) ∧ ∀ ns' : List Int, ns'.Perm ns → ns'.Pairwise (· ≤ ·) → New H (.lst (ns'.map V.int)) Q) :=
  call_weak cr_sortedI fun _ _ _ ⟨a, ns, h1, h2, h3⟩ => ⟨a, ns, h1, h2, fun ns' p hp hs np => (h3 ns' hp hs).to p np⟩
theorem cutV_all {xs : List V} {lo hi : Option Int} (h : HT.sIx xs.length 0 lo = 0 ∧ HT.sIx xs.length xs.length hi = xs.length) : cutV xs lo hi = xs := by
  unfold cutV
  rw [h.1, h.2]
  exact List.take_length
theorem sl_tupN : SlR X (fun x lo hi H Q => ∃ a xs, x = .ref a ∧ H a = some (.tup xs) ∧ ResT H (cutV xs lo hi) Q) := sl_weak sl_tupA fun _ lo hi H Q ⟨a, xs, h1, h2, h3⟩ =>
  ⟨a, xs, h1, .of h2, fun z => h3 a H (Same.refl H) (by rw [cutV_all z]; exact h2), fun _ p np => h3 p _ (same_new np) upd_same⟩
theorem op_catTN : OpR X (binaryOp .Add) (fun x y H Q => ∃ a b xs ys, x = .ref a ∧ y = .ref b ∧ H a = some (.tup xs) ∧ H b = some (.tup ys) ∧ xs.length + ys.length ≤ sizeLine ∧ ResT H (xs ++ ys) Q) :=
  op_weak op_catA fun _ _ H Q ⟨a, b, xs, ys, h1, h2, h3, h4, h5, h6⟩ => ⟨a, b, xs, ys, h1, h2, .of h3, .of h4, h5, fun z => h6 b H (Same.refl H) (by rw [z]; exact h4), fun _ z => h6 a H (Same.refl H) (by rw [z, List.append_nil]; exact h3), fun _ _ p np => h6 p _ (same_new np) upd_same⟩
theorem op_repTN : OpR X (binaryOp .Mult) (fun x y H Q => ∃ l k xs, x = .ref l ∧ y = .int k ∧ H l = some (.tup xs) ∧ xs ≠ [] ∧ 2 ≤ k ∧ k ≤ 1000 ∧ xs.length ≤ 1000 ∧ ResT H (List.replicate k.toNat xs).flatten Q) :=
  op_weak op_repT fun _ _ H Q ⟨l, k, xs, h1, h2, h3, h4, h5, h6, h7, h8⟩ => ⟨l, k, xs, h1, h2, .of h3, h4, h5, h6, h7, fun p np => h8 p _ (same_new np) upd_same⟩
/-! the same rules with the written part by its name (for comprehensions' blocks) -/
variable {K : PySem.W.Frag}
theorem ix_tupB (h : X.K = K) : IxR X (rIxT K) := by subst h; exact ix_tup
theorem ix_listB (h : X.K = K) : IxR X (rIxL K) := by subst h; exact ix_list
theorem op_in_seqB (h : X.K = K) : OpR X (compareOp .In) (rIn K false) := by subst h; exact op_in_seq
theorem op_notIn_seqB (h : X.K = K) : OpR X (compareOp .NotIn) (rIn K true) := by subst h; exact op_notIn_seq
theorem call_len_seqB (h : X.K = K) : CallR X (.builtin "len") (fun xs H Q => ∃ p ys, xs = [.ref p] ∧ (SqL K H p ys ∨ SqT K H p ys) ∧ Q (.int ys.length) H) := by subst h; exact call_len_seq
theorem call_isiB (h : X.K = K) : CallR X (.builtin "isinstance") (rIsi K) := by subst h; exact call_isi
theorem op_eqDB (h : X.K = K) (hu : X.A.units + 64 < cLine) : OpR X (compareOp .Eq) (rEqD K) := by subst h; exact op_eqD hu
theorem op_neDB (h : X.K = K) (hu : X.A.units + 64 < cLine) : OpR X (compareOp .NotEq) (rNeD K) := by subst h; exact op_neD hu
end
end Nw
namespace Ev1
open PySem PySem.Spec PyProof.Rows L2 Nw
/-! ### exceptions as values -/
/-- at a an exception of the class cls, its dict d -/
def ExV (cls : Value) (d : Option Addr) (a : Addr) : HO := .ext fun h => ∃ (oe : Obj) (vs : Array Value), h.get? a = some oe ∧ Zc cls d oe ∧ oe.data = .fields vs
/-- an exception that was made of the class cls, its dict d: it stands at a place of its own -/
def Made (H1 : Hp) (cls : Value) (d : Option Addr) (Q : VK) : Prop := ∀ a H3, H1 a = none → Same H1 H3 → H3 a = some (ExV cls d a) → Q (.ref a) H3
theorem pe_made {X : Cx} {e : Expr} {t : L2.St → Hp → XK → Prop} (m : PMk X e t) : PE X e (fun σ H Q => t σ H fun cls d H1 => Made H1 cls d Q) := by
  refine ⟨fun pins s σ H Q I h => thn (m pins s σ H _ I h) fun u s1 z => ?_⟩
  obtain ⟨a, oe, vs, sI, H1, cls, d, rfl, J, k, na, ha, hz, hd, _, ha1, os, ag, _, q⟩ := z
  have new : ObjOk X.prog X.w (upd H1 a (ExV cls d a)) s1.heap a (ExV cls d a) := ⟨⟨oe, vs, ha, hz, hd⟩, ⟨oe, ha⟩, fun h1 h2 ⟨o, v, y, r⟩ i => ⟨o, v, i o y, r⟩⟩
  exact ⟨.ref a, upd H1 a (ExV cls d a), J.call' (ch := []) os (Un.laidN k na ha1) (J.hok.laidN k ha1 new) ag (fun b y => absurd y (by simp)), rfl, q a _ ha1 (same_new ha1) upd_same⟩
/-- at a an exception of the class D, with the field at = y -/
def ExF (H : Hp) (a D : Addr) (y : V) : Prop := ∃ dx, H a = some (ExV (.ref D) (some dx) a) ∧ H dx = some (.xd [(("at" : Str), y)])
/-- at a an exception of the class D -/
def ExAt (H : Hp) (a D : Addr) : Prop := H a = some (ExO (.ref D) a) ∨ ∃ y, ExF H a D y
theorem ExF.same {H H' : Hp} {a D : Addr} {y : V} (h : ExF H a D y) (s : Same H H') : ExF H' a D y := by
  obtain ⟨dx, h1, h2⟩ := h
  exact ⟨dx, s _ _ h1, s _ _ h2⟩
theorem ExAt.same {H H' : Hp} {a D : Addr} (h : ExAt H a D) (s : Same H H') : ExAt H' a D := by
  rcases h with h | ⟨y, h⟩
  · exact .inl (s _ _ h)
  · exact .inr ⟨y, h.same s⟩
theorem notCls_of {o : Obj} {vs : Array Value} (hd : o.data = .fields vs) : PySem.W.notCls o = true := by
  unfold PySem.W.notCls
  rw [hd]
section
variable {X : Cx} {pins : List (Addr × Obj)} {σ : L2.St} {H : Hp} {s : Shared} {a D : Addr} {y : V}
theorem ExF.inst (I : Inv X pins σ H s) (h : ExF H a D y) : ∃ ox od u, PySem.W.InstAt s.heap a ox D (some od) ∧ PySem.W.lookIn "at" od = some (some u) ∧ RelV y u := by
  obtain ⟨dx, h1, h2⟩ := h
  have z1 : ObjOk X.prog X.w H s.heap a (.ext fun h => ∃ (oe : Obj) (vs : Array Value), h.get? a = some oe ∧ Zc (.ref D) (some dx) oe ∧ oe.data = .fields vs) := I.hok a _ h1
  obtain ⟨⟨oe, vs, ha, ⟨hc, hd⟩, hv⟩, _⟩ := z1
  have z2 : ObjOk X.prog X.w H s.heap dx (.xd [(("at" : Str), y)]) := I.hok dx _ h2
  obtain ⟨mA, hn, hr⟩ := z2
  obtain ⟨od, ho, hl⟩ := lookIn_ns hn
  have l : List.lookup ("at" : Str) [(("at" : Str), y)] = some y := by simp [List.lookup]
  obtain ⟨u, hu, ru⟩ := RelO.some_of (v := y) (o := mA "at") (by rw [← l]; exact hr "at")
  exact ⟨oe, od, u, ⟨ha, hc, notCls_of hv, by rw [hd]; exact ho⟩, by rw [hl, hu], ru⟩
theorem ExAt.inst (I : Inv X pins σ H s) (h : ExAt H a D) : ∃ ox od, PySem.W.InstAt s.heap a ox D od := by
  rcases h with h | ⟨y, h⟩
  · obtain ⟨⟨oe, vs, ha, ⟨hc, hd⟩, hv, _⟩, _⟩ := I.hok a _ h
    exact ⟨oe, none, ⟨ha, hc, notCls_of hv, by rw [hd]; exact trivial⟩⟩
  · obtain ⟨ox, od, _, J, _⟩ := h.inst I
    exact ⟨ox, some od, J⟩
end
/-- X(e), X an own class without own __init__ -/
def tExN (C : Addr) (te : TE) : TE := fun σ H Q => te σ H fun _ H1 => ∀ a H2, H1 a = none → Same H1 H2 → H2 a = some (ExO (.ref C) a) → Q (.ref a) H2
theorem pe_excN {X : Cx} {C : Addr} {bmB : List Value} {B newId initId : String} {x : Str} {e : Expr} {te : TE} {p pos : Pos} (F : ExcBaseFacts B newId initId bmB) (q : PySem.W.excIn X.K C bmB newId = true) (gC : X.mg x = some (.ref C)) (kC : PySem.W.keepIn X.K (.ref C) = true) (hg : Gl X x)
    (he : PE X e te) (hs : starEach [e] X.env = (false, eval e X.env) :: starEach [] X.env := by rfl) (hdb : (x == ("__debug__" : Str)) = false := by decide) : PE X (.Call (.Name x p) [e] [] pos) (tExN C te) :=
  pe_weak (pe_exc1 F q gC kC hg (pe_cl he) hs hdb) fun _ _ _ h => ⟨_, fun _ _ z a na => z a _ na (same_new na) upd_same, h⟩
/-- isinstance(e, c) of an exception -/
def rIsX (K : PySem.W.Frag) : List V → Hp → VK → Prop := fun xs H Q => ∃ (a D : Addr) (c : V) (cv : Value) (b : Bool), xs = [.ref a, c] ∧ ExAt H a D ∧ ExcC K D ∧ (∀ u, RelV c u → u = cv) ∧ PySem.W.kitOne K (.ref D) cv = some b ∧ Q (.bl b) H
theorem call_isX {X : Cx} : CallR X (.builtin "isinstance") (rIsX X.K) := by
  intro pins s σ H xs us Q I r h
  obtain ⟨a, D, c, cv, b, rfl, hE, C, hcv, e, q⟩ := h
  cases r with
  | cons rx rr =>
    cases rr with
    | cons rt rr =>
      cases rr
      cases rx
      have ec := hcv _ rt
      subst ec
      obtain ⟨ox, od, J⟩ := hE.inst I
      have cl : (PySem.W.clsIn X.K D).isSome = true := by
        obtain ⟨cd, hc, _⟩ := PySem.W.any_some C.hd
        rw [hc]
        rfl
      exact PySem.W.kia_one (PySem.W.kitx_exc cl C.hg C.hk C.hs C.ha C.hn C.ht C.hm) I.kIn J e (fun z => nomatch z) fun tk => ⟨.bl b, H, I.kept (t' := tk) fun _ _ z => z, rfl, q⟩
/-- e.at of an exception -/
def tAtX (K : PySem.W.Frag) (te : TE) : TE := fun σ H Q => te σ H fun x H1 => ∃ (a D : Addr) (y : V), x = .ref a ∧ ExF H1 a D y ∧ ExcC K D ∧ PySem.W.findIn K (.ref D) "at" = some none ∧ Q y H1
theorem pe_atX {X : Cx} {e : Expr} {te : TE} {pos : Pos} (he : PE X e te) (hb : attributeBase e "at" X.env (eval e X.env) = eval e X.env := by rfl) : PE X (.Attribute e "at" pos) (tAtX X.K te) := by
  refine ⟨fun pins s σ H Q I h => attr_of hb (thn (he.run pins s σ H _ I h) fun u s1 hh => ?_)⟩
  obtain ⟨x, H1, I1, rx, a, D, y, rfl, hE, C, nf, q⟩ := hh
  cases rx
  obtain ⟨ox, od, u, J, l, ru⟩ := hE.inst I1
  exact HandSPX.exc_get I1.kIn J C.hg C.hk C.hs (PySem.W.findObj_own C.hd nf rfl l) (handed_of ru) ⟨y, H1, I1.tok _, ru, q⟩
/-- the promise of «def __init__(self, at): self.at = at» -/
def spInit (K : PySem.W.Frag) : Sp := fun vs H Q _ => ∃ (a C : Addr) (y : V), vs = [.ref a, y] ∧ OexC K C ∧ PySem.W.findIn K (.ref C) "at" = some none ∧ H a = some (exo a C none) ∧
  ∀ dx, H dx = none → dx ≠ a → Q .non (upd (upd H dx (exd dx [(("at" : Str), y)])) a (exo a C (some dx)))
theorem del_new {H1 : Hp} {a dx : Addr} {o1 o2 o3 : HO} (na : H1 a = none) (ne : dx ≠ a) : del (upd (upd (upd H1 a o1) dx o2) a o3) a = upd H1 dx o2 := by
  funext b
  by_cases hb : b = a
  · subst hb
    rw [del_same, upd_ne (Ne.symm ne), na]
  · rw [del_ne hb, upd_ne hb]
    by_cases hd : b = dx
    · subst hd
      rw [upd_same, upd_same]
    · rw [upd_ne hd, upd_ne hd, upd_ne hb]
/-- what C(y) asks, C with that __init__: the exception and its field -/
theorem made_F {K : PySem.W.Frag} {C : Addr} {y : V} {H1 : Hp} {Q : VK} (T : OexC K C) (nf : PySem.W.findIn K (.ref C) "at" = some none) (h : ∀ a H2, H1 a = none → Same H1 H2 → ExF H2 a C y → Q (.ref a) H2) :
    [y].length ≤ 1000 ∧ ∀ a, H1 a = none → spInit K (.ref a :: ([y] ++ [])) (upd H1 a (exo a C none)) (fun v H2 => v = .non ∧ ∃ (d : Addr) (fs : List (Str × V)), H2 a = some (exo a C (some d)) ∧ H2 d = some (exd d fs) ∧ H1 d = none ∧
      Made (upd (del H2 a) d (.xd fs)) (Value.ref C) (some d) Q) (fun _ _ _ => False) := by
  refine ⟨by simp, fun a na => ⟨a, C, y, rfl, T, nf, upd_same, fun dx nd ne => ?_⟩⟩
  have nd1 : H1 dx = none := by
    rw [upd_ne ne] at nd
    exact nd
  refine ⟨rfl, dx, [(("at" : Str), y)], upd_same, by rw [upd_ne ne, upd_same], nd1, ?_⟩
  rw [del_new na ne, upd_upd]
  intro b H3 nb s3 e3
  have sd : Same H1 (upd H1 dx (.xd [(("at" : Str), y)])) := same_new nd1
  exact h b H3 (sd.free nb) (sd.trans s3) ⟨dx, e3, s3 _ _ upd_same⟩
end Ev1
namespace Gx
open PySem PySem.Spec PyProof.Rows L2 GxR
/-! ### any, all of a generator expression whose element is run by the layer's own rules -/
/-- the generator's frame running, awake under any | all -/
abbrev gCx (X : Cx) (ge : Expr) (s : Shared) (H : Hp) (cenv : Env) (it : Addr) (fp : List Addr) (pn : List (Addr × Obj)) : Cx :=
  { X with
    s_0 := s
    H_0 := H
    env := cenv
    outer := X.stack
    stack := cenv :: X.stack
    ex := fp
    fn := fun _ => false
    pn := pn
    xe := fun _ _ => False
    A := X.A.in1.in1.over (.compLoop ge 0 (.ref it) .none cenv) [] }
theorem room_gen {k : Nat} {X : Cx} {elt : Expr} {gs : List Comprehension} {scope : Scope} {pos : Pos} {s : Shared} {H : Hp} {cenv : Env} {it : Addr} {fp : List Addr} {pn : List (Addr × Obj)} (r : Room (k + 1) X.A) :
    Room k (gCx X (.GeneratorExp elt gs scope pos) s H cenv it fp pn).A := by
  refine ⟨r.hd, ?_, ?_⟩
  · have := r.dp
    show X.A.depth + 0 + 1 + 3 * k + 5 < recursionLimit
    omega
  · have := r.un
    show X.A.units + 1 + 1 + 0 + 3 + 16 * k + 200 < cLine
    omega
/-- gens, drawn and toks say nothing but that all are bare -/
theorem inv_gens {X : Cx} {pins : List (Addr × Obj)} {σ : L2.St} {H : Hp} {s s' : Shared} (I : Inv X pins σ H s) (hh : s'.heap = s.heap) (ho : s'.os = s.os) (hb : AllBare s'.gens) : Inv X pins σ H s' := by
  obtain ⟨h, g, d, t, o⟩ := s
  obtain ⟨h', g', d', t', o'⟩ := s'
  dsimp only at hh ho hb
  subst hh ho
  exact { ok := I.ok, os := I.os, bare := hb, base := I.base, loc := I.loc, cell := I.cell, free := I.free, freeC := I.freeC, pin := I.pin, hok := I.hok, len := I.len }
theorem bare_set {s : Shared} {g : Nat} {x : GenState} (h : AllBare s.gens) (hx : x.bare = true) : AllBare (s.setGen g x).gens := by
  intro y hy
  have hy' : y ∈ s.gens.setIfInBounds g x := hy
  obtain ⟨i, hi, e⟩ := Array.mem_iff_getElem.mp hy'
  by_cases hg : g = i
  · subst hg
    rw [Array.getElem_setIfInBounds_self] at e
    rw [← e]
    exact hx
  · rw [Array.getElem_setIfInBounds_ne (by simpa using hi) hg] at e
    rw [← e]
    exact h _ (Array.getElem_mem _)
section
variable {X : Cx} {pins : List (Addr × Obj)} {σ : L2.St} {H : Hp} {s : Shared}
/-- what the frame of the generator knows as it begins -/
theorem gen_start {ge : Expr} {scope : Scope} {own : List (Str × Nat)} {fp : List Addr} {it a : Addr} {code : Value} {go : Obj} {gs : Array GenState} {tk : Nat} {h5 : Heap} {m : Str → Option Value} (I : Inv X pins σ H s) (hc : X.calm = true) (ok : BlkOk X.N X.env.scope scope own) (hN : X.N.Nodup)
    (nc : ∀ y ∈ scope.names, y.2 ≠ .cell) (hfp : ∀ b ∈ fp, FpOk X pins H b ∧ b < s.heap.objs.size) (fr : (X.A.in1.in1.over (.compLoop ge 0 (.ref it) .none (genEnv scope (cloFrom X.env.cells scope.names []) s.heap.objs.size code builtinsNs X.env)) []).frames = some (genEnv scope (cloFrom X.env.cells scope.names []) s.heap.objs.size code builtinsNs X.env :: X.stack))
    (hg : AllBare gs) (kp : ∀ b o, s.heap.get? b = some o → h5.get? b = some o) (hns : h5.Ns s.heap.objs.size m) (ha : h5.get? a = some go) (ha1 : s.heap.objs.size < a) (hd : ∀ v, go.data ≠ .cell v) :
    Inv (gCx X ge s H (genEnv scope (cloFrom X.env.cells scope.names []) s.heap.objs.size code builtinsNs X.env) it fp [(a, go)]) [] (wipe σ (own.map (·.2))) H { s with gens := gs, toks := tk, heap := h5 } := by
  have cm : ∀ {y : Str} {c : Addr}, (cloFrom X.env.cells scope.names []).lookup y = some c → X.env.cells.lookup y = some c := fun {y c} e => by
    rcases cloFrom_mem (PySem.mem_of_lookup e) with z | ⟨h1, z⟩
    · cases z
    · have q : ∃ c', X.env.cells.lookup y = some c' := by
        rcases ok.free (y, .free) h1 rfl with k | k
        · exact I.ok.has y (.inl k)
        · exact I.ok.has y (.inr k)
      obtain ⟨c', q⟩ := q
      rw [q] at z
      rw [q, z]
      rfl
  have ch : ∀ {y : Str}, scope.names.lookup y = some .free → ∃ c, (cloFrom X.env.cells scope.names []).lookup y = some c := fun {y} e => mem_lookup (cloFrom_has (PySem.mem_of_lookup e))
  have noc : ∀ {y : Str}, scope.names.lookup y ≠ some .cell := fun {y} e => nc _ (PySem.mem_of_lookup e) rfl
  have stL : ∀ b ∈ frs X.stack, b < s.heap.objs.size := fun b hb => by
    obtain ⟨_, o, e, _⟩ := I.stack.mem hb
    exact Heap.lt_size e
  have okG : (gCx X ge s H (genEnv scope (cloFrom X.env.cells scope.names []) s.heap.objs.size code builtinsNs X.env) it fp [(a, go)]).Ok := {
    mod := I.ok.mod
    kind := ok.kind
    glob := I.ok.glob
    blt := rfl
    above := Nat.le_refl _
    inj := fun x y c h1 h2 => I.ok.inj x y c (cm h1) (cm h2)
    has := fun x h => h.elim (fun k => absurd k noc) fun k => ch k
    cab := fun x c h => Bool.noConfusion h
    hd := fun h => I.ok.hd h
    frames := fr
    stk := .inr ⟨rfl, rfl⟩
    exf := fun b hb => ⟨Nat.ne_of_lt (hfp b hb).2, fun x c e => (hfp b hb).1.2.2.2.2.1 x c (cm e)⟩
    bs := I.bs
    bsz := Nat.le_trans I.ok.bsz I.sz
    noex := fun b o e hb => by
      rcases (hfp b hb).1.2.2.2.1 with z | z
      · exact I.ok.noex b o e z
      · exact Nat.lt_irrefl _ (Nat.lt_of_lt_of_le (Heap.lt_size e) (Nat.le_trans I.ok.bsz z))
    exfs := fun b hb z => by
      rcases List.mem_cons.mp (I.stkSub b z) with y | y
      · exact (hfp b hb).1.2.1 y
      · exact (hfp b hb).1.2.2.1 y
    funs := I.stack
    frf := I.stkFree }
  refine { ok := okG, os := rfl, bare := hg, base := Un.kept kp, loc := ⟨m, hns, fun i x v e1 e2 e3 => ?_⟩, cell := fun x c e => ?_, free := I.hok.fresh (Nat.le_refl _), freeC := fun x c e => I.freeC x c (cm e), pin := fun p hp => ?_, hok := I.hok.kept kp, len := (wipe_length _ _).trans I.len }
  · obtain ⟨e2, hi⟩ := wipe_some e2
    have hf : scope.names.lookup x = some .free := by
      have no : ∀ k, scope.names.lookup x = some k → ¬ (k = .local ∨ k = .cell) := fun k hk hh => by
        rcases ok.own _ (PySem.mem_of_lookup hk) hh with z | z
        · obtain ⟨p, hp, hx⟩ := List.mem_map.mp z
          have q := ok.ix p hp
          have hx' : p.1 = x := hx
          rw [hx'] at q
          exact hi (List.mem_map.mpr ⟨p, hp, nodup_ix hN q e1⟩)
        · exact z (List.mem_of_getElem? e1)
      have e3 : Vis scope x := e3
      rcases e3 with k | k | k
      · exact absurd (.inl rfl) (no _ k)
      · exact absurd (.inr rfl) (no _ k)
      · exact k
    have hv := ok.free _ (PySem.mem_of_lookup hf) rfl
    obtain ⟨m0, _, hl⟩ := I.loc
    obtain ⟨u, ru, q⟩ := hl i x v e1 e2 (.inr hv)
    refine ⟨u, ru, .inr ⟨.inr hf, ?_⟩⟩
    rcases q with ⟨k, _⟩ | ⟨_, c, ec, z⟩
    · have k' : X.env.scope.names.lookup x = some .local := k
      rcases hv with y | y
      · have y' : X.env.scope.names.lookup x = some .cell := y
        rw [k'] at y'
        cases y'
      · have y' : X.env.scope.names.lookup x = some .free := y
        rw [k'] at y'
        cases y'
    · obtain ⟨c', e'⟩ := ch hf
      have e2 := cm e'
      rw [ec] at e2
      cases e2
      exact ⟨c, e', z.keeps kp⟩
  · obtain ⟨v, z⟩ := I.cell x c (cm e)
    exact ⟨v, z.keeps kp⟩
  · have hp' : p ∈ [(a, go)] ++ ([] : List (Addr × Obj)) := hp
    have e : p = (a, go) := by simpa using hp'
    subst e
    refine ⟨ha, I.hok.fresh (Nat.le_of_lt ha1), Nat.ne_of_gt ha1, fun z => ?_, hd⟩
    exact Nat.lt_irrefl _ (Nat.lt_trans (stL _ z) ha1)
end
/-- what a turn's way through the generator must reach. stopb: the truth at which any (true), all (false) stops -/
def GEndP (Y : Cx) (σw : L2.St) (stopb : Bool) (Q : VK) : Nat → Shared → Shared → Prop := fun _ _ s => ∃ H', Inv Y [] σw H' s ∧ Q (.bl (!stopb)) H'
def GProto (Y : Cx) (σw : L2.St) (fp : List Addr) (tn : Nat → Heap → Prop) (W : Nat → Nat → Hp → Prop) (stopb : Bool) (Q : VK) : Protocol := fun n _ v s kap => ∃ (k : Bool) (H' : Hp), v = .bool k ∧ Inv Y [] σw H' s ∧
  ((k = stopb ∧ Q (.bl stopb) H') ∨ (k = !stopb ∧ ∃ i m, m < n ∧ W i m H' ∧ ∀ s'' : Shared, s''.heap = s.heap → s''.os = s.os → AllBare s''.gens → kap (.send .none) s''))
section
variable {X : Cx} {elt tg iter : Expr} {ifs : List Expr} {scope : Scope} {gpos : Pos} {s4 : Shared} {H4 : Hp} {cenv : Env} {it : Addr} {fp : List Addr} {pn : List (Addr × Obj)} {J : It} {tn : Nat → Heap → Prop} {g : TG} {tt : TT} {te : TE} {own : List Nat} {σ : L2.St} {stopb : Bool} {Q : VK} {W : Nat → Nat → Hp → Prop}
/-- the turns of the generator's own loop -/
theorem gen_loop (hc : X.calm = true) (hco : cenv.scope.isCoroutine = false) (T : Turn X.prog X.w X.K tg J fp it tn) (hpn : ∀ p ∈ pn, ∀ b ∈ fp, p.1 ≠ b)
    (pg : PG (gCx X (.GeneratorExp elt [⟨tg, iter, ifs, 0⟩] scope gpos) s4 H4 cenv it fp pn) tg g) (pt : PTs (gCx X (.GeneratorExp elt [⟨tg, iter, ifs, 0⟩] scope gpos) s4 H4 cenv it fp pn) ifs tt) (pe : PE (gCx X (.GeneratorExp elt [⟨tg, iter, ifs, 0⟩] scope gpos) s4 H4 cenv it fp pn) elt te)
    (turn : ∀ i m H, W i m H → (J.stop i H ∧ Q (.bl (!stopb)) H) ∨ (J.go i H ∧ ∃ Nx : Hp → Prop, (∀ H', Nx H' → ∃ m', m' < m ∧ W (i + 1) m' H') ∧ ∀ x H', J.yld i H x H' → g x (wipe σ own) H' fun σ2 H2 => wipe σ2 own = wipe σ own ∧ tt σ2 H2 fun b H3 =>
      if b = true then te σ2 H3 fun y H4 => (y = .bl stopb ∧ Q (.bl stopb) H4) ∨ (y = .bl (!stopb) ∧ Nx H4) else Nx H3)) :
    ∀ (m n i : Nat) (s0 s : Shared) (H' : Hp), m < n → W i m H' → Inv (gCx X (.GeneratorExp elt [⟨tg, iter, ifs, 0⟩] scope gpos) s4 H4 cenv it fp pn) [] (wipe σ own) H' s → tn i s.heap → (∀ b ∈ fp, H' b = none) →
      Seg (model X.prog X.w) X.A.in1.in1 (fun n s0 r s1 => r = .ok .next ∧ GEndP (gCx X (.GeneratorExp elt [⟨tg, iter, ifs, 0⟩] scope gpos) s4 H4 cenv it fp pn) (wipe σ own) stopb Q n s0 s1)
        (GProto (gCx X (.GeneratorExp elt [⟨tg, iter, ifs, 0⟩] scope gpos) s4 H4 cenv it fp pn) (wipe σ own) fp tn W stopb Q) n s0
        (.compLoop (.GeneratorExp elt [⟨tg, iter, ifs, 0⟩] scope gpos) 0 (.ref it) .none cenv) ((model X.prog X.w).den (.compLoop (.GeneratorExp elt [⟨tg, iter, ifs, 0⟩] scope gpos) 0 (.ref it) .none cenv)) [] s := by
  intro m
  induction m using Nat.strongRecOn with
  | ind m ih =>
    intro n i s0 s H' hmn w I st nf
    have fpk : ∀ {σ' : L2.St} {H' : Hp} {s' : Shared}, Inv (gCx X (.GeneratorExp elt [⟨tg, iter, ifs, 0⟩] scope gpos) s4 H4 cenv it fp pn) [] σ' H' s' → (∀ b ∈ fp, H' b = none) → ∀ b ∈ fp, FpOk (gCx X (.GeneratorExp elt [⟨tg, iter, ifs, 0⟩] scope gpos) s4 H4 cenv it fp pn) [] H' b := fun {σ' H' s'} I' hn b hb =>
      ⟨hn b hb, (I'.ok.exf b hb).1, I'.ok.exfs b hb, .inl hb, (I'.ok.exf b hb).2, fun p hp => hpn p (by simpa using hp) b hb⟩
    show Seg _ _ _ _ n s0 _ ((compTurn (.GeneratorExp elt [⟨tg, iter, ifs, 0⟩] scope gpos) 0 (.ref it) .none cenv).onRaise (leaving cenv)) [] s
    rw [compTurn_gen, Sem.onRaise_eq_wrap]
    refine seg_bind_wrap (wpAny_standAt ?_)
    rcases turn i m H' w with ⟨stop, q⟩ | ⟨go, Nx, hNx, step⟩
    · refine seg_bind_wrap (thnF (T.done (gCx X (.GeneratorExp elt [⟨tg, iter, ifs, 0⟩] scope gpos) s4 H4 cenv it fp pn) rfl rfl rfl hc i [] s _ H' (fun _ _ => False) I (fpk I nf) st stop) fun r s1 z => ?_)
      obtain ⟨rfl, I1⟩ := z
      exact seg_end (.ok .next) ⟨rfl, H', I1, q⟩
    · refine seg_bind_wrap (thnF (T.item (gCx X (.GeneratorExp elt [⟨tg, iter, ifs, 0⟩] scope gpos) s4 H4 cenv it fp pn) rfl rfl rfl hc i [] s _ H' (fun _ _ => False) I (fpk I nf) st go) fun r s1 z => ?_)
      obtain ⟨u, rfl, z⟩ := z
      refine seg_bind_wrap (thnF z fun _ s2 z2 => ?_)
      obtain ⟨x, H2, I2, r2, y2, st2, n2⟩ := z2
      have P2 := I2.pinned (fpk I2 n2) (T.obj _ _ st2)
      refine seg_bind_wrap (thnF (pg.run _ s2 _ H2 x u _ P2 r2 (step x H2 y2)) fun _ s3 z3 => ?_)
      obtain ⟨σ3, H3, I3, hw, q3⟩ := z3
      refine seg_bind_wrap (thnF (pt.run _ s3 σ3 H3 _ I3 q3) fun b sb zb => ?_)
      obtain ⟨Hb, Ib, qb⟩ := zb
      have back : ∀ {s' : Shared} {H' : Hp}, Inv (gCx X (.GeneratorExp elt [⟨tg, iter, ifs, 0⟩] scope gpos) s4 H4 cenv it fp pn) ([] ++ pinsAt fp s2.heap) σ3 H' s' →
          Inv (gCx X (.GeneratorExp elt [⟨tg, iter, ifs, 0⟩] scope gpos) s4 H4 cenv it fp pn) [] (wipe σ own) H' s' ∧ tn (i + 1) s'.heap ∧ ∀ b ∈ fp, H' b = none := fun {s' H'} I' => by
        have pin' : ∀ b ∈ fp, ∀ o, s2.heap.get? b = some o → s'.heap.get? b = some o ∧ H' b = none := fun b hb o e =>
          have y := I'.pin (b, o) (List.mem_append_right _ (List.mem_append_right _ (mem_pinsAt hb e)))
          ⟨y.1, y.2.1⟩
        have hl : (wipe σ own).length = σ3.length := by
          rw [← hw, wipe_length]
        refine ⟨(I'.unpinned (pins := [])).weak hl (fun j v e => ?_), T.keep _ _ _ st2 (fun b hb o e => (pin' b hb o e).1), fun b hb => ?_⟩
        · rw [← hw] at e
          exact (wipe_some e).1
        · obtain ⟨o, e, _⟩ := T.obj _ _ st2 b hb
          exact (pin' b hb o e).2
      cases b with
      | false =>
        simp only [Bool.false_eq_true, if_false] at qb ⊢
        obtain ⟨m', hm, w'⟩ := hNx _ qb
        obtain ⟨I', st', n'⟩ := back Ib
        exact seg_again rfl (ih m' hm n (i + 1) s0 sb Hb (Nat.lt_trans hm hmn) w' I' st' n')
      | true =>
        simp only [if_true] at qb ⊢
        have hy : ∀ v, yieldOut cenv v = yieldValue v := fun v => by simp only [yieldOut, hco, Bool.false_eq_true, if_false]
        simp only [hy]
        rw [Sem.bind_eq_wrap', Sem.bind_eq_wrap', Sem.wrap_wrap, Sem.wrap_wrap]
        refine seg_wrap (thnF (pe.run _ sb σ3 Hb _ Ib qb) fun z sy zy => ?_)
        obtain ⟨v, Hy, Iy, ry, qy⟩ := zy
        obtain ⟨I', st', n'⟩ := back Iy
        obtain ⟨n1, rfl⟩ : ∃ n1, n = n1 + 1 := ⟨n - 1, by omega⟩
        refine seg_at (seg_yield rfl rfl rfl ?_)
        rcases qy with ⟨rfl, q⟩ | ⟨rfl, q⟩
        · cases ry
          exact ⟨stopb, Hy, rfl, I', .inl ⟨rfl, q⟩⟩
        · cases ry
          obtain ⟨m', hm, w'⟩ := hNx _ q
          refine ⟨!stopb, Hy, rfl, I', .inr ⟨rfl, i + 1, m', by omega, w', fun s'' hh ho hb => ?_⟩⟩
          exact seg_again rfl (ih m' hm n1 (i + 1) s'' s'' Hy (by omega) w' (inv_gens I' hh ho hb) (by rw [hh]; exact st') n')
/-- the start of the generator's code -/
theorem gen_begin {n : Nat} {s0 s : Shared} {R : GenEnd} {Y : Protocol} (T : Turn X.prog X.w X.K tg J fp it tn) (st : tn 0 s.heap)
    (loop : Seg (model X.prog X.w) X.A.in1.in1 R Y n s0 (.compLoop (.GeneratorExp elt [⟨tg, iter, ifs, 0⟩] scope gpos) 0 (.ref it) .none cenv) ((model X.prog X.w).den (.compLoop (.GeneratorExp elt [⟨tg, iter, ifs, 0⟩] scope gpos) 0 (.ref it) .none cenv)) [] s) :
    Seg (model X.prog X.w) X.A.in1.in1 R Y n s0 (.compStart (.GeneratorExp elt [⟨tg, iter, ifs, 0⟩] scope gpos) 0 (.ref it) .none cenv) ((model X.prog X.w).den (.compStart (.GeneratorExp elt [⟨tg, iter, ifs, 0⟩] scope gpos) 0 (.ref it) .none cenv)) [] s := by
  show Seg _ _ _ _ n s0 _ ((compStart (.GeneratorExp elt [⟨tg, iter, ifs, 0⟩] scope gpos) 0 (.ref it) .none cenv).onRaise (leaving cenv)) [] s
  unfold compStart
  rw [Sem.onRaise_eq_wrap]
  refine seg_bind_wrap (wpAny_askSetting ?_)
  split
  · exact seg_again rfl loop
  · refine seg_bind_wrap (wpAny_rule ?_)
    show Seg _ _ _ _ n s0 _ ((standAt iter.pos >>= _).wrap _ _ _ _) [] s
    refine seg_bind_wrap (wpAny_standAt (seg_bind_wrap ?_))
    exact T.self _ 0 s _ _ st (seg_again rfl loop)
end
/-- the generator at a, number gn, is asleep (or fresh), with n turns at most -/
def Asleep (X Y : Cx) (σw : L2.St) (fp : List Addr) (tn : Nat → Heap → Prop) (W : Nat → Nat → Hp → Prop) (stopb : Bool) (Q : VK) (gn n : Nat) (s : Shared) : Prop :=
  ∃ (gs : GenState) (H' : Hp), s.gens[gn]? = some gs ∧ Inv Y [] σw H' s ∧ ∀ s'' : Shared, s''.heap = s.heap → s''.os = s.os → AllBare s''.gens →
    gs.Goes (model X.prog X.w) X.A.in1.in1 (fun n s0 r s1 => r = .ok .next ∧ GEndP Y σw stopb Q n s0 s1) (GProto Y σw fp tn W stopb Q) n (.send .none) s''
section
variable {X Y : Cx} {σw : L2.St} {fp : List Addr} {tn : Nat → Heap → Prop} {W : Nat → Nat → Hp → Prop} {Q : VK} {gn : Nat} {a : Addr} {go : Obj} {R : Result → Shared → Prop}
theorem set_at {s : Shared} {x : GenState} (h : gn < s.gens.size) : (s.setGen gn x).gens[gn]? = some x := by
  show (s.gens.setIfInBounds gn x)[gn]? = some x
  rw [Array.getElem?_setIfInBounds_self_of_lt h]
/-- one waking of the generator -/
theorem wake {stopb : Bool} {n : Nat} {s : Shared} {Q' : Option Value → Shared → Prop} {E : Value → Shared → Prop} (hh : X.A.handled = none) (hroom : X.A.depth < recursionLimit) (hp : (a, go) ∈ Y.pn) (hgo : ∀ h : Heap, h.get? a = some go → h.IsGen a gn) (S : Asleep X Y σw fp tn W stopb Q gn n s)
    (stop : ∀ s' H', Inv Y [] σw H' s' → Q (.bl stopb) H' → Q' (some (.bool stopb)) s') (next : ∀ s' m, m < n → Asleep X Y σw fp tn W stopb Q gn m s' → Q' (some (.bool (!stopb))) s') (done : ∀ s' H', Inv Y [] σw H' s' → Q (.bl (!stopb)) H' → Q' none s') :
    wpAny (model X.prog X.w) X.A.in1 (pyNext (.ref a)) Q' E s := by
  obtain ⟨gs, H', hg, I, hG⟩ := S
  have hlt : gn < s.gens.size := by
    rcases Nat.lt_or_ge gn s.gens.size with z | z
    · exact z
    · rw [Array.getElem?_eq_none z] at hg
      cases hg
  have ig : s.heap.IsGen a gn := hgo _ (I.pin (a, go) (List.mem_append_left _ hp)).1
  refine GenW.wpAny_gsz (n := s.gens.size) (Nat.le_refl _) ?_
  refine wpAny_pyNext_genexpQ (A := X.A.in1) hh I.nolimit hroom ig hg (hG _ rfl rfl (bare_set I.bare rfl)) (fun v s1 gs' hb hv sz => ?_) (fun s1 hp1 h' hk sz => ?_)
  · obtain ⟨k, H1, rfl, I1, z⟩ := hv
    have sz1 : gn < s1.gens.size := by
      have e : (s1.setGen gn gs').gens.size = s1.gens.size := GenW.setGen_size _ _ _
      rw [e] at sz
      omega
    have I2 : Inv Y [] σw H1 (s1.setGen gn gs') := inv_gens I1 rfl rfl (bare_set I1.bare hb)
    rcases z with ⟨rfl, q⟩ | ⟨rfl, i, m, hm, w, kap⟩
    · exact stop _ H1 I2 q
    · cases n with
      | zero => omega
      | succ n1 =>
        refine next _ n1 (Nat.lt_succ_self _) ⟨gs', H1, set_at sz1, I2, fun s'' h1 h2 h3 => ?_⟩
        exact kap s'' h1 h2 h3
  · obtain ⟨H1, I1, q⟩ := hp1
    refine done _ H1 ?_ q
    have I2 : Inv Y [] σw H1 (s1.setGen gn .finished) := inv_gens I1 rfl rfl (bare_set I1.bare rfl)
    exact I2.kept (h' := h') (t' := s1.toks) fun b o e => hk b o e
theorem any_loop (hh : X.A.handled = none) (hroom : X.A.depth < recursionLimit) (hp : (a, go) ∈ Y.pn) (hgo : ∀ h : Heap, h.get? a = some go → h.IsGen a gn)
    (fin : ∀ s' H' b, Inv Y [] σw H' s' → Q (.bl b) H' → R (.ok (.ret (.bool b))) s') : ∀ (n : Nat) (s : Shared), Asleep X Y σw fp tn W true Q gn n s → codeAny (model X.prog X.w) X.A (.builtin "any.loop" ⟨[.ref a], []⟩) R s := by
  intro n
  induction n using Nat.strongRecOn with
  | ind n ih =>
    intro s S
    refine codeAny_builtin F.entry_any_loop ?_
    rw [Around.under_plainId F.plain_any_loop _]
    show wpAny _ X.A.in1 (pyNext (.ref a) >>= _) _ _ s
    refine wpAny_bind (wake hh hroom hp hgo S (fun s' H' I q => ?_) (fun s' m hm S' => ?_) (fun s' H' I q => ?_))
    · refine wpAny_bind (wpAny_holding (wpAny_truthy_bool (wpAny_bind (wpAny_letGo ?_))))
      simp only [if_true]
      exact wpAny_bind (wpAny_rule (wpAny_pure (fin s' H' true I q)))
    · refine wpAny_bind (wpAny_holding (wpAny_truthy_bool (wpAny_bind (wpAny_letGo ?_))))
      simp only [Bool.not_true, Bool.false_eq_true, if_false]
      exact wpAny_pure ⟨plainId_quiet F.plain_any_loop _, ih m hm s' S'⟩
    · exact wpAny_bind (wpAny_rule (wpAny_pure (fin s' H' false I q)))
theorem all_loop (hh : X.A.handled = none) (hroom : X.A.depth < recursionLimit) (hp : (a, go) ∈ Y.pn) (hgo : ∀ h : Heap, h.get? a = some go → h.IsGen a gn)
    (fin : ∀ s' H' b, Inv Y [] σw H' s' → Q (.bl b) H' → R (.ok (.ret (.bool b))) s') : ∀ (n : Nat) (s : Shared), Asleep X Y σw fp tn W false Q gn n s → codeAny (model X.prog X.w) X.A (.builtin "all.loop" ⟨[.ref a], []⟩) R s := by
  intro n
  induction n using Nat.strongRecOn with
  | ind n ih =>
    intro s S
    refine codeAny_builtin F.entry_all_loop ?_
    rw [Around.under_plainId F.plain_all_loop _]
    show wpAny _ X.A.in1 (pyNext (.ref a) >>= _) _ _ s
    refine wpAny_bind (wake hh hroom hp hgo S (fun s' H' I q => ?_) (fun s' m hm S' => ?_) (fun s' H' I q => ?_))
    · refine wpAny_bind (wpAny_holding (wpAny_truthy_bool (wpAny_bind (wpAny_letGo ?_))))
      simp only [Bool.false_eq_true, if_false]
      exact wpAny_bind (wpAny_rule (wpAny_pure (fin s' H' false I q)))
    · refine wpAny_bind (wpAny_holding (wpAny_truthy_bool (wpAny_bind (wpAny_letGo ?_))))
      simp only [Bool.not_false, if_true]
      exact wpAny_pure ⟨plainId_quiet F.plain_all_loop _, ih m hm s' S'⟩
    · exact wpAny_bind (wpAny_rule (wpAny_pure (fin s' H' true I q)))
end
/-- any(elt for target in iter if ..) (stopb true), all(..) (stopb false): W by the turn and a measure, Nx what a turn is to reach; P: the def's table of code objects -/
def tAA (P : Addr) (stopb : Bool) (wi : TI) (g : TG) (tt : TT) (te : TE) (vs : List Nat) : TE := fun σ H Q => wi σ H fun J H1 => TabG H1 P ∧ ∀ H2, Tabbed P H1 H2 → ∃ W : Nat → Nat → Hp → Prop, (∃ m, W 0 m H2) ∧
  ∀ i m H, W i m H → (J.stop i H ∧ Q (.bl (!stopb)) H) ∨ (J.go i H ∧ ∃ Nx : Hp → Prop, (∀ H', Nx H' → ∃ m', m' < m ∧ W (i + 1) m' H') ∧ ∀ x H', J.yld i H x H' → g x (wipe σ vs) H' fun σ2 H2 => wipe σ2 vs = wipe σ vs ∧ tt σ2 H2 fun b H3 =>
    if b = true then te σ2 H3 fun y H4 => (y = .bl stopb ∧ Q (.bl stopb) H4) ∨ (y = .bl (!stopb) ∧ Nx H4) else Nx H3)
/-- over a tuple that stays -/
theorem aa_tup {K : PySem.W.Frag} {a : Addr} {xs : List V} {g : TG} {tt : TT} {te : TE} {vs : List Nat} {σ : L2.St} {H1 : Hp} {stopb : Bool} {Q : VK} (Pv : Nat → Hp → Prop) (h0 : Pv 0 H1) (hl : ∀ i H, i ≤ xs.length → Pv i H → SqT K H a xs)
    (hs : ∀ i x H, xs[i]? = some x → Pv i H → g x (wipe σ vs) H fun σ2 H2 => wipe σ2 vs = wipe σ vs ∧ tt σ2 H2 fun b H3 => if b = true then te σ2 H3 fun y H4 => (y = .bl stopb ∧ Q (.bl stopb) H4) ∨ (y = .bl (!stopb) ∧ Pv (i + 1) H4) else Pv (i + 1) H3) (hd : ∀ H, Pv xs.length H → Q (.bl (!stopb)) H) :
    ∃ W : Nat → Nat → Hp → Prop, (∃ m, W 0 m H1) ∧ ∀ i m H, W i m H → ((Itt K a).stop i H ∧ Q (.bl (!stopb)) H) ∨ ((Itt K a).go i H ∧ ∃ Nx : Hp → Prop, (∀ H', Nx H' → ∃ m', m' < m ∧ W (i + 1) m' H') ∧ ∀ x H', (Itt K a).yld i H x H' → g x (wipe σ vs) H' fun σ2 H2 => wipe σ2 vs = wipe σ vs ∧ tt σ2 H2 fun b H3 =>
      if b = true then te σ2 H3 fun y H4 => (y = .bl stopb ∧ Q (.bl stopb) H4) ∨ (y = .bl (!stopb) ∧ Nx H4) else Nx H3) := by
  refine ⟨fun i m H => i + m = xs.length ∧ Pv i H, ⟨xs.length, Nat.zero_add _, h0⟩, fun i m H ⟨e, p⟩ => ?_⟩
  have sq := hl i H (by omega) p
  cases m with
  | zero =>
    have ei : i = xs.length := by omega
    subst ei
    exact .inl ⟨⟨xs, sq, Nat.le_refl _⟩, hd H p⟩
  | succ m =>
    have lt : i < xs.length := by omega
    refine .inr ⟨⟨xs, xs[i], sq, List.getElem?_eq_getElem lt⟩, Pv (i + 1), fun H' q => ⟨m, Nat.lt_succ_self m, by omega, q⟩, fun x H' y => ?_⟩
    obtain ⟨rfl, y⟩ := y
    exact hs i x _ (y xs sq) p
section
variable {X : Cx} {pins : List (Addr × Obj)} {σ : L2.St} {H : Hp} {s : Shared} {c P : Addr} {elt tg iter : Expr} {ifs : List Expr} {scope : Scope} {own : List (Str × Nat)} {gpos : Pos} {wi : TI} {g : TG} {tt : TT} {te : TE} {stopb : Bool} {k : Nat}
/-- the scope of a generator expression: no cells of its own -/
structure GSc (scope : Scope) : Prop where
  co : scope.isCoroutine = false
  nc : ∀ y ∈ scope.names, y.2 ≠ .cell
  dot : scope.names.lookup (".0" : Str) = some NameKind.local
theorem gen_make {Q : VK} {Q' : Value → Shared → Prop} (hr : Room k X.A) (hc : X.calm = true) (hN : X.N.Nodup) (TB : TabB X.base X.mg c P) (hcode : X.env.code = .ref c) (hi : PI X tg iter wi) (ok : BlkOk X.N X.env.scope scope own) (S : GSc scope)
    (hg : ∀ (s : Shared) (H : Hp) (C : Addr) (code : Value) (it : Addr) (fp : List Addr) (pn : List (Addr × Obj)), PG (gCx X (.GeneratorExp elt [⟨tg, iter, ifs, 0⟩] scope gpos) s H (genEnv scope (cloFrom X.env.cells scope.names []) C code builtinsNs X.env) it fp pn) tg g)
    (ht : ∀ (s : Shared) (H : Hp) (C : Addr) (code : Value) (it : Addr) (fp : List Addr) (pn : List (Addr × Obj)), PTs (gCx X (.GeneratorExp elt [⟨tg, iter, ifs, 0⟩] scope gpos) s H (genEnv scope (cloFrom X.env.cells scope.names []) C code builtinsNs X.env) it fp pn) ifs tt)
    (he : ∀ (s : Shared) (H : Hp) (C : Addr) (code : Value) (it : Addr) (fp : List Addr) (pn : List (Addr × Obj)), PE (gCx X (.GeneratorExp elt [⟨tg, iter, ifs, 0⟩] scope gpos) s H (genEnv scope (cloFrom X.env.cells scope.names []) C code builtinsNs X.env) it fp pn) elt te)
    (hs : ∀ x, genFold iter X.env x = pure x) (I : Inv X pins σ H s) (h : tAA P stopb wi g tt te (own.map (·.2)) σ H Q)
    (hQ : ∀ (a : Addr) (go : Obj) (gn n : Nat) (Y : Cx) (fp : List Addr) (tn : Nat → Heap → Prop) (W : Nat → Nat → Hp → Prop) (s5 : Shared), (a, go) ∈ Y.pn → (∀ h : Heap, h.get? a = some go → h.IsGen a gn) → (∀ s' H', Inv Y [] (wipe σ (own.map (·.2))) H' s' → Inv X pins σ H' s') → s5.heap.get? a = some go →
      Asleep X Y (wipe σ (own.map (·.2))) fp tn W stopb Q gn n s5 → Q' (.ref a) s5) :
    wpAny (model X.prog X.w) X.A (eval (.GeneratorExp elt [⟨tg, iter, ifs, 0⟩] scope gpos) X.env) Q' X.xe s := by
  have hfree : ∀ y ∈ scope.names, y.2 = .free → ∃ c, X.env.cells.lookup y.1 = some c := fun y hy e => by
    rcases ok.free y hy e with z | z
    · exact I.ok.has _ (.inl z)
    · exact I.ok.has _ (.inr z)
  refine wpAny_GeneratorExp_make S.co (closure_ok hfree) S.nc S.dot ok.kind (by have := hr.dp; omega) (thn (hi.run pins s σ H _ I h) fun xv s1 hx => thn hx fun itv s2 h2 => ?_) hs
  obtain ⟨it, fp, tn, J, H2, rfl, I2, T, st2, f2, ⟨ps, hP, hT⟩, q⟩ := h2
  have hPs : s2.heap.get? P = some { cls := .none, data := .fields ps } := I2.hok P _ hP
  have cd : PySem.W.CodeHd s2.heap c P := TB.code.keeps I2.bk
  have szf : ∀ b ∈ fp, b < s2.heap.objs.size := fun b hb => by
    obtain ⟨o, e, _⟩ := T.obj _ _ st2 b hb
    exact Heap.lt_size e
  have nP : ∀ b ∈ fp, b ≠ P := fun b hb z => by
    have e := (f2 b hb).1
    rw [z, hP] at e
    cases e
  refine ⟨I2.nolimit, ?_⟩
  have cont : ∀ (code : Value) (h3 : Heap) (tk : Nat) (more : Array Value), Heap.ExtBut P s2.heap h3 → s2.heap.objs.size ≤ h3.objs.size → h3.get? P = some { cls := .none, data := .fields (ps ++ more) } → TriplesOk (ps ++ more).toList →
      wpAny (model X.prog X.w) X.A (builtinsFor X.env.globals X.env.builtins) (fun bi s4 => ∀ h', h'.Ns s4.heap.objs.size (fun y => if y = ".0" then some (.ref it) else none) → Heap.SameBut s4.heap.objs.size (s4.heap.push { cls := .type "frame", data := .dict #[] }) h' →
        Q' (.ref h'.objs.size) { s4 with
          gens := s4.gens.push (.fresh (.compStart (.GeneratorExp elt [⟨tg, iter, ifs, 0⟩] scope gpos) 0 (.ref it) .none (genEnv scope (cloFrom X.env.cells scope.names []) s4.heap.objs.size code bi X.env))),
          toks := s4.toks + 1 + 1 + 1,
          heap := h'.push { cls := .type "generator", data := .fields #[.int s4.gens.size 0, .str "<genexpr>" (s4.toks + 1), .str (X.env.qual ++ "<genexpr>") (s4.toks + 1 + 1)] } }) X.xe { s2 with heap := h3, toks := tk } := by
    intro code h3 tk more hx hsz hP3 hT3
    obtain ⟨bm, ob, e1, e2, e3, e4, e5, e6, e7, e8⟩ := TB.bm
    have I3 : Inv X pins σ (upd H2 P (.tbl (ps ++ more))) { s2 with heap := h3, toks := tk } := inv_tab (g' := s2.gens) (d' := s2.drawn) (t' := tk) I2 hP (fun b o hb e => hx b o hb e) hP3 I2.bare
    have f3 : ∀ b ∈ fp, FpOk X pins (upd H2 P (.tbl (ps ++ more))) b ∧ b < h3.objs.size := fun b hb => ⟨⟨by rw [upd_ne (nP b hb)]; exact (f2 b hb).1, (f2 b hb).2⟩, Nat.lt_of_lt_of_le (szf b hb) hsz⟩
    have st3 : tn 0 h3 := T.keep _ _ _ st2 fun b hb o e => hx b o (nP b hb) e
    obtain ⟨W, ⟨m0, w0⟩, turn⟩ := q (upd H2 P (.tbl (ps ++ more))) ⟨⟨_, upd_same, hT3⟩, fun b hb => upd_ne hb⟩
    refine wpAny_builtinsFor (m := X.mg) (by rw [I3.ok.glob]; exact I3.mod.glob.keeps I3.bk) e1 e2 (hx _ _ e4 (I2.bk _ _ e5)) e6 e7 e8 ?_
    intro h' hn' hs'
    have hsz' : h'.objs.size = h3.objs.size + 1 := by
      rw [hs'.1]
      exact Heap.size_push ..
    have kp : ∀ b o, h3.get? b = some o → (h'.push { cls := .type "generator", data := .fields #[.int s2.gens.size 0, .str "<genexpr>" (tk + 1), .str (X.env.qual ++ "<genexpr>") (tk + 1 + 1)] }).get? b = some o := fun b o e =>
      Heap.get?_push_of_some _ (hs'.extBut b o (Nat.ne_of_lt (Heap.lt_size e)) (Heap.get?_push_of_some _ e))
    have st5 := T.keep _ _ _ st3 fun b hb o e => kp b o e
    have nf : ∀ b ∈ fp, (upd H2 P (.tbl (ps ++ more))) b = none := fun b hb => (f3 b hb).1.1
    have IG := gen_start (ge := .GeneratorExp elt [⟨tg, iter, ifs, 0⟩] scope gpos) (it := it) (code := code) (tk := tk + 1 + 1 + 1)
      (gs := s2.gens.push (.fresh (.compStart (.GeneratorExp elt [⟨tg, iter, ifs, 0⟩] scope gpos) 0 (.ref it) .none (genEnv scope (cloFrom X.env.cells scope.names []) h3.objs.size code builtinsNs X.env)))) I3 hc ok hN S.nc f3
      (by show pushEnvs [_] (pushEnvs [] X.A.frames) = _; rw [I.ok.frames]; rfl) (I2.bare.push rfl) kp (hn'.keeps fun b o e => Heap.get?_push_of_some _ e) (Heap.get?_push_size h' rfl) (show h3.objs.size < h'.objs.size by omega) (fun v z => by cases z)
    refine hQ h'.objs.size _ s2.gens.size (m0 + 1) _ fp tn W _ List.mem_cons_self (fun h0 e => ?_) (fun s' H' J' => ?_) (Heap.get?_push_size h' rfl) ⟨_, _, Array.getElem?_push_size .., IG, fun s'' h1 h2 h3' => ?_⟩
    · exact ⟨_, _, _, e, rfl, rfl, rfl⟩
    · exact I3.call' (ch := fp) J'.os J'.base J'.hok J'.bare fun b hb => ⟨(f3 b hb).1.2.2.2.1, (f3 b hb).1.2.1, (f3 b hb).1.2.2.2.2.1, (f3 b hb).1.2.2.2.2.2⟩
    · refine ⟨rfl, gen_begin T (by rw [h1]; exact st5) ?_⟩
      refine gen_loop hc S.co T (fun p hp b hb z => ?_) (hg _ _ _ _ _ _ _) (ht _ _ _ _ _ _ _) (he _ _ _ _ _ _ _) turn m0 (m0 + 1) 0 s'' s'' _ (Nat.lt_succ_self _) w0 (inv_gens IG h1 h2 h3') (by rw [h1]; exact st5) nf
      rw [List.mem_singleton.mp hp] at z
      have z1 := (f3 b hb).2
      rw [← z] at z1
      have z2 : h'.objs.size < h3.objs.size := z1
      omega
  cases hf : codeAmong gpos ps.toList with
  | none =>
    refine wpAny_genexprCodeX hcode (cd.code hPs hT) (cd.tab hPs) hf fun c' h' tk hx hge hlt hco' _ htab' _ => ?_
    have tr : TriplesOk (ps ++ #[rawInt gpos.line, rawInt gpos.col, Value.ref c']).toList := by
      obtain ⟨_, _, _, _, _, _, _, _, _, _, _, _, _, _, _, _, _, _, _, z, _⟩ := hco'
      exact z
    exact cont _ h' tk _ hx (Nat.le_trans hge (Nat.le_of_lt hlt)) htab'.2 tr
  | some cv =>
    refine wpAny_genexprCode_hit hcode (cd.code hPs hT) hf ?_
    exact cont cv s2.heap s2.toks #[] (Heap.ExtBut.refl _ _) (Nat.le_refl _) (by rw [Array.append_empty]; exact hPs) (by rw [Array.append_empty]; exact hT)
theorem pe_any {p pos : Pos} (hr : Room k X.A) (hb : Gl X "any") (hm : X.mg "any" = none) (hc : X.calm = true) (hN : X.N.Nodup) (TB : TabB X.base X.mg c P) (hcode : X.env.code = .ref c) (hi : PI X tg iter wi) (ok : BlkOk X.N X.env.scope scope own) (S : GSc scope)
    (hg : ∀ (s : Shared) (H : Hp) (C : Addr) (code : Value) (it : Addr) (fp : List Addr) (pn : List (Addr × Obj)), PG (gCx X (.GeneratorExp elt [⟨tg, iter, ifs, 0⟩] scope gpos) s H (genEnv scope (cloFrom X.env.cells scope.names []) C code builtinsNs X.env) it fp pn) tg g)
    (ht : ∀ (s : Shared) (H : Hp) (C : Addr) (code : Value) (it : Addr) (fp : List Addr) (pn : List (Addr × Obj)), PTs (gCx X (.GeneratorExp elt [⟨tg, iter, ifs, 0⟩] scope gpos) s H (genEnv scope (cloFrom X.env.cells scope.names []) C code builtinsNs X.env) it fp pn) ifs tt)
    (he : ∀ (s : Shared) (H : Hp) (C : Addr) (code : Value) (it : Addr) (fp : List Addr) (pn : List (Addr × Obj)), PE (gCx X (.GeneratorExp elt [⟨tg, iter, ifs, 0⟩] scope gpos) s H (genEnv scope (cloFrom X.env.cells scope.names []) C code builtinsNs X.env) it fp pn) elt te)
    (hs : ∀ x, genFold iter X.env x = pure x := by intro _; rfl)
    (hst : starEach [.GeneratorExp elt [⟨tg, iter, ifs, 0⟩] scope gpos] X.env = (false, eval (.GeneratorExp elt [⟨tg, iter, ifs, 0⟩] scope gpos) X.env) :: starEach [] X.env := by rfl) :
    PE X (.Call (.Name "any" p) [.GeneratorExp elt [⟨tg, iter, ifs, 0⟩] scope gpos] [] pos) (tAA P true wi g tt te (own.map (·.2))) := by
  refine ⟨fun pins s σ H Q I h => wpAny_Call_Name_kw (ld_blt I hb hm boot_any (PyProof.Rows.callWith_builtin1 ?_ hst (by rfl)))⟩
  rw [hst]
  refine Calls.spliced_cons (gen_make hr hc hN TB hcode hi ok S hg ht he hs I h fun a go gn n Y fp tn W s5 h1 h2 h3 h4 SL => Calls.spliced_nil ?_)
  refine call_function_tree F.kind_any F.plain_any F.entry_any (F.args_any1 _) ?_
  unfold Builtin.«any»
  refine wpAny_bind (m := oneArg "any" _) (wpAny_pure (wpAny_bind (wpAny_pyIter_gen (h2 _ h4) (wpAny_pure ⟨plainId_quiet F.plain_any_loop _, ?_⟩))))
  exact any_loop (I.ok.hd hc) hr.depth h1 h2 (fun s' H' b J q => ⟨.bl b, H', h3 s' H' J, rfl, q⟩) n s5 SL
theorem pe_all {p pos : Pos} (hr : Room k X.A) (hb : Gl X "all") (hm : X.mg "all" = none) (hc : X.calm = true) (hN : X.N.Nodup) (TB : TabB X.base X.mg c P) (hcode : X.env.code = .ref c) (hi : PI X tg iter wi) (ok : BlkOk X.N X.env.scope scope own) (S : GSc scope)
    (hg : ∀ (s : Shared) (H : Hp) (C : Addr) (code : Value) (it : Addr) (fp : List Addr) (pn : List (Addr × Obj)), PG (gCx X (.GeneratorExp elt [⟨tg, iter, ifs, 0⟩] scope gpos) s H (genEnv scope (cloFrom X.env.cells scope.names []) C code builtinsNs X.env) it fp pn) tg g)
    (ht : ∀ (s : Shared) (H : Hp) (C : Addr) (code : Value) (it : Addr) (fp : List Addr) (pn : List (Addr × Obj)), PTs (gCx X (.GeneratorExp elt [⟨tg, iter, ifs, 0⟩] scope gpos) s H (genEnv scope (cloFrom X.env.cells scope.names []) C code builtinsNs X.env) it fp pn) ifs tt)
    (he : ∀ (s : Shared) (H : Hp) (C : Addr) (code : Value) (it : Addr) (fp : List Addr) (pn : List (Addr × Obj)), PE (gCx X (.GeneratorExp elt [⟨tg, iter, ifs, 0⟩] scope gpos) s H (genEnv scope (cloFrom X.env.cells scope.names []) C code builtinsNs X.env) it fp pn) elt te)
    (hs : ∀ x, genFold iter X.env x = pure x := by intro _; rfl)
    (hst : starEach [.GeneratorExp elt [⟨tg, iter, ifs, 0⟩] scope gpos] X.env = (false, eval (.GeneratorExp elt [⟨tg, iter, ifs, 0⟩] scope gpos) X.env) :: starEach [] X.env := by rfl) :
    PE X (.Call (.Name "all" p) [.GeneratorExp elt [⟨tg, iter, ifs, 0⟩] scope gpos] [] pos) (tAA P false wi g tt te (own.map (·.2))) := by
  refine ⟨fun pins s σ H Q I h => wpAny_Call_Name_kw (ld_blt I hb hm (show bootBuiltins "all" = some (.builtin "all") by decide +kernel) (PyProof.Rows.callWith_builtin1 ?_ hst (by rfl)))⟩
  rw [hst]
  refine Calls.spliced_cons (gen_make hr hc hN TB hcode hi ok S hg ht he hs I h fun a go gn n Y fp tn W s5 h1 h2 h3 h4 SL => Calls.spliced_nil ?_)
  refine call_function_tree F.kind_all F.plain_all F.entry_all (F.args_all1 _) ?_
  unfold Builtin.«all»
  refine wpAny_bind (m := oneArg "all" _) (wpAny_pure (wpAny_bind (wpAny_pyIter_gen (h2 _ h4) (wpAny_pure ⟨plainId_quiet F.plain_all_loop _, ?_⟩))))
  exact all_loop (I.ok.hd hc) hr.depth h1 h2 (fun s' H' b J q => ⟨.bl b, H', h3 s' H' J, rfl, q⟩) n s5 SL
end
end Gx
namespace Gk
open PySem
open Sem (wp)
/-! ### what runs well whatever sleeps in the table of generators leaves the sleepers as they are
A sleeper is put into the table in place of each one that shows the same and can't be woken: where all goes well there too, none was woken. -/
/-- woken, it is stuck -/
def bad : Resume → Sem PySem.Fin := fun _ => .unsupported "asleep"
theorem stuck0 {M : Model} {Γ : Ctx} {p : Pos} {m : String} {s s' : Shared} {e : End} : ¬ Runs M Γ p (.unsupported m) [] s e s' := fun h => by cases h
theorem stuck {M : Model} {Γ : Ctx} {p : Pos} {m : String} {fs : List Frame} {s s' : Shared} {e : End} (h : Runs M Γ p (.unsupported m) fs s e s') : False := by
  cases h with
  | segRet a _ => exact stuck0 a
  | segGen a _ => exact stuck0 a
  | segSuspOut _ a => exact stuck0 a
  | segSuspGen _ a _ _ => exact stuck0 a
def ClS : GenState → Prop
  | .suspended _ _ _ _ fs _ => splitAtGen fs = none
  | _ => True
def ClE : End → Prop
  | .susp _ _ _ _ _ _ fs => splitAtGen fs = none
  | .ret _ => True
theorem ClE.st {e : End} (h : ClE e) : ClS e.genState := by
  cases e with
  | ret r => trivial
  | susp v g l k c p fs => exact h
/-- the one shows what the other shows -/
def PR (x y : GenState) : Prop := (∃ k l c p fs cl, x = .suspended bad l c p fs cl ∧ y = .suspended k l c p fs cl) ∨ (x = y ∧ ClS x)
theorem PR.seen {x y : GenState} (h : PR x y) : x.seen = y.seen := by
  rcases h with ⟨k, l, c, p, fs, cl, rfl, rfl⟩ | ⟨rfl, _⟩ <;> rfl
theorem PR.bare {x y : GenState} (h : PR x y) : x.bare = y.bare := by
  rcases h with ⟨k, l, c, p, fs, cl, rfl, rfl⟩ | ⟨rfl, _⟩ <;> rfl
structure Rel (A B : Array GenState) : Prop where
  sz : A.size = B.size
  pr : ∀ (i : Nat) (x : GenState), A[i]? = some x → ∃ y, B[i]? = some y ∧ PR x y
theorem Rel.set {A B : Array GenState} (h : Rel A B) {g : Nat} {x : GenState} (c : ClS x) : Rel (A.setIfInBounds g x) (B.setIfInBounds g x) := by
  refine ⟨by rw [Array.size_setIfInBounds, Array.size_setIfInBounds, h.sz], fun i y e => ?_⟩
  by_cases z : g = i
  · subst z
    by_cases l : g < A.size
    · rw [Array.getElem?_setIfInBounds_self_of_lt l] at e
      cases e
      exact ⟨x, Array.getElem?_setIfInBounds_self_of_lt (by rw [← h.sz]; exact l), .inr ⟨rfl, c⟩⟩
    · rw [Array.getElem?_eq_none (by rw [Array.size_setIfInBounds]; omega)] at e
      cases e
  · rw [Array.getElem?_setIfInBounds_ne z] at e ⊢
    exact h.pr i y e
theorem Rel.push {A B : Array GenState} (h : Rel A B) {x : GenState} (c : ClS x) : Rel (A.push x) (B.push x) := by
  refine ⟨by rw [Array.size_push, Array.size_push, h.sz], fun i y e => ?_⟩
  rw [Array.getElem?_push] at e ⊢
  by_cases z : i = A.size
  · rw [if_pos z] at e
    rw [if_pos (z.trans h.sz)]
    cases e
    exact ⟨x, rfl, .inr ⟨rfl, c⟩⟩
  · rw [if_neg z] at e
    rw [if_neg (fun y => z (y.trans h.sz.symm))]
    exact h.pr i y e
/-- the sleepers are kept -/
def Kp (A A' B B' : Array GenState) : Prop := ∀ (i : Nat) (k : Resume → Sem PySem.Fin) (l : List Value) (c : Code) (p : Pos) (fs : List Frame) (cl : Bool), A[i]? = some (.suspended bad l c p fs cl) → B[i]? = some (.suspended k l c p fs cl) →
  A'[i]? = some (.suspended bad l c p fs cl) ∧ B'[i]? = some (.suspended k l c p fs cl)
theorem Kp.refl (A B : Array GenState) : Kp A A B B := fun _ _ _ _ _ _ _ a b => ⟨a, b⟩
theorem Kp.trans {A A' A'' B B' B'' : Array GenState} (a : Kp A A' B B') (b : Kp A' A'' B' B'') : Kp A A'' B B'' := fun i k l c p fs cl h1 h2 =>
  let ⟨h3, h4⟩ := a i k l c p fs cl h1 h2
  b i k l c p fs cl h3 h4
theorem Kp.set {A B : Array GenState} {g : Nat} {x : GenState} (h : ∀ l c p fs cl, A[g]? ≠ some (.suspended bad l c p fs cl)) : Kp A (A.setIfInBounds g x) B (B.setIfInBounds g x) := fun i k l c p fs cl h1 h2 => by
  have ne : g ≠ i := fun z => h l c p fs cl (by rw [z]; exact h1)
  rw [Array.getElem?_setIfInBounds_ne ne, Array.getElem?_setIfInBounds_ne ne]
  exact ⟨h1, h2⟩
theorem Kp.woke {A A1 A2 B B1 B2 : Array GenState} {g : Nat} {x y : GenState} (h : ∀ l c p fs cl, A[g]? ≠ some (.suspended bad l c p fs cl)) (k1 : Kp (A.setIfInBounds g x) A1 (B.setIfInBounds g x) B1) (k2 : Kp (A1.setIfInBounds g y) A2 (B1.setIfInBounds g y) B2) : Kp A A2 B B2 := fun i k l c p fs cl h1 h2 => by
  have ne : g ≠ i := fun z => h l c p fs cl (by rw [z]; exact h1)
  obtain ⟨h3, h4⟩ := k1 i k l c p fs cl (by rw [Array.getElem?_setIfInBounds_ne ne]; exact h1) (by rw [Array.getElem?_setIfInBounds_ne ne]; exact h2)
  exact k2 i k l c p fs cl (by rw [Array.getElem?_setIfInBounds_ne ne]; exact h3) (by rw [Array.getElem?_setIfInBounds_ne ne]; exact h4)
theorem Kp.push {A B : Array GenState} {x : GenState} : Kp A (A.push x) B (B.push x) := fun i k l c p fs cl h1 h2 => by
  have l1 := (Array.getElem?_eq_some_iff.mp h1).1
  have l2 := (Array.getElem?_eq_some_iff.mp h2).1
  rw [Array.getElem?_push, Array.getElem?_push, if_neg (by omega), if_neg (by omega)]
  exact ⟨h1, h2⟩
abbrev wg (s : Shared) (B : Array GenState) : Shared := { s with gens := B }
/-- what a run of the one table tells of the other -/
def Lk (M : Model) (Γ : Ctx) (p : Pos) (t : Sem PySem.Fin) (fs : List Frame) (s : Shared) (e : End) (s' : Shared) : Prop :=
  splitAtGen fs = none → ∀ B, Rel s.gens B → ∃ B', Runs M Γ p t fs (wg s B) e (wg s' B') ∧ Rel s'.gens B' ∧ ClE e ∧ Kp s.gens s'.gens B B'
theorem split_app : ∀ {fs gs : List Frame}, splitAtGen fs = none → splitAtGen gs = none → splitAtGen (fs ++ gs) = none
  | [], _, _, h => h
  | .gen _ _ _ _ _ :: _, _, h, _ => by cases h
  | .ret k h' g l c p kp :: rest, gs, h, h2 => by
    have h1 : (splitAtGen rest).map _ = none := h
    show (splitAtGen (rest ++ gs)).map _ = none
    rw [split_app (Option.map_eq_none_iff.mp h1) h2]
    rfl
theorem split_tail {k h g l c p kp} {fs : List Frame} (e : splitAtGen (.ret k h g l c p kp :: fs) = none) : splitAtGen fs = none := by
  have e1 : (splitAtGen fs).map _ = none := e
  exact Option.map_eq_none_iff.mp e1
theorem lock {M : Model} {Γ : Ctx} {p : Pos} {t : Sem PySem.Fin} {fs : List Frame} {s : Shared} {e : End} {s' : Shared} (h : Runs M Γ p t fs s e s') : Lk M Γ p t fs s e s' := by
  induction h with
  | done => exact fun _ B R => ⟨B, .done, R, trivial, .refl _ _⟩
  | raise => exact fun _ B R => ⟨B, .raise, R, trivial, .refl _ _⟩
  | again q _ ih => exact fun f B R => let ⟨B', r, R', c, k⟩ := ih f B R; ⟨B', .again q r, R', c, k⟩
  | rule _ ih => exact fun f B R => let ⟨B', r, R', c, k⟩ := ih f B R; ⟨B', .rule r, R', c, k⟩
  | «at» _ ih => exact fun f B R => let ⟨B', r, R', c, k⟩ := ih f B R; ⟨B', .at r, R', c, k⟩
  | load q _ ih => exact fun f B R => let ⟨B', r, R', c, k⟩ := ih f B R; ⟨B', .load q r, R', c, k⟩
  | update q _ ih => exact fun f B R => let ⟨B', r, R', c, k⟩ := ih f B R; ⟨B', .update q r, R', c, k⟩
  | loadIfAlive _ ih => exact fun f B R => let ⟨B', r, R', c, k⟩ := ih f B R; ⟨B', .loadIfAlive r, R', c, k⟩
  | point _ ih => exact fun f B R => let ⟨B', r, R', c, k⟩ := ih f B R; ⟨B', .point r, R', c, k⟩
  | alloc _ ih => exact fun f B R => let ⟨B', r, R', c, k⟩ := ih f B R; ⟨B', .alloc r, R', c, k⟩
  | fresh _ ih => exact fun f B R => let ⟨B', r, R', c, k⟩ := ih f B R; ⟨B', .fresh r, R', c, k⟩
  | ask _ ih => exact fun f B R => let ⟨B', r, R', c, k⟩ := ih f B R; ⟨B', .ask r, R', c, k⟩
  | choose q _ ih => exact fun f B R => let ⟨B', r, R', c, k⟩ := ih f B R; ⟨B', .choose q r, R', c, k⟩
  | os _ ih => exact fun f B R => let ⟨B', r, R', c, k⟩ := ih f B R; ⟨B', .os r, R', c, k⟩
  | handled _ ih => exact fun f B R => let ⟨B', r, R', c, k⟩ := ih f B R; ⟨B', .handled r, R', c, k⟩
  | genState q _ ih =>
    intro f B R
    obtain ⟨B', r, R', c, k⟩ := ih f B R
    obtain ⟨y, hy, pr⟩ := R.pr _ _ q
    rw [pr.seen] at r
    exact ⟨B', .genState hy r, R', c, k⟩
  | stack _ ih => exact fun f B R => let ⟨B', r, R', c, k⟩ := ih f B R; ⟨B', .stack r, R', c, k⟩
  | thread _ ih => exact fun f B R => let ⟨B', r, R', c, k⟩ := ih f B R; ⟨B', .thread r, R', c, k⟩
  | newGen _ ih =>
    intro f B R
    obtain ⟨B', r, R', c, k⟩ := ih f (B.push _) (R.push trivial)
    rw [R.sz] at r
    exact ⟨B', .newGen r, R', c, Kp.push.trans k⟩
  | call _ _ ih1 ih2 =>
    intro f B R
    obtain ⟨B1, r1, R1, c1, k1⟩ := ih1 rfl B R
    obtain ⟨B2, r2, R2, c2, k2⟩ := ih2 f B1 R1
    exact ⟨B2, .call r1 r2, R2, c2, k1.trans k2⟩
  | callSusp _ ih =>
    intro f B R
    obtain ⟨B', r, R', c, k⟩ := ih rfl B R
    exact ⟨B', .callSusp r, R', split_app c rfl, k⟩
  | yield => exact fun _ B R => ⟨B, .yield, R, rfl, .refl _ _⟩
  | resumeFresh q _ qe _ ih1 ih2 =>
    intro f B R
    obtain ⟨y, hy, pr⟩ := R.pr _ _ q
    rcases pr with ⟨_, _, _, _, _, _, z, _⟩ | ⟨rfl, _⟩
    · cases z
    obtain ⟨B1, r1, R1, c1, k1⟩ := ih1 rfl _ (R.set (x := .running) trivial)
    obtain ⟨B2, r2, R2, c2, k2⟩ := ih2 f _ (R1.set c1.st)
    exact ⟨B2, .resumeFresh hy r1 qe r2, R2, c2, Kp.woke (fun l c p fs cl z => by rw [q] at z; cases z) k1 k2⟩
  | resumeSuspended q run qe _ ih1 ih2 =>
    intro f B R
    obtain ⟨y, hy, pr⟩ := R.pr _ _ q
    rcases pr with ⟨_, _, _, _, _, _, z, _⟩ | ⟨rfl, cy⟩
    · cases z
      exact (stuck run).elim
    obtain ⟨B1, r1, R1, c1, k1⟩ := ih1 cy _ (R.set (x := .running) trivial)
    obtain ⟨B2, r2, R2, c2, k2⟩ := ih2 f _ (R1.set c1.st)
    exact ⟨B2, .resumeSuspended hy r1 qe r2, R2, c2, Kp.woke (fun l c p fs cl z => by
      rw [q] at z
      cases z
      exact stuck run) k1 k2⟩
  | resumeJustStarted q v _ ih =>
    intro f B R
    obtain ⟨y, hy, pr⟩ := R.pr _ _ q
    rcases pr with ⟨_, _, _, _, _, _, z, _⟩ | ⟨rfl, _⟩
    · cases z
    obtain ⟨B', r, R', c, k⟩ := ih f B R
    exact ⟨B', .resumeJustStarted hy v r, R', c, k⟩
  | resumeThrowFresh q _ ih =>
    intro f B R
    obtain ⟨y, hy, pr⟩ := R.pr _ _ q
    rcases pr with ⟨_, _, _, _, _, _, z, _⟩ | ⟨rfl, _⟩
    · cases z
    obtain ⟨B', r, R', c, k⟩ := ih f _ (R.set (x := .finished) trivial)
    exact ⟨B', .resumeThrowFresh hy r, R', c, Kp.trans (Kp.set fun l c p fs cl z => by rw [q] at z; cases z) k⟩
  | resumeRunning q _ ih =>
    intro f B R
    obtain ⟨y, hy, pr⟩ := R.pr _ _ q
    rcases pr with ⟨_, _, _, _, _, _, z, _⟩ | ⟨rfl, _⟩
    · cases z
    obtain ⟨B', r, R', c, k⟩ := ih f B R
    exact ⟨B', .resumeRunning hy r, R', c, k⟩
  | resumeFinished q _ ih =>
    intro f B R
    obtain ⟨y, hy, pr⟩ := R.pr _ _ q
    rcases pr with ⟨_, _, _, _, _, _, z, _⟩ | ⟨rfl, _⟩
    · cases z
    obtain ⟨B', r, R', c, k⟩ := ih f B R
    exact ⟨B', .resumeFinished hy r, R', c, k⟩
  | segRet _ _ ih1 ih2 =>
    intro f B R
    obtain ⟨B1, r1, R1, _, k1⟩ := ih1 rfl B R
    obtain ⟨B2, r2, R2, c2, k2⟩ := ih2 (split_tail f) B1 R1
    exact ⟨B2, .segRet r1 r2, R2, c2, k1.trans k2⟩
  | segGen _ _ _ _ => exact fun f => by cases f
  | segSuspOut q _ ih =>
    intro f B R
    obtain ⟨B', r, R', c, k⟩ := ih rfl B R
    exact ⟨B', .segSuspOut q r, R', split_app c q, k⟩
  | segSuspGen q _ _ _ _ _ =>
    intro f
    rw [f] at q
    cases q
/-! ### the same of a tree -/
/-- behind it: the other table, with the sleepers as they were -/
def Bh {α : Type} (A B : Array GenState) (Q : α → Pos → Shared → Prop) : α → Pos → Shared → Prop := fun a p s' => ∃ A', Rel A' s'.gens ∧ Kp A A' B s'.gens ∧ Q a p (wg s' A')
theorem Bh.move {α : Type} {A A1 B B1 : Array GenState} {Q : α → Pos → Shared → Prop} (k : Kp A A1 B B1) {a : α} {p : Pos} {s' : Shared} (h : Bh A1 B1 Q a p s') : Bh A B Q a p s' :=
  let ⟨A', R, k', q⟩ := h
  ⟨A', R, k.trans k', q⟩
theorem wp_lock {α : Type} (M : Model) (Γ : Ctx) (t : Sem α) : ∀ (Q : α → Pos → Shared → Prop) (E : Value → Pos → Shared → Prop) (p : Pos) (s : Shared) (B : Array GenState), Rel s.gens B → wp M Γ t Q E p s → wp M Γ t (Bh s.gens B Q) (Bh s.gens B E) p (wg s B) := by
  induction t with
  | pure a => exact fun Q E p s B R h => ⟨s.gens, R, .refl _ _, h⟩
  | raise e => exact fun Q E p s B R h => ⟨s.gens, R, .refl _ _, h⟩
  | unsupported _ => exact fun Q E p s B R h => h
  | finish _ => exact fun Q E p s B R h => h
  | rule _ k ih => exact fun Q E p s B R h => ih () Q E p s B R h
  | «at» p' k ih => exact fun Q E p s B R h => ih () Q E p' s B R h
  | load a _ k ih =>
    rintro Q E p s B R ⟨o, ho, h⟩
    exact ⟨o, ho, ih o Q E p s B R h⟩
  | update a _ f k ih =>
    rintro Q E p s B R ⟨ho, h⟩
    exact ⟨ho, ih () Q E p { s with heap := s.heap.update a f } B R h⟩
  | loadIfAlive a k ih => exact fun Q E p s B R h => ih _ Q E p s B R h
  | point _ k ih => exact fun Q E p s B R h => ih () Q E p s B R h
  | register _ _ => exact fun Q E p s B R h => h
  | alloc o k ih => exact fun Q E p s B R h => ih s.heap.objs.size Q E p { s with heap := s.heap.push o } B R h
  | fresh k ih => exact fun Q E p s B R h => ih s.toks Q E p { s with toks := s.toks + 1 } B R h
  | ask k ih => exact fun Q E p s B R h => ih _ Q E p s B R h
  | choose src m k ih =>
    rintro Q E p s B R ⟨ho, h⟩
    exact ⟨ho, ih _ Q E p { s with drawn := s.drawn.bump src } B R h⟩
  | os q _ k ih => exact fun Q E p s B R h => ih _ Q E p { s with os := (Os.step s.os q).1 } B R h
  | call c hd _ _ k ih =>
    rintro Q E p s B R ⟨r, s', hr, h⟩
    obtain ⟨B', r', R', _, k'⟩ := lock hr rfl B R
    exact ⟨r, wg s' B', r', Sem.wp_mono M Γ _ (fun a p s z => Bh.move k' z) (fun a p s z => Bh.move k' z) _ _ (ih r Q E p s' B' R' h)⟩
  | handled own k ih => exact fun Q E p s B R h => ih _ Q E p s B R h
  | genState g k ih =>
    rintro Q E p s B R ⟨st, hs, h⟩
    obtain ⟨y, hy, pr⟩ := R.pr _ _ hs
    refine ⟨y, hy, ?_⟩
    rw [← pr.seen]
    exact ih _ Q E p s B R h
  | newGen c k ih =>
    intro Q E p s B R h
    have e := ih s.gens.size Q E p { s with gens := s.gens.push (.fresh c) } (B.push (.fresh c)) (R.push trivial) h
    rw [R.sz] at e
    exact Sem.wp_mono M Γ _ (fun a p s z => Bh.move Kp.push z) (fun a p s z => Bh.move Kp.push z) _ _ e
  | resume g r _ k ih =>
    rintro Q E p s B R ⟨res, s', hw, h⟩
    have key : ∃ B', Wakes M Γ p g r (wg s B) res (wg s' B') ∧ Rel s'.gens B' ∧ Kp s.gens s'.gens B B' := by
      unfold Wakes at hw ⊢
      cases hg : s.gens[g]? with
      | none =>
        rw [hg] at hw
        exact hw.elim
      | some x =>
        obtain ⟨y, hy, pr⟩ := R.pr _ _ hg
        rw [hg] at hw
        have hy' : (wg s B).gens[g]? = some y := hy
        rw [hy']
        cases x with
        | fresh c =>
          rcases pr with ⟨_, _, _, _, _, _, z, _⟩ | ⟨rfl, _⟩
          · cases z
          have nb : ∀ l c p fs cl, s.gens[g]? ≠ some (GenState.suspended bad l c p fs cl) := fun l c p fs cl z => by
            rw [hg] at z
            cases z
          cases r with
          | throw x =>
            obtain ⟨rfl, rfl⟩ := hw
            exact ⟨_, ⟨rfl, rfl⟩, R.set (x := .finished) trivial, Kp.set nb⟩
          | send v =>
            cases v with
            | none =>
              obtain ⟨e1, s1, run, qe, rfl, rfl⟩ := hw
              obtain ⟨B1, r1, R1, c1, k1⟩ := lock run rfl _ (R.set (x := .running) trivial)
              exact ⟨_, ⟨e1, wg s1 B1, r1, qe, rfl, rfl⟩, R1.set c1.st, Kp.woke nb k1 (.refl _ _)⟩
            | _ =>
              obtain ⟨rfl, rfl⟩ := hw
              exact ⟨B, ⟨rfl, rfl⟩, R, .refl _ _⟩
        | suspended k0 l0 c0 p0 fs cl =>
          obtain ⟨e1, s1, run, qe, rfl, rfl⟩ := hw
          rcases pr with ⟨_, _, _, _, _, _, z, _⟩ | ⟨rfl, cy⟩
          · cases z
            exact (stuck run).elim
          obtain ⟨B1, r1, R1, c1, k1⟩ := lock run cy _ (R.set (x := .running) trivial)
          refine ⟨_, ⟨e1, wg s1 B1, r1, qe, rfl, rfl⟩, R1.set c1.st, Kp.woke (fun l c p fs cl z => ?_) k1 (.refl _ _)⟩
          rw [hg] at z
          cases z
          exact stuck run
        | running =>
          rcases pr with ⟨_, _, _, _, _, _, z, _⟩ | ⟨rfl, _⟩
          · cases z
          obtain ⟨rfl, rfl⟩ := hw
          exact ⟨B, ⟨rfl, rfl⟩, R, .refl _ _⟩
        | finished =>
          rcases pr with ⟨_, _, _, _, _, _, z, _⟩ | ⟨rfl, _⟩
          · cases z
          obtain ⟨rfl, rfl⟩ := hw
          exact ⟨B, ⟨rfl, rfl⟩, R, .refl _ _⟩
    obtain ⟨B', hw', R', k'⟩ := key
    exact ⟨res, wg s' B', hw', Sem.wp_mono M Γ _ (fun a p s z => Bh.move k' z) (fun a p s z => Bh.move k' z) _ _ (ih res Q E p s' B' R' h)⟩
  | yield _ _ _ _ => exact fun Q E p s B R h => h
  | stack k ih => exact fun Q E p s B R h => ih _ Q E p s B R h
  | fork _ _ => exact fun Q E p s B R h => h
  | thread k ih => exact fun Q E p s B R h => ih _ Q E p s B R h
  | await _ _ _ _ _ => exact fun Q E p s B R h => h
/-! ### the word for it -/
def drug : GenState → GenState
  | .suspended _ l c p fs cl => .suspended bad l c p fs cl
  | x => x
theorem drug_rel (B : Array GenState) : Rel (B.map drug) B := by
  refine ⟨Array.size_map, fun i x e => ?_⟩
  rw [Array.getElem?_map] at e
  obtain ⟨y, hy, rfl⟩ := Option.map_eq_some_iff.mp e
  refine ⟨y, hy, ?_⟩
  cases y with
  | suspended k l c p fs cl => exact .inl ⟨k, l, c, p, fs, cl, rfl, rfl⟩
  | _ => exact .inr ⟨rfl, trivial⟩
theorem Rel.bareL {A B : Array GenState} (h : Rel A B) (b : PyProof.Rows.AllBare B) : PyProof.Rows.AllBare A := fun x hx => by
  obtain ⟨i, hi⟩ := Array.getElem?_of_mem hx
  obtain ⟨y, hy, pr⟩ := h.pr i x hi
  rw [pr.bare]
  exact b y (Array.mem_of_getElem? hy)
theorem Rel.bareR {A B : Array GenState} (h : Rel A B) (b : PyProof.Rows.AllBare A) : PyProof.Rows.AllBare B := fun y hy => by
  obtain ⟨i, hi⟩ := Array.getElem?_of_mem hy
  have l := (Array.getElem?_eq_some_iff.mp hi).1
  have l2 : i < A.size := by rw [h.sz]; exact l
  obtain ⟨y', hy', pr⟩ := h.pr i _ (Array.getElem?_eq_getElem l2)
  rw [hi] at hy'
  cases hy'
  rw [← pr.bare]
  exact b _ (Array.getElem_mem l2)
/-- THE WORD: what runs well from any table that is bare leaves this sleeper as it is -/
theorem kept {α : Type} {M : Model} {A : Around} {m : Sem α} {Q : α → Shared → Prop} {E : Value → Shared → Prop} {s : Shared} {g : Nat} {k : Resume → Sem PySem.Fin} {l : List Value} {c : Code} {p : Pos} {fs : List Frame} {cl : Bool} (hb : PyProof.Rows.AllBare s.gens) (hg : s.gens[g]? = some (.suspended k l c p fs cl))
    (h : ∀ G, PyProof.Rows.AllBare G → wpAny M A m Q E (wg s G)) :
    wpAny M A m (fun a s' => s'.gens[g]? = some (.suspended k l c p fs cl) ∧ ∃ G, (PyProof.Rows.AllBare G → PyProof.Rows.AllBare s'.gens) ∧ Q a (wg s' G)) (fun e s' => ∃ G, (PyProof.Rows.AllBare G → PyProof.Rows.AllBare s'.gens) ∧ E e (wg s' G)) s := by
  intro Γ q hΓ
  have R := drug_rel s.gens
  have e := wp_lock M Γ m _ _ q (wg s (s.gens.map drug)) s.gens R (h _ (R.bareL hb) Γ q hΓ)
  refine Sem.wp_mono M Γ m (fun a p' s' z => ?_) (fun x p' s' z => ?_) q s e
  · obtain ⟨A', R', k', z⟩ := z
    have e1 : (s.gens.map drug)[g]? = some (.suspended bad l c p fs cl) := by
      rw [Array.getElem?_map, hg]
      rfl
    exact ⟨(k' g k l c p fs cl e1 hg).2, A', R'.bareR, z⟩
  · obtain ⟨A', R', _, z⟩ := z
    exact ⟨A', R'.bareR, z⟩
end Gk
namespace Gq
open PySem PySem.Spec PyProof.Rows L2 GenW
open Sem (wp)
/-! ### a run of a generator's code, up to its end or to the next item -/
def SegC (M : Model) (A : Around) (F : End → Shared → Prop) (c : Code) (t : Sem PySem.Fin) (fs : List Frame) (s : Shared) : Prop := ∀ Γ p, Γ.code = c → Γ.Woken A → ∃ e s', Runs M Γ p t fs s e s' ∧ F e s'
section
variable {M : Model} {A : Around} {F : End → Shared → Prop} {c : Code} {fs : List Frame} {s : Shared}
theorem segc_wrap {α : Type} {m : Sem α} {K : α → Sem PySem.Fin} {J : Value → Sem PySem.Fin} {gd : Bool → Bool} {lv : List Value → List Value}
    (h : wpAny M (A.over c fs) m (fun a s' => SegC M A F c (K a) fs s') (fun x s' => SegC M A F c (J x) fs s') s) : SegC M A F c (m.wrap K J gd lv) fs s := by
  rintro Γ p rfl hΓ
  exact runs_wrap_of_wp K J gd lv m (h (Γ.over fs) p (hΓ.over fs)) (fun a p' s' h' => h' Γ p' rfl hΓ) (fun x p' s' h' => h' Γ p' rfl hΓ)
theorem segc_bind {α : Type} {m : Sem α} {K : α → Sem PySem.Fin}
    (h : wpAny M (A.over c fs) m (fun a s' => SegC M A F c (K a) fs s') (fun x s' => SegC M A F c (.raise x) fs s') s) : SegC M A F c (m >>= K) fs s := by
  rw [Sem.bind_eq_wrap']
  exact segc_wrap h
theorem segc_at {p' : Pos} {k : Unit → Sem PySem.Fin} (h : SegC M A F c (k ()) fs s) : SegC M A F c (.at p' k) fs s :=
  segc_wrap (m := standAt p') (K := k) (J := .raise) (gd := id) (lv := id) (wpAny_standAt h)
theorem segc_point {l : List Value} {k : Unit → Sem PySem.Fin} (h : SegC M A F c (k ()) fs s) : SegC M A F c (.point l k) fs s :=
  segc_wrap (m := point) (K := k) (J := .raise) (gd := id) (lv := fun _ => l) (wpAny_point h)
theorem segc_call {c' : Code} {h : Option Value} {g : Bool} {l : List Value} {k : Result → Sem PySem.Fin} (hc : ∀ p, SegC M A F c' (M.den c') (.ret k h g l c p [] :: fs) s) : SegC M A F c (.call c' h g l k) fs s := by
  rintro Γ p rfl hΓ
  obtain ⟨e, s', hr, he⟩ := hc p (Γ.goto c') p rfl (hΓ.goto c')
  exact ⟨e, s', runs_call_seg hr, he⟩
theorem segc_leaf {k : Result → Sem PySem.Fin} {h : Option Value} {g : Bool} {l : List Value} {c₁ : Code} {p₁ : Pos} {kp : List Value} (r : Result) (hk : SegC M A F c₁ (k r) fs s) : SegC M A F c (leafOf r) (.ret k h g l c₁ p₁ kp :: fs) s := by
  rintro Γ p rfl hΓ
  obtain ⟨e, s', hr, he⟩ := hk (Γ.goto c₁) p₁ rfl (hΓ.goto c₁)
  exact ⟨e, s', Runs.pop r hr, he⟩
theorem segc_again {c' : Code} (hq : c'.quiet = true) (hc : SegC M A F c' (M.den c') fs s) : SegC M A F c (.pure (.again c')) fs s := by
  rintro Γ p rfl hΓ
  obtain ⟨e, s', hr, he⟩ := hc (Γ.goto c') p rfl (hΓ.goto c')
  exact ⟨e, s', Runs.head (c₁ := c') (fun _ _ x => .again hq x) hr, he⟩
theorem segc_end (r : Result) (h : F (.ret r) s) : SegC M A F c (leafOf r) [] s := by
  rintro Γ p rfl _
  exact ⟨.ret r, s, Runs.leaf r, h⟩
theorem segc_yield {v : Value} {g : Bool} {l : List Value} {k : Resume → Sem PySem.Fin} (hfs : splitAtGen fs = none) (h : ∀ p, F (.susp v g l k c p fs) s) : SegC M A F c (.yield v g l k) fs s := by
  rintro Γ p rfl _
  exact ⟨_, s, Runs.yield' fs hfs, h p⟩
theorem segc_mono {F' : End → Shared → Prop} {t : Sem PySem.Fin} (h : SegC M A F c t fs s) (i : ∀ e s', F e s' → F' e s') : SegC M A F' c t fs s := by
  intro Γ p hc hΓ
  obtain ⟨e, s', hr, he⟩ := h Γ p hc hΓ
  exact ⟨e, s', hr, i e s' he⟩
/-- `yield e` as a statement -/
theorem segc_Expr_Yield {env : Env} {K : Flow → Sem PySem.Fin} {J : Value → Sem PySem.Fin} {gd : Bool → Bool} {lv : List Value → List Value} {e : Expr} {ypos pos : Pos} (hfs : splitAtGen fs = none)
    (h : wpAny M (A.over c fs) (eval e env) (fun v s' => ∀ l k p, k (.send .none) = K .next → F (.susp v (gd false) l k c p fs) s') (fun x s' => SegC M A F c (J x) fs s') s) (hco : env.scope.isCoroutine = false := by rfl) (hi : interactive env = false := by rfl) :
    SegC M A F c ((exec (.Expr (.Yield (some e) ypos) pos) env).wrap K J gd lv) fs s := by
  rw [exec_Expr env _ pos hi rfl]
  show SegC M A F c (.at pos fun _ => ((eval e env >>= fun v => (standAt ypos >>= fun _ => yieldOut env v)) >>= fun x =>
    dropValue (.Yield (some e) ypos) pos x).wrap K J gd lv) fs s
  have hy : ∀ v, yieldOut env v = yieldValue v := fun v => by simp only [yieldOut, hco, Bool.false_eq_true, if_false]
  simp only [hy]
  refine segc_at ?_
  rw [Sem.bind_eq_wrap', Sem.bind_eq_wrap', Sem.wrap_wrap, Sem.wrap_wrap]
  refine segc_wrap (wpAny_mono h (fun v s' h' => ?_) fun _ _ x => x)
  refine segc_at (segc_yield hfs fun p => ?_)
  exact h' _ _ p rfl
end
section
variable {prog : Program} {w : World} {A : Around} {F : End → Shared → Prop} {fs : List Frame} {s : Shared} {env : Env}
theorem segc_func {body : List Stmt}
    (h : SegC (model prog w) A F (.func body env) ((execs body env).wrap (fun f => .pure (.done (.ret (match f with | .ret v => v | _ => .none))))
      (fun e => (leaving env e).wrap (fun _ => .raise e) .raise id id) id id) fs s) :
    SegC (model prog w) A F (.func body env) ((model prog w).den (.func body env)) fs s := by
  show SegC _ A F _ (.point [] fun _ => ((execs body env).onRaise (leaving env)) >>= _) fs s
  refine segc_point ?_
  rw [Sem.onRaise_eq_wrap, Sem.bind_eq_wrap', Sem.wrap_wrap]
  rw [Sem.wrap_congr (execs body env) _ _ (K' := fun f => .pure (.done (.ret (match f with | .ret v => v | _ => .none))))
    (H' := fun e => (leaving env e).wrap (fun _ => .raise e) .raise id id) (fun f => by cases f <;> rfl)
    (fun e => by rw [Sem.bind_eq_wrap, Sem.wrap_wrap]; rfl)]
  exact h
/-- one turn of a for loop in a generator's code -/
theorem segc_forLoop {target : Expr} {it : Value} {body : List Stmt}
    (h : wpAny (model prog w) (A.over (.forLoop target it body [] env) fs) (pyNext it) (fun r s1 => match r with
        | none => SegC (model prog w) A F (.block [] env) ((model prog w).den (.block [] env)) fs s1
        | some v => wpAny (model prog w) (A.over (.forLoop target it body [] env) fs) (letOwnedTupleGo target it v) (fun _ s2 =>
          wpAny (model prog w) (A.over (.forLoop target it body [] env) fs) (assign target env v) (fun _ s3 =>
            SegC (model prog w) A F (.forLoop target it body [] env) ((execs body env).wrap (fun f => match f with
              | .next | .cont => .pure (.again (.forLoop target it body [] env))
              | .brk => .pure (.done .next)
              | .ret v => .pure (.done (.ret v))) (fun e => (do noteFrame e env; theTreesLotGoes e : Sem Unit).wrap (fun _ => .raise e) .raise id id) id id) fs s3) (fun _ _ => False) s2) (fun _ _ => False) s1) (fun _ _ => False) s) :
    SegC (model prog w) A F (.forLoop target it body [] env) ((model prog w).den (.forLoop target it body [] env)) fs s := by
  show SegC _ A F _ ((forTurn target it body [] env).onRaise (fun x => do noteFrame x env; theTreesLotGoes x)) fs s
  simp only [forTurn]
  rw [Sem.onRaise_eq_wrap, Sem.bind_eq_wrap', Sem.wrap_wrap]
  refine segc_wrap (wpAny_standAt ?_)
  show SegC _ A F _ (Sem.wrap _ _ _ _ ((pyNext it).onRaise _ >>= _)) fs s
  rw [Sem.bind_eq_wrap', Sem.wrap_wrap]
  refine segc_wrap (wpAny_onRaise (wpAny_mono h (fun r s1 h1 => ?_) fun _ _ x => x.elim))
  cases r with
  | none =>
    show SegC _ A F _ (.pure (.again (.block [] env))) fs s1
    exact segc_again rfl h1
  | some v =>
    show SegC _ A F _ (Sem.wrap _ _ _ _ (letOwnedTupleGo target it v >>= fun _ => _)) fs s1
    rw [Sem.bind_eq_wrap', Sem.wrap_wrap]
    refine segc_wrap (wpAny_mono h1 (fun _ s2 h2 => ?_) fun _ _ x => x.elim)
    show SegC _ A F _ (Sem.wrap _ _ _ _ (assign target env v >>= fun _ => _)) fs s2
    rw [Sem.bind_eq_wrap', Sem.wrap_wrap]
    refine segc_wrap (wpAny_mono h2 (fun _ s3 h3 => ?_) fun _ _ x => x.elim)
    show SegC _ A F _ (Sem.wrap _ _ _ _ (execs body env >>= fun f => _)) fs s3
    rw [Sem.bind_eq_wrap', Sem.wrap_wrap]
    rw [Sem.wrap_congr (execs body env) _ _ (K' := fun f => match f with
            | .next | .cont => .pure (.again (.forLoop target it body [] env))
            | .brk => .pure (.done .next)
            | .ret v => .pure (.done (.ret v))) (H' := (fun e => (do noteFrame e env; theTreesLotGoes e : Sem Unit).wrap (fun _ => .raise e) .raise id id))
        (fun f => by cases f <;> rfl)
        (fun e => by first | exact Sem.bind_eq_wrap _ _ | (show (do noteFrame e env; theTreesLotGoes e : Sem Unit).bind (fun _ => .raise e) = _; rw [Sem.bind_eq_wrap]))]
    exact h3
/-- a for statement in a generator's code -/
theorem segc_For {c : Code} {K : Flow → Sem PySem.Fin} {J : Value → Sem PySem.Fin} {gd : Bool → Bool} {lv : List Value → List Value} {target iter : Expr} {body : List Stmt} {pos : Pos} (hs : ∀ x, foldedSetIterable iter env x = pure x)
    (h : wpAny (model prog w) (A.over c fs) (eval iter env) (fun x s1 => wpAny (model prog w) (A.over c fs) (pyIter x) (fun it s2 =>
      ∀ k l p, k (.ok .next) = K .next → SegC (model prog w) A F (.forLoop target it body [] env) ((model prog w).den (.forLoop target it body [] env)) (.ret k none (gd false) l c p [] :: fs) s2) (fun _ _ => False) s1) (fun _ _ => False) s) :
    SegC (model prog w) A F c ((exec (.For target iter body [] pos) env).wrap K J gd lv) fs s := by
  rw [exec_For]
  show SegC _ A F c (.at pos fun _ => Sem.wrap _ _ _ _ (eval iter env >>= fun x => _)) fs s
  refine segc_at ?_
  rw [Sem.bind_eq_wrap', Sem.wrap_wrap]
  refine segc_wrap (wpAny_mono h (fun x s1 h1 => ?_) fun _ _ x => x.elim)
  simp only [hs]
  show SegC _ A F c (.at iter.pos fun _ => Sem.wrap _ _ _ _ (holding [x] (pyIter x) >>= fun it => _)) fs s1
  refine segc_at ?_
  rw [Sem.bind_eq_wrap', Sem.wrap_wrap]
  refine segc_wrap (wpAny_holding (wpAny_mono h1 (fun it s2 h2 => ?_) fun _ _ x => x.elim))
  exact segc_call fun p => h2 _ _ p rfl
theorem segc_block0 (h : SegC (model prog w) A F (.block [] env) (.pure (.done .next)) fs s) : SegC (model prog w) A F (.block [] env) ((model prog w).den (.block [] env)) fs s := by
  first
    | exact h
    | (refine segc_point ?_; exact h)
end
/-! ### waking -/
/-- this sleeper, woken -/
def GoesC (M : Model) (A : Around) (F : End → Shared → Prop) (gs : GenState) (s : Shared) : Prop :=
  match gs with
  | .fresh c => SegC M A F c (M.den c) [] s
  | .suspended k _ c _ fs _ => SegC M A F c (k (.send .none)) fs s
  | _ => False
theorem wpAny_resumeC {M : Model} {A : Around} {F : End → Shared → Prop} {E : Value → Shared → Prop} {s : Shared} {g : Nat} {gs : GenState} {l : List Value} {α : Type} {k : GenResult → Sem α} {Q : α → Shared → Prop} (hg : s.gens[g]? = some gs)
    (hgo : GoesC M A F gs (s.setGen g .running)) (hF : ∀ e s1, F e s1 → e.quiet = true ∧ wpAny M A (k e.result) Q E (s1.setGen g e.genState)) : wpAny M A (.resume g (.send .none) l k) Q E s := by
  intro Γ p hΓ
  rw [Sem.wp_resume]
  have hB : ∀ c, (Γ.wake c p).Woken A := fun c => hΓ.wake c p
  cases gs with
  | fresh c =>
    obtain ⟨e₁, s₁, hr, he⟩ := hgo (Γ.wake c p) p rfl (hB c)
    obtain ⟨q1, q2⟩ := hF e₁ s₁ he
    exact ⟨_, _, by unfold Wakes; rw [hg]; exact ⟨e₁, s₁, hr, q1, rfl, rfl⟩, q2 Γ p hΓ⟩
  | suspended k₀ l₀ c₀ p₀ fs₀ cl =>
    obtain ⟨e₁, s₁, hr, he⟩ := hgo (Γ.wake c₀ p) p₀ rfl (hB c₀)
    obtain ⟨q1, q2⟩ := hF e₁ s₁ he
    exact ⟨_, _, by unfold Wakes; rw [hg]; exact ⟨e₁, s₁, hr, q1, rfl, rfl⟩, q2 Γ p hΓ⟩
  | running => exact hgo.elim
  | finished => exact hgo.elim
/-- how a waking ends: an item, or the end -/
theorem next_genC {P : Program} {w : World} {A : Around} {E : Value → Shared → Prop} {s : Shared} {a : Addr} {g : Nat} {gs : GenState} {Q : Option Value → Shared → Prop} (hh : A.handled = none) (hl : s.heap.NoLimit) (hroom : A.depth < recursionLimit) (hg : s.heap.IsGen a g) (hgs : s.gens[g]? = some gs)
    (hgo : GoesC (model P w) A.in1 (fun e s1 => (e = .ret (.ok (.ret .none)) ∧ ∀ h', (∀ b o, s1.heap.get? b = some o → h'.get? b = some o) → Q none { s1.setGen g .finished with heap := h' }) ∨
      (∃ v gg l k c p fs, e = .susp v gg l k c p fs ∧ e.quiet = true ∧ Q (some v) (s1.setGen g e.genState))) gs (s.setGen g .running)) : wpAny (model P w) A (pyNext (.ref a)) Q E s := by
  unfold pyNext
  refine wpAny_bind (wpAny_attempt (wpAny_callSpecial?_slot (name := Str.ofString "__next__") hg.typeIs slot_gen_next
    (wpAny_call_entry slot_gen_next hg.typeIs entry_gen_next ?_ (args_gen_next _))))
  show wpAny _ A.in1 (Builtin.Generator.genWake (.ref a) (.send .none)) _ _ s
  unfold Builtin.Generator.genWake
  refine wpAny_bind (wpAny_holding (wpAny_genNumber hg (wpAny_bind (wpAny_genState hgs ?_))))
  cases gs with
  | running => exact hgo.elim
  | finished => exact hgo.elim
  | _ =>
    refine wpAny_bind (wpAny_roomToWake hl hroom ?_)
    show wpAny _ A.in1 (.resume g (.send .none) [] _) _ _ s
    refine wpAny_resumeC hgs hgo fun e s₁ he => ?_
    rcases he with ⟨rfl, hp⟩ | ⟨v, gg, l, k, c, p, fs, rfl, hq, hv⟩
    · refine ⟨rfl, ?_⟩
      show wpAny _ A.in1 (newExc (.type "StopIteration") [] >>= _) _ _ _
      refine wpAny_bind ?_
      simp only [newExc, newTuple]
      refine wpAny_bind (wpAny_newObj_type ?_ (by size_fits))
      refine wpAny_bind (m := firstArgMember _ _) (wpAny_of_eq (a := Value.none) (by first | rfl | (simp only [firstArgMember]; rfl)) ?_)
      refine wpAny_newObj_type ?_ (by size_fits)
      simp only [raiseNew]
      refine wpAny_bind (wpAny_bind (wpAny_handled ?_))
      first | rw [show A.in1.handled = none from hh] | rw [hh]
      refine wpAny_throw ?_
      refine wpAny_bind (wpAny_isInstance (T := "StopIteration") (b := true) ⟨_, Heap.get?_push_size _ rfl, rfl⟩ isSubtype_stop ?_)
      exact wpAny_pure (hp _ fun b o hb => Heap.get?_push_of_some _ (Heap.get?_push_of_some _ hb))
    · exact ⟨hq, wpAny_pure ⟨v, rfl, wpAny_pure hv⟩⟩
end Gq
namespace Gr
open PySem PySem.Spec PyProof.Rows L2 GenW Gq
open Sem (wp)
/-! ### for x in g(): a generator def of our own, which loops over a range and hands out an item each turn -/
/-- the heap below L -/
def tr (h : Heap) (L : Addr) : Heap := { h with objs := h.objs.extract 0 L }
theorem tr_lt {h : Heap} {L b : Nat} (hb : b < L) : (tr h L).get? b = h.get? b := by
  unfold tr Heap.get?
  simp only [Array.getElem?_extract]
  by_cases hs : b < h.objs.size
  · rw [if_pos (by omega), Nat.zero_add]
  · rw [if_neg (by omega), Array.getElem?_eq_none (by omega)]
theorem tr_some {h : Heap} {L b : Nat} {o : Obj} (e : (tr h L).get? b = some o) : b < L ∧ h.get? b = some o := by
  have l : b < (tr h L).objs.size := Heap.lt_size e
  have l2 : b < L := by
    have z : (tr h L).objs.size = min L h.objs.size - 0 := Array.size_extract
    omega
  exact ⟨l2, (tr_lt l2).symm.trans e⟩
theorem tr_size {h : Heap} {L : Nat} (hL : L ≤ h.objs.size) : (tr h L).objs.size = L := by
  have z : (tr h L).objs.size = min L h.objs.size - 0 := Array.size_extract
  omega
def trH (H : Hp) (L : Addr) : Hp := fun b => if b < L then H b else none
theorem trH_lt {H : Hp} {L b : Addr} (hb : b < L) : trH H L b = H b := if_pos hb
theorem trH_some {H : Hp} {L b : Addr} {u : HO} (e : trH H L b = some u) : b < L ∧ H b = some u := by
  unfold trH at e
  split at e
  · exact ⟨by assumption, e⟩
  · cases e
/-- the generator's own context, made anew at each waking: all below its frame stands as it does now -/
def gX (X : Cx) (env : Env) (N : List Str) (s : Shared) (H : Hp) : Cx where
  prog := X.prog
  w := X.w
  K := X.K
  mg := X.mg
  base := X.base
  A := X.A.in1.deeper env
  N := N
  s_0 := { s with heap := tr s.heap env.locals }
  H_0 := trH H env.locals
  env := env
  outer := X.stack
  stack := env :: X.stack
  ex := []
  fn := fun _ => true
  calm := true
  pn := []
  xe := fun _ _ => False
/-- what is so of its frame all along -/
structure GE (X : Cx) (env : Env) : Prop where
  kind : env.scope.kind = .function
  glob : env.globals = mainGlobals
  blt : env.builtins = builtinsNs
  cells : env.cells = []
  nocell : ∀ x, env.kindOf x ≠ some .cell ∧ env.kindOf x ≠ some .free
  frame : env.frame = some env.locals
  bsz : X.base.objs.size ≤ env.locals
  old : X.env.locals < env.locals
  olds : X.s_0.heap.objs.size ≤ env.locals
  oldc : ∀ x c, X.env.cells.lookup x = some c → c < env.locals
  oldf : ∀ b ∈ frs X.stack, b < env.locals
  hd : X.A.handled = none
section
variable {X : Cx} {env : Env} {N : List Str} {pins : List (Addr × Obj)} {σ : L2.St} {H : Hp} {s : Shared}
theorem Inv.regens {G : Array GenState} (I : Inv X pins σ H s) (hG : AllBare G) : Inv X pins σ H { s with gens := G } := ⟨I.ok, I.os, hG, I.base, I.loc, I.cell, I.free, I.freeC, I.pin, I.hok, I.len⟩
theorem toG (E : GE X env) (I : Inv X pins σ H s) (hL : H env.locals = none) (ns : ∃ m, s.heap.Ns env.locals m) (pl : List (Addr × Obj)) (hpl : ∀ p ∈ pl, s.heap.get? p.1 = some p.2 ∧ H p.1 = none ∧ p.1 ≠ env.locals ∧ p.1 ∉ frs X.stack ∧ ∀ v, p.2.data ≠ .cell v) :
    Inv (gX X env N s H) pl (List.replicate N.length none) H s := by
  obtain ⟨m, hm⟩ := ns
  have ltL : env.locals < s.heap.objs.size := hm.lt
  have noC : ∀ x c, env.cells.lookup x = some c → False := fun x c e => by
    rw [E.cells] at e
    cases e
  have nil : ∀ b : Addr, b ∉ ([] : List Addr) := fun b z => by cases z
  refine ⟨⟨I.ok.mod, E.kind, E.glob, E.blt, ?_, fun x y c h1 => (noC x c h1).elim, fun x hx => ?_, fun x c _ h => (noC x c h).elim, fun _ => E.hd, Around.frames_deeper I.ok.frames, .inr ⟨rfl, E.frame⟩, fun b z => absurd z (nil b), fun b o e => ?_, ?_, fun b _ _ => nil b, fun b z => absurd z (nil b), ?_, fun b hb => ?_⟩,
    rfl, I.bare, ⟨fun b o e n _ _ => ?_, fun b o e n _ _ => ?_, fun b o e n _ => ?_, fun b o e _ => ?_, fun b xs e => ?_, fun b o u e => ?_, fun b ps e => ?_⟩, ⟨m, hm, fun i x v _ h2 _ => ?_⟩, fun x c h => (noC x c h).elim, hL, fun x c h => (noC x c h).elim, fun p hp => hpl p hp, I.hok, List.length_replicate⟩
  · show (tr s.heap env.locals).objs.size ≤ env.locals
    rw [tr_size (Nat.le_of_lt ltL)]
    exact Nat.le_refl _
  · rcases hx with hx | hx
    · exact absurd hx (E.nocell x).1
    · exact absurd hx (E.nocell x).2
  · have lb : b < env.locals := Nat.lt_of_lt_of_le (Heap.lt_size e) E.bsz
    obtain ⟨q1, q2⟩ := I.bs b o e
    exact ⟨(tr_lt lb).trans q1, (trH_lt lb).trans q2⟩
  · show X.base.objs.size ≤ (tr s.heap env.locals).objs.size
    rw [tr_size (Nat.le_of_lt ltL)]
    exact E.bsz
  · show (tr s.heap env.locals).FunFrames X.base X.stack
    have all : ∀ (l : List Env), (∀ b ∈ frs l, b < env.locals) → s.heap.FunFrames X.base l → (tr s.heap env.locals).FunFrames X.base l := by
      intro l
      induction l with
      | nil => intro _ _; trivial
      | cons e1 r ih =>
        intro hs hl
        obtain ⟨hk, ⟨L, o, hf, hn, ho, hd⟩, hr⟩ := hl
        have hL : L < env.locals := hs L (by unfold frs; rw [List.filterMap_cons, hf]; exact List.mem_cons_self)
        exact ⟨hk, ⟨L, o, hf, hn, (tr_lt hL).trans ho, hd⟩, ih (fun b hb => hs b (by unfold frs; rw [List.filterMap_cons, hf]; exact List.mem_cons_of_mem _ hb)) hr⟩
    exact all X.stack E.oldf I.stack
  · have hb : b ∈ frs X.stack := hb
    exact (trH_lt (E.oldf b hb)).trans (I.stkFree b hb)
  · exact (tr_some e).2
  · exact ⟨o.slots, (tr_some e).2⟩
  · exact (trH_lt (tr_some e).1).symm.trans n
  · exact ⟨o, (tr_some e).2⟩
  · exact (trH_some e).2
  · exact (trH_some e).2
  · exact ⟨#[], by rw [(trH_some e).2]; simp⟩
  · rw [List.getElem?_replicate] at h2
    split at h2 <;> cases h2
open Classical in
/-- all that is younger than its frame, is not ours and no cell -/
noncomputable def yng (s : Shared) (H : Hp) (L : Addr) (fp : List Addr) : List (Addr × Obj) := (List.range s.heap.objs.size).filterMap fun b => if L < b ∧ b ∉ fp ∧ H b = none ∧ ∀ o v, s.heap.get? b = some o → o.data ≠ .cell v then (s.heap.get? b).map fun o => (b, o) else none
theorem mem_yng {L b : Addr} {fp : List Addr} {o : Obj} (h1 : L < b) (h2 : b ∉ fp) (h3 : H b = none) (h4 : s.heap.get? b = some o) (h5 : ∀ v, o.data ≠ .cell v) : (b, o) ∈ yng s H L fp := by
  refine List.mem_filterMap.mpr ⟨b, List.mem_range.mpr (Heap.lt_size h4), ?_⟩
  rw [if_pos ⟨h1, h2, h3, fun o' v e => by rw [h4] at e; cases e; exact h5 v⟩, h4]
  rfl
theorem of_yng {L : Addr} {fp : List Addr} {p : Addr × Obj} (h : p ∈ yng s H L fp) : L < p.1 ∧ p.1 ∉ fp ∧ H p.1 = none ∧ s.heap.get? p.1 = some p.2 ∧ ∀ v, p.2.data ≠ .cell v := by
  obtain ⟨b, _, e⟩ := List.mem_filterMap.mp h
  split at e
  · rename_i c
    obtain ⟨c1, c2, c3, c4⟩ := c
    cases q : s.heap.get? b with
    | none => rw [q] at e; cases e
    | some o =>
      rw [q] at e
      have e' : (b, o) = p := Option.some.inj e
      subst e'
      exact ⟨c1, c2, c3, q, fun v => c4 o v q⟩
  · cases e
theorem lty {b L : Nat} (h1 : b ≠ L) (hl : ¬ b < L) : L < b := by omega
open Classical in
/-- what may turn while the generator runs -/
noncomputable def trn (s : Shared) (H : Hp) (L : Addr) (fp : List Addr) : List Addr := L :: (fp ++ (List.range s.heap.objs.size).filter fun b => decide (L < b ∧ ∃ o v, s.heap.get? b = some o ∧ o.data = .cell v))
theorem objOk_there {P : Program} {w : World} {h : Heap} {b : Addr} {u : HO} (x : ObjOk P w H h b u) : ∃ o, h.get? b = some o := by
  cases u with
  | lst xs => obtain ⟨_, _, _, _, e⟩ := x; exact ⟨_, e⟩
  | tup xs => obtain ⟨_, _, _, o, e, _⟩ := x; exact ⟨o, e⟩
  | dK kvs => obtain ⟨_, _, _, _, o, _, _, e, _⟩ := x; exact ⟨o, e⟩
  | dT kvs => obtain ⟨_, _, _, _, o, _, _, e, _⟩ := x; exact ⟨o, e⟩
  | set S n => obtain ⟨o, _, _, _, e, _⟩ := x; exact ⟨o, e⟩
  | ins C dx fs => obtain ⟨_, _, _, e, _⟩ := x; exact ⟨_, e⟩
  | own y => obtain ⟨_, e⟩ := x; exact ⟨_, e⟩
  | xd fs => obtain ⟨_, ⟨o, _, _, e, _⟩, _⟩ := x; exact ⟨o, e⟩
  | rng lo hi => obtain ⟨_, _, _, e⟩ := x; exact ⟨_, e⟩
  | frz ob u => obtain ⟨e, _⟩ := x; exact ⟨_, e⟩
  | tbl ps => exact ⟨_, show h.get? b = some _ from x⟩
  | met f y => exact ⟨_, show h.get? b = some _ from x⟩
  | ext φ => obtain ⟨_, ⟨o, e⟩, _⟩ := x; exact ⟨o, e⟩
open Classical in
/-- back at the consumer -/
theorem back {fp : List Addr} {pm : List (Addr × Obj)} {σ' : L2.St} {H' : Hp} {s' : Shared} (E : GE X env) (I : Inv X pins σ H s) (fL : FpOk X pins H env.locals) (ff : ∀ b ∈ fp, FpOk X pins H b) (J : Inv (gX X env N s H) (yng s H env.locals fp ++ pm) σ' H' s') (km : ∀ b u, H b = some u → H' b = some u) :
    Inv X pins σ H' s' := by
  have pinY : ∀ {b o}, s.heap.get? b = some o → H b = none → b ∉ trn s H env.locals fp → ¬ b < env.locals → s'.heap.get? b = some o ∧ H' b = none := fun {b o} e n hx hl => by
    have h1 : b ≠ env.locals := fun z => hx (by rw [z]; exact List.mem_cons_self)
    have h2 : b ∉ fp := fun z => hx (List.mem_cons_of_mem _ (List.mem_append_left _ z))
    have h3 : ∀ v, o.data ≠ .cell v := fun v z => hx (List.mem_cons_of_mem _ (List.mem_append_right _ (List.mem_filter.mpr ⟨List.mem_range.mpr (Heap.lt_size e), decide_eq_true ⟨lty h1 hl, o, v, e, z⟩⟩)))
    have m := mem_yng (s := s) (H := H) (L := env.locals) (fp := fp) (b := b) (o := o) (lty h1 hl) h2 n e h3
    obtain ⟨q1, q2, _⟩ := J.pin (b, o) (List.mem_append_right _ (List.mem_append_left _ m))
    exact ⟨q1, q2⟩
  have nil : ∀ b : Addr, b ∉ ([] : List Addr) := fun b z => by cases z
  refine I.call' (ch := trn s H env.locals fp) (s' := s') J.os ⟨fun b o e n hb hx => ?_, fun b o e n hb hx => ?_, fun b o e n hx => ?_, fun b o e hx => ?_, fun b xs e => km _ _ e, fun b o u e => km _ _ e, fun b ps e => ⟨#[], by rw [km _ _ e]; simp⟩⟩ J.hok J.bare fun b hb => ?_
  · by_cases l : b < env.locals
    · exact J.base.keep b o ((tr_lt l).trans e) ((trH_lt l).trans n) hb (nil b)
    · exact (pinY e n hx l).1
  · have l := E.oldf b hb
    exact J.base.slot b o ((tr_lt l).trans e) ((trH_lt l).trans n) hb (nil b)
  · by_cases l : b < env.locals
    · exact J.base.free b o ((tr_lt l).trans e) ((trH_lt l).trans n) (nil b)
    · exact (pinY e n hx l).2
  · by_cases l : b < env.locals
    · exact J.base.there b o ((tr_lt l).trans e) (nil b)
    · cases q : H b with
      | none => exact ⟨o, (pinY e q hx l).1⟩
      | some u => exact objOk_there (J.hok b u (km b u q))
  · rcases List.mem_cons.mp hb with z | hb
    · rw [z]
      exact ⟨fL.2.2.2.1, fL.2.1, fL.2.2.2.2.1, fL.2.2.2.2.2⟩
    · rcases List.mem_append.mp hb with hb | hb
      · exact ⟨(ff b hb).2.2.2.1, (ff b hb).2.1, (ff b hb).2.2.2.2.1, (ff b hb).2.2.2.2.2⟩
      · obtain ⟨lb, o, v, e, d⟩ := of_decide_eq_true (List.mem_filter.mp hb).2
        refine ⟨.inr (Nat.le_of_lt (Nat.lt_of_le_of_lt E.olds lb)), fun z => absurd (Nat.lt_trans (z ▸ lb) E.old) (Nat.lt_irrefl _), fun x c h z => ?_, fun p hp z => ?_⟩
        · have := E.oldc x c h
          rw [z] at this
          exact absurd (Nat.lt_trans this lb) (Nat.lt_irrefl _)
        · obtain ⟨q1, _, _, _, q5⟩ := I.pin p hp
          rw [z, e] at q1
          cases q1
          exact q5 v d
end
end Gr
namespace Gs
open PySem PySem.Spec PyProof.Rows L2 GenW Gq Gr
open Sem (wp)
section
variable {X : Cx} {env : Env} {N : List Str} {pins : List (Addr × Obj)} {σ : L2.St} {H : Hp} {s : Shared}
theorem fpTo {H' : Hp} {b : Addr} (f : FpOk X pins H b) (h : H' b = none) : FpOk X pins H' b := ⟨h, f.2⟩
/-- at the turn i, ahead of a waking -/
structure Wk (X : Cx) (env : Env) (a : Addr) (g : Nat) (fp : List Addr) (tn : Nat → Heap → Prop) (i : Nat) (pins : List (Addr × Obj)) (σ : L2.St) (H : Hp) (s : Shared) : Prop where
  inv : Inv X pins σ H s
  fL : FpOk X pins H env.locals
  ff : ∀ b ∈ fp, FpOk X pins H b
  fa : FpOk X pins H a
  gen : s.heap.IsGen a g
  ns : ∃ m, s.heap.Ns env.locals m
  st : tn i s.heap
theorem Wk.regens {a : Addr} {g : Nat} {fp : List Addr} {tn : Nat → Heap → Prop} {i : Nat} {G : Array GenState} (W : Wk X env a g fp tn i pins σ H s) (hG : AllBare G) : Wk X env a g fp tn i pins σ H { s with gens := G } :=
  ⟨Inv.regens W.inv hG, W.fL, W.ff, W.fa, W.gen, W.ns, W.st⟩
/-- how a waking ends when m turns are left -/
def Dn (X : Cx) (env : Env) (a : Addr) (g : Nat) (fp : List Addr) (tn : Nat → Heap → Prop) (Yl : Nat → Hp → V → Hp → Prop) (tot m : Nat) (R : Nat → Code → Sem PySem.Fin → List Frame → Prop) (pins : List (Addr × Obj)) (σ : L2.St) (H : Hp) (e : End) (s1 : Shared) : Prop :=
  match m with
  | 0 => e = .ret (.ok (.ret .none)) ∧ Inv X pins σ H s1
  | m + 1 => ∃ v gg l k c p fs x H1, e = .susp v gg l k c p fs ∧ e.quiet = true ∧ RelV x v ∧ Yl (tot - (m + 1)) H x H1 ∧ Wk X env a g fp tn (tot - m) pins σ H1 s1 ∧ R m c (k (.send .none)) fs
def Rdy (X : Cx) (A : Around) (env : Env) (a : Addr) (g : Nat) (fp : List Addr) (tn : Nat → Heap → Prop) (Yl : Nat → Hp → V → Hp → Prop) (tot : Nat) : Nat → Code → Sem PySem.Fin → List Frame → Prop
  | 0 => fun c t fs => ∀ pins σ H s, Wk X env a g fp tn tot pins σ H s → SegC (model X.prog X.w) A (Dn X env a g fp tn Yl tot 0 (fun _ _ _ _ => False) pins σ H) c t fs s
  | m + 1 => fun c t fs => ∀ pins σ H s, Wk X env a g fp tn (tot - (m + 1)) pins σ H s → SegC (model X.prog X.w) A (Dn X env a g fp tn Yl tot (m + 1) (fun _ => Rdy X A env a g fp tn Yl tot m) pins σ H) c t fs s
theorem Rdy.to {A : Around} {a : Addr} {g : Nat} {fp : List Addr} {tn : Nat → Heap → Prop} {Yl : Nat → Hp → V → Hp → Prop} {tot : Nat} {c c' : Code} {t t' : Sem PySem.Fin} {fs fs' : List Frame} : ∀ {m : Nat},
    (∀ F s, SegC (model X.prog X.w) A F c t fs s → SegC (model X.prog X.w) A F c' t' fs' s) → Rdy X A env a g fp tn Yl tot m c t fs → Rdy X A env a g fp tn Yl tot m c' t' fs'
  | 0, i, h => fun pins σ H s W => i _ _ (h pins σ H s W)
  | _ + 1, i, h => fun pins σ H s W => i _ _ (h pins σ H s W)
/-- the body of the generator's loop -/
structure GBody (X : Cx) (env : Env) (N : List Str) (tg e : Expr) (te : TE) (tot : Nat) (Yl : Nat → Hp → V → Hp → Prop) : Prop where
  pg : ∀ s H, PG (gX X env N s H) tg (gName 0)
  pe : ∀ s H, PE (gX X env N s H) e te
  te : ∀ i H Q, i < tot → (∀ x H', Yl i H x H' → Q x H') → te ((List.replicate N.length none).set 0 (some (.int (0 + (i : Nat))))) H Q
  yl : ∀ i H x H', Yl i H x H' → ∀ b u, H b = some u → H' b = some u
  co : env.scope.isCoroutine = false
  int : interactive env = false
theorem loop_rdy {a : Addr} {g : Nat} {fp : List Addr} {it : Addr} {tn : Nat → Heap → Prop} {tot : Nat} {Yl : Nat → Hp → V → Hp → Prop} {tg e : Expr} {te : TE} {yp ep : Pos} {K : PySem.W.Frag} (E : GE X env) (B : GBody X env N tg e te tot Yl) (hK : X.K = K) (T : Turn X.prog X.w K tg (Itr 0 tot) fp it tn)
    (hLf : ∀ b ∈ fp, env.locals < b) (haf : a ∉ fp) (hLa : env.locals < a) {kk : Result → Sem PySem.Fin} {l : List Value} {c0 : Code} {p0 : Pos} (hov : ∀ A : Around, A.over c0 [] = A.deeper env)
    (hend : ∀ F s, F (.ret (.ok (.ret .none))) s → SegC (model X.prog X.w) X.A.in1 F c0 (kk (.ok .next)) [] s) : ∀ m, m ≤ tot →
    Rdy X X.A.in1 env a g fp tn Yl tot m (.forLoop tg (.ref it) [.Expr (.Yield (some e) yp) ep] [] env) ((model X.prog X.w).den (.forLoop tg (.ref it) [.Expr (.Yield (some e) yp) ep] [] env)) [.ret kk none false l c0 p0 []] := by
  have over : X.A.in1.over (.forLoop tg (.ref it) [.Expr (.Yield (some e) yp) ep] [] env) [.ret kk none false l c0 p0 []] = X.A.in1.deeper env := (over_loop rfl rfl).trans (hov _)
  -- the generator's own side at a waking
  have side : ∀ {i pins σ H s}, Wk X env a g fp tn i pins σ H s → Inv (gX X env N s H) (yng s H env.locals fp) (List.replicate N.length none) H s ∧ ∀ b ∈ fp, FpOk (gX X env N s H) (yng s H env.locals fp) H b := fun {i pins σ H s} W => by
    have J := toG (N := N) E W.inv W.fL.1 W.ns (yng s H env.locals fp) fun p hp => by
      obtain ⟨q1, q2, q3, q4, q5⟩ := of_yng hp
      exact ⟨q4, q3, Nat.ne_of_gt q1, fun z => absurd (Nat.lt_trans (E.oldf _ z) q1) (Nat.lt_irrefl _), q5⟩
    refine ⟨J, fun b hb => ⟨(W.ff b hb).1, Nat.ne_of_gt (hLf b hb), fun z => absurd (Nat.lt_trans (E.oldf _ z) (hLf b hb)) (Nat.lt_irrefl _), .inr ?_, fun x c z => ?_, fun p hp z => ?_⟩⟩
    · obtain ⟨m, hm⟩ := W.ns
      show (tr s.heap env.locals).objs.size ≤ b
      rw [tr_size (Nat.le_of_lt hm.lt)]
      exact Nat.le_of_lt (hLf b hb)
    · have z : env.cells.lookup x = some c := z
      rw [E.cells] at z
      cases z
    · exact (of_yng hp).2.1 (by rw [z]; exact hb)
  intro m
  induction m with
  | zero =>
    intro _ pins σ H s W
    obtain ⟨J, Jf⟩ := side W
    refine segc_forLoop ?_
    rw [over]
    refine wpAny_mono (T.done (gX X env N s H) rfl rfl hK rfl tot _ s _ H (fun _ _ => False) J Jf W.st (Nat.le_refl _)) (fun r s1 ⟨hr, J1⟩ => ?_) fun _ _ x => x
    subst hr
    refine segc_block0 (segc_leaf (.ok .next) (hend _ _ ⟨rfl, ?_⟩))
    exact back (pm := []) E W.inv W.fL W.ff (by rw [List.append_nil]; exact J1) fun _ _ z => z
  | succ m ih =>
    intro hm pins σ H s W
    obtain ⟨J, Jf⟩ := side W
    have hi : tot - (m + 1) < tot := by omega
    refine segc_forLoop ?_
    rw [over]
    refine wpAny_mono (T.item (gX X env N s H) rfl rfl hK rfl (tot - (m + 1)) _ s _ H (fun _ _ => False) J Jf W.st hi) (fun r s1 ⟨u, hr, h1⟩ => ?_) fun _ _ x => x
    subst hr
    refine wpAny_mono h1 (fun _ s5 ⟨x, H5, J5, r5, y5, st5, fr5⟩ => ?_) fun _ _ x => x
    obtain ⟨e5, ex⟩ := y5
    subst e5
    subst ex
    have obj5 := T.obj _ _ st5
    have J5' := Inv.pinned J5 (fun b hb => fpTo (Jf b hb) (fr5 b hb)) obj5
    refine wpAny_mono ((B.pg s H5).run _ s5 _ H5 _ u (fun σ' H' => σ' = (List.replicate N.length none).set 0 (some (.int (0 + ((tot - (m + 1) : Nat) : Int)))) ∧ H' = H5) J5' r5 ⟨rfl, rfl⟩) (fun _ s6 ⟨σ6, H6, J6, e6, e7⟩ => ?_) fun _ _ x => x
    subst e6
    subst e7
    rw [execs_cons_wrap]
    refine segc_Expr_Yield rfl ?_ B.co B.int
    rw [over]
    refine wpAny_mono ((B.pe s H6).run _ s6 _ H6 _ J6 (B.te _ H6 (fun x H' => Yl (tot - (m + 1)) H6 x H') hi fun _ _ z => z)) (fun v s7 ⟨x, H7, J7, rx, y7⟩ => ?_) fun _ _ x => x.elim
    intro l7 k7 p7 ek
    have km := B.yl _ _ _ _ y7
    have I7 := back (fp := fp) E W.inv W.fL W.ff J7 km
    have pinf : ∀ b ∈ fp, ∀ o, s5.heap.get? b = some o → s7.heap.get? b = some o ∧ H7 b = none := fun b hb o eo =>
      let z := J7.pin (b, o) (List.mem_append_right _ (List.mem_append_right _ (mem_pinsAt hb eo)))
      ⟨z.1, z.2.1⟩
    obtain ⟨og, nm, qn, eg, hgc, hgd, hgs⟩ := id W.gen
    have pina := J7.pin (a, og) (List.mem_append_right _ (List.mem_append_left _ (mem_yng hLa haf W.fa.1 eg fun v z => by rw [hgd] at z; cases z)))
    refine ⟨v, _, l7, k7, _, p7, _, x, H7, rfl, rfl, rx, y7, ⟨I7, fpTo W.fL J7.free, fun b hb => ?_, fpTo W.fa pina.2.1, ⟨og, nm, qn, pina.1, hgc, hgd, hgs⟩, ?_, ?_⟩, ?_⟩
    · obtain ⟨o, eo, _⟩ := obj5 b hb
      exact fpTo (W.ff b hb) (pinf b hb o eo).2
    · obtain ⟨m7, hn7, _⟩ := J7.loc
      exact ⟨m7, hn7⟩
    · have e : tot - (m + 1) + 1 = tot - m := by omega
      rw [← e]
      exact T.keep _ _ _ st5 fun b hb o eo => (pinf b hb o eo).1
    · rw [ek]
      exact Rdy.to (fun F s' h => segc_again rfl h) (ih (by omega))
/-- the first waking: the loop is begun -/
theorem first {a : Addr} {g : Nat} {tot : Nat} {Yl : Nat → Hp → V → Hp → Prop} {tg e iter : Expr} {te : TE} {wi : TI} {yp ep pos : Pos} {K : PySem.W.Frag} (E : GE X env) (B : GBody X env N tg e te tot Yl) (hK : X.K = K) (h0 : 0 < tot) (hLa : env.locals < a) (hpi : ∀ s H, PI (gX X env N s H) tg iter wi) (hwi : ∀ σ H R, R (Itr 0 tot) H → wi σ H R)
    (hfo : ∀ x, foldedSetIterable iter env x = pure x) (hov : ∀ A : Around, A.over (.func [.For tg iter [.Expr (.Yield (some e) yp) ep] [] pos] env) [] = A.deeper env)
    (I : Inv X pins σ H s) (fL : FpOk X pins H env.locals) (fa : FpOk X pins H a) (gen : s.heap.IsGen a g) (ns : ∃ m, s.heap.Ns env.locals m) :
    SegC (model X.prog X.w) X.A.in1 (fun e1 s1 => ∃ fp tn, (∀ b ∈ fp, env.locals < b) ∧ a ∉ fp ∧ (∃ it, Turn X.prog X.w K tg (Itr 0 tot) fp it tn) ∧ Dn X env a g fp tn Yl tot (tot - 1 + 1) (fun _ => Rdy X X.A.in1 env a g fp tn Yl tot (tot - 1)) pins σ H e1 s1)
      (.func [.For tg iter [.Expr (.Yield (some e) yp) ep] [] pos] env) ((model X.prog X.w).den (.func [.For tg iter [.Expr (.Yield (some e) yp) ep] [] pos] env)) [] s := by
  subst hK
  have J := toG (N := N) E I fL.1 ns (yng s H env.locals []) fun p hp => by
    obtain ⟨q1, q2, q3, q4, q5⟩ := of_yng hp
    exact ⟨q4, q3, Nat.ne_of_gt q1, fun z => absurd (Nat.lt_trans (E.oldf _ z) q1) (Nat.lt_irrefl _), q5⟩
  have ltL : env.locals < s.heap.objs.size := let ⟨_, hm⟩ := ns; hm.lt
  refine segc_func ?_
  rw [execs_cons_wrap]
  refine segc_For hfo ?_
  rw [hov]
  refine wpAny_mono ((hpi s H).run _ s _ H (fun J' H' => J' = Itr 0 tot ∧ H' = H) J (hwi _ _ _ ⟨rfl, rfl⟩)) (fun v s1 h1 => ?_) fun _ _ x => x.elim
  refine wpAny_mono h1 (fun u s2 h2 => ?_) fun _ _ x => x.elim
  obtain ⟨it, fp, tn, J', H2, eu, J2, T, st2, f2, eJ, eH⟩ := h2
  subst eu
  subst eJ
  subst eH
  intro k l p ek
  have hL : ∀ b ∈ fp, env.locals < b := fun b hb => by
    obtain ⟨_, n1, _, z, _⟩ := f2 b hb
    rcases z with z | z
    · cases z
    · have z : (tr s.heap env.locals).objs.size ≤ b := z
      rw [tr_size (Nat.le_of_lt ltL)] at z
      exact Nat.lt_of_le_of_ne z (Ne.symm n1)
  have apart : ∀ p ∈ yng s H2 env.locals [], p.1 ∉ fp := fun p hp z => (f2 p.1 z).2.2.2.2.2 p (List.mem_append_right _ hp) rfl
  obtain ⟨og, nm, qn, eg, hgc, hgd, hgs⟩ := id gen
  have ya := mem_yng (s := s) (H := H2) (L := env.locals) (fp := []) hLa (fun z => by cases z) fa.1 eg fun v z => by rw [hgd] at z; cases z
  have haf : a ∉ fp := apart _ ya
  have I2 := back (fp := []) (pm := []) E I fL (fun b z => by cases z) (by rw [List.append_nil]; exact J2) fun _ _ z => z
  have pina := J2.pin (a, og) (List.mem_append_right _ ya)
  have W : Wk X env a g fp tn 0 pins σ H2 s2 := ⟨I2, fL, fun b hb => ⟨(f2 b hb).1, Nat.ne_of_gt (Nat.lt_trans E.old (hL b hb)), fun z => ?_, .inr (Nat.le_of_lt (Nat.lt_of_le_of_lt E.olds (hL b hb))), fun x c z y => ?_, fun p hp z => ?_⟩, fa, ⟨og, nm, qn, pina.1, hgc, hgd, hgs⟩, (let ⟨m2, hn2, _⟩ := J2.loc; ⟨m2, hn2⟩), st2⟩
  · obtain ⟨n, rfl⟩ : ∃ n, tot = n + 1 := ⟨tot - 1, by omega⟩
    have q := loop_rdy (g := g) (yp := yp) (ep := ep) E B rfl T hL haf hLa (kk := k) (l := l) (p0 := p) hov (fun F s' h => by
      rw [ek]
      exact segc_end (.ok (.ret .none)) h) (n + 1) (Nat.le_refl _)
    refine segc_mono (q pins σ H2 s2 (by rw [Nat.sub_self]; exact W)) fun e1 s1 h => ⟨fp, tn, hL, haf, ⟨it, T⟩, h⟩
  · have hz : b ∈ frs X.stack := by
      rcases I.ok.stk with q | ⟨q, _⟩
      · rw [q]; exact z
      · rw [q]
        unfold frs
        rw [List.filterMap_cons]
        split
        · exact z
        · exact List.mem_cons_of_mem _ z
    exact absurd (Nat.lt_trans (E.oldf _ hz) (hL b hb)) (Nat.lt_irrefl _)
  · have q := E.oldc x c z
    rw [y] at q
    exact absurd (Nat.lt_trans q (hL b hb)) (Nat.lt_irrefl _)
  · obtain ⟨q1, q2, _, _, q5⟩ := I.pin p hp
    have lb := hL b hb
    rw [← z] at lb hb
    exact apart (p.1, p.2) (mem_yng lb (fun z => by cases z) q2 q1 q5) hb
end
end Gs
namespace Gt
open PySem PySem.Spec PyProof.Rows L2 GenW Gq Gr Gs
open Sem (wp)
/-- for x in g(): Yl i: what the turn i hands out -/
def tForG (tot : Nat) (Yl : Nat → Hp → V → Hp → Prop) (g : TG) (tb : TS) : TS := fun D σ H => ∃ W : Nat → L2.St → Hp → Prop, W 0 σ H ∧
  (∀ i σ H, i < tot → W i σ H → ∀ x H', Yl i H x H' → g x σ H' fun σ2 H2 => tb { D with nx := W (i + 1), ct := W (i + 1), bk := D.nx } σ2 H2) ∧ ∀ σ H, W tot σ H → D.nx σ H
theorem goes_mono {M : Model} {A : Around} {F F' : End → Shared → Prop} {gs : GenState} {s : Shared} (h : GoesC M A F gs s) (i : ∀ e s', F e s' → F' e s') : GoesC M A F' gs s := by
  cases gs with
  | fresh c => exact segc_mono h i
  | suspended k l c p fs cl => exact segc_mono h i
  | running => exact h.elim
  | finished => exact h.elim
section
variable {X : Cx}
theorem ps_forG {f : Addr} {x qual : Str} {cdv oc dV kV doc pm ct : Value} {an od : Option Addr} {osl : Array (Option Value)} {params : Arguments} {scope : Scope} {N : List Str} {tot : Nat} {Yl : Nat → Hp → V → Hp → Prop} {tgG eG iterG : Expr} {teG : TE} {wiG : TI} {yp ep fp_ : Pos}
    {tg : Expr} {body : List Stmt} {g : TG} {tb : TS} {pos cp np : Pos}
    (lk : X.K.lookup f = some ⟨oc, od, .func (PySem.W.fnOf x qual params [.For tgG iterG [.Expr (.Yield (some eG) yp) ep] [] fp_] scope dV kV doc pm an cdv ct), osl⟩) (hcd : PySem.W.codeIn X.K cdv qual = true) (hkp : PySem.W.keepIn X.K (.ref f) = true) (S : GScope N [] scope)
    (hbd : Binds X.K (PySem.W.fnOf x qual params [.For tgG iterG [.Expr (.Yield (some eG) yp) ep] [] fp_] scope dV kV doc pm an cdv ct) [] [])
    (hcells : ∀ n, cellsFrom n scope.names [] = []) (hnc : ∀ y, scope.names.lookup y ≠ some .cell ∧ scope.names.lookup y ≠ some .free) (h0 : 0 < tot)
    (hB : ∀ L, GBody X (envOfC qual scope L f cdv) N tgG eG teG tot Yl) (hpi : ∀ L s H, PI (gX X (envOfC qual scope L f cdv) N s H) tgG iterG wiG) (hwi : ∀ σ H R, R (Itr 0 tot) H → wiG σ H R) (hfo : ∀ L y, foldedSetIterable iterG (envOfC qual scope L f cdv) y = pure y)
    (hg : Gl X x) (hm : X.mg x = some (.ref f)) (hr : Room 2 X.A) (hxe : ∀ e s, ¬ X.xe e s) (hgT : PG X tg g) (hb : PSs X body tb) (hdb : (x == ("__debug__" : Str)) = false := by decide)
    (hs : ∀ y, foldedSetIterable (.Call (.Name x np) [] [] cp) X.env y = pure y := by intro _; rfl) : PS X (.For tg (.Call (.Name x np) [] [] cp) body [] pos) (tForG tot Yl g tb) := by
  refine ⟨fun pins s σ H D I h => ?_⟩
  obtain ⟨W, w0, step, fin⟩ := h
  refine wpAny_For ?_ hs
  have KX : X.K.In s.heap := I.kIn
  refine wpAny_Call_Name_kw (ld_glob I hg hm ?_ hdb)
  refine PySem.W.callWith_K0 KX hkp ?_
  have nil : ∀ (b : Addr), b ∉ ([] : List Addr) := fun b z => by cases z
  refine wpAny_call (codeAny_mono (R := fun r s' => ∃ a g, r = .ok (.ret (.ref a)) ∧ Inv X pins σ H s' ∧ GE X (envOfC qual scope s.heap.objs.size f cdv) ∧ FpOk X pins H s.heap.objs.size ∧ FpOk X pins H a ∧ s.heap.objs.size < a ∧ s'.heap.IsGen a g ∧ (∃ m, s'.heap.Ns s.heap.objs.size m) ∧
    s'.gens[g]? = some (.fresh (.func [.For tgG iterG [.Expr (.Yield (some eG) yp) ep] [] fp_] (envOfC qual scope s.heap.objs.size f cdv)))) ?_ ?_)
  · refine codeAny_call_generator hr.depth (KX _ _ lk) rfl S.co S.gen rfl (PySem.W.codeRec_of KX hcd) (hbd s [] KX rfl _ _ _ _ ?_)
    refine wpAny_newFunctionEnv_cells S.kind (fun y hy => by cases hy) fun env he s1 x1 => ?_
    have he : env = envOfC qual scope s.heap.objs.size f cdv := he
    subst he
    have lim1 : s1.heap.NoLimit := I.nolimit.keeps x1.toInCall.keep
    refine ⟨lim1, ?_⟩
    obtain ⟨h1, tk, es1, hk1⟩ := x1.done
    have os1 : s1.os = s.os := by rw [es1]
    have gen1 : s1.gens = s.gens := by rw [es1]
    have lt1 : s.heap.objs.size < s1.heap.objs.size := x1.toInCall.ns.lt
    have kp1 : ∀ b o, s.heap.get? b = some o → s1.heap.get? b = some o := x1.toInCall.keep
    have kp2 : ∀ (go : Obj) b o, s.heap.get? b = some o → (s1.heap.push go).get? b = some o := fun go b o e => Heap.get?_push_of_some _ (kp1 b o e)
    refine ⟨_, s1.gens.size, rfl, I.call' (ch := []) os1 (Un.kept (kp2 _)) (I.hok.kept (kp2 _)) (AllBare.push (by rw [gen1]; exact I.bare) rfl) (fun b z => absurd z (nil b)), ⟨S.kind, rfl, rfl, hcells _, hnc, rfl, Nat.le_trans I.ok.bsz I.sz, I.lt, I.sz, fun y c e => ?_, fun b hb => ?_, hr.hd⟩,
      Inv.fpOk I (Nat.le_refl _) (I.hok.fresh (Nat.le_refl _)), Inv.fpOk I (Nat.le_of_lt lt1) (I.hok.fresh (Nat.le_of_lt lt1)), lt1, ⟨_, _, _, Heap.get?_push_size _ rfl, rfl, rfl, rfl⟩, ⟨_, x1.toInCall.ns.push _⟩, Array.getElem?_push_size ..⟩
    · obtain ⟨v, o, ho, _⟩ := I.cell y c e
      exact Heap.lt_size ho
    · obtain ⟨_, o, ho, _⟩ := I.stack.mem hb
      exact Heap.lt_size ho
  rintro r s' ⟨a, g', rfl, I1, E, fL, fa, hLa, hgen, hns, hgs⟩
  -- the state at a turn
  refine wpAny_pyIter_gen hgen ?_
  have hxe' : ∀ e s', X.xe e s' → False := hxe
  refine codeAny_forLoop_any (fun n s2 => ∃ i σ' H', n = tot - i ∧ i ≤ tot ∧ W i σ' H' ∧ Inv X pins σ' H' s2 ∧ FpOk X pins H' s.heap.objs.size ∧ FpOk X pins H' a ∧ s2.heap.IsGen a g' ∧ (∃ m, s2.heap.Ns s.heap.objs.size m) ∧
    ((i = 0 ∧ s2.gens[g']? = some (.fresh (.func [.For tgG iterG [.Expr (.Yield (some eG) yp) ep] [] fp_] (envOfC qual scope s.heap.objs.size f cdv)))) ∨
      (0 < i ∧ ∃ fp tn, (∀ b ∈ fp, s.heap.objs.size < b) ∧ a ∉ fp ∧ (∃ it, Turn X.prog X.w X.K tgG (Itr 0 tot) fp it tn) ∧ (∀ b ∈ fp, FpOk X pins H' b) ∧ tn i s2.heap ∧ ∃ k l c p fs cl, s2.gens[g']? = some (.suspended k l c p fs cl) ∧ Rdy X X.A.in1 (envOfC qual scope s.heap.objs.size f cdv) a g' fp tn Yl tot (tot - i) c (k (.send .none)) fs)))
    ?_ tot ⟨0, σ, H, rfl, Nat.zero_le _, w0, I1, fL, fa, hgen, hns, .inl ⟨rfl, hgs⟩⟩
  rintro n s2 ⟨i, σ2, H2, rfl, hi, w2, I2, fL2, fa2, gen2, ns2, st2⟩
  have lim2 : s2.heap.NoLimit := I2.nolimit
  have bareR : AllBare (s2.setGen g' .running).gens := allBare_setGen I2.bare rfl
  have I2r := Inv.regens I2 bareR
  by_cases lt : i < tot
  · obtain ⟨m, hm⟩ : ∃ m, tot - i = m + 1 := ⟨tot - i - 1, by omega⟩
    have ei : tot - (m + 1) = i := by omega
    have key : ∃ gs, s2.gens[g']? = some gs ∧ GoesC (model X.prog X.w) X.A.in1 (fun e1 s1 => ∃ fp tn, (∀ b ∈ fp, s.heap.objs.size < b) ∧ a ∉ fp ∧ (∃ it, Turn X.prog X.w X.K tgG (Itr 0 tot) fp it tn) ∧ Dn X (envOfC qual scope s.heap.objs.size f cdv) a g' fp tn Yl tot (m + 1) (fun _ => Rdy X X.A.in1 (envOfC qual scope s.heap.objs.size f cdv) a g' fp tn Yl tot m) pins σ2 H2 e1 s1) gs (s2.setGen g' .running) := by
      rcases st2 with ⟨e0, hgs2⟩ | ⟨_, fp, tn, q1, q2, q3, q4, q5, k, l, c, p, fs, cl, hgs2, rdy⟩
      · subst e0
        refine ⟨_, hgs2, ?_⟩
        have q := first (a := a) (g := g') (iter := iterG) (wi := wiG) (yp := yp) (ep := ep) (pos := fp_) E (hB _) rfl h0 hLa (hpi _) hwi (hfo _) (fun A => over_func) I2r fL2 fa2 gen2 ns2
        have em : tot - 1 = m := by omega
        rw [em] at q
        exact q
      · refine ⟨_, hgs2, ?_⟩
        rw [hm] at rdy
        have q := rdy pins σ2 H2 (s2.setGen g' .running) (by rw [ei]; exact ⟨I2r, fL2, q4, fa2, gen2, ns2, q5⟩)
        exact segc_mono q fun e1 s1 h => ⟨fp, tn, q1, q2, q3, h⟩
    obtain ⟨gs, hgs2, hgo⟩ := key
    have hgl : g' < s2.gens.size := (Array.getElem?_eq_some_iff.mp hgs2).1
    refine wpAny_gsz (n := g' + 1) hgl (next_genC hr.hd lim2 hr.depth gen2 hgs2 (goes_mono hgo ?_))
    rintro e1 s1 ⟨fp, tn, q1, q2, ⟨it, T⟩, v, gg, l, k, c, p, fs, x, H1, rfl, hq, rv, y1, W1, rdy⟩
    refine .inr ⟨v, gg, l, k, c, p, fs, rfl, hq, fun hsz => ?_⟩
    rw [ei] at y1
    have ei1 : tot - m = i + 1 := by omega
    rw [ei1] at W1
    have hg1 : g' < s1.gens.size := by
      have z : (s1.setGen g' (End.susp v gg l k c p fs).genState).gens.size = s1.gens.size := setGen_size _ _ _
      have hsz' : g' + 1 ≤ (s1.setGen g' (End.susp v gg l k c p fs).genState).gens.size := hsz
      omega
    have bare1 : AllBare (s1.setGen g' (End.susp v gg l k c p fs).genState).gens := allBare_setGen W1.inv.bare (End.bare_of_quiet hq)
    have at1 : (s1.setGen g' (End.susp v gg l k c p fs).genState).gens[g']? = some (.suspended k l c p fs (gg || fs.any Frame.guarded)) := setGen_at hg1
    have W1' := Wk.regens W1 bare1
    obtain ⟨og, nm, qn, eg, hgc, hgd, hgs0⟩ := id W1'.gen
    have objs : ∀ b ∈ s.heap.objs.size :: a :: fp, ∃ o, s1.heap.get? b = some o ∧ ∀ v, o.data ≠ .cell v := fun b hb => by
      rcases List.mem_cons.mp hb with z | hb
      · obtain ⟨mm, o, es, epp, ho, hd, _⟩ := W1.ns
        rw [z]
        exact ⟨o, ho, fun v z => by rw [hd] at z; cases z⟩
      · rcases List.mem_cons.mp hb with z | hb
        · rw [z]
          exact ⟨og, eg, fun v z => by rw [hgd] at z; cases z⟩
        · exact T.obj _ _ W1.st b hb
    have ffs : ∀ b ∈ s.heap.objs.size :: a :: fp, FpOk X pins H1 b := fun b hb => by
      rcases List.mem_cons.mp hb with z | hb
      · rw [z]; exact W1.fL
      · rcases List.mem_cons.mp hb with z | hb
        · rw [z]; exact W1.fa
        · exact W1.ff b hb
    have IP := Inv.pinned W1'.inv ffs objs
    refine go_of eg hgc hgd (by decide) ?_
    refine wpAny_mono (Gk.kept (s := s1.setGen g' (End.susp v gg l k c p fs).genState) bare1 at1 fun G hG => hgT.run _ _ σ2 H1 x v _ (Inv.regens IP hG) rv (step i σ2 H2 lt w2 x H1 y1)) (fun _ s3 h3 => ?_) fun e s3 ⟨G, _, h⟩ => (hxe' _ _ h).elim
    obtain ⟨at3, G3, b3, σ3, H3, I3, q3⟩ := h3
    have I3' := Inv.regens I3 (b3 I3.bare)
    refine wpAny_mono (Gk.kept (s := s3) I3'.bare at3 fun G hG => hb.run _ _ σ3 H3 _ (Inv.regens I3' hG) q3) (fun fl s4 h4 => ?_) fun e s4 ⟨G, _, h⟩ => (hxe' _ _ h).elim
    obtain ⟨at4, G4, b4, q4⟩ := h4
    have again : ∀ {σ7 : L2.St} {H7 : Hp}, Inv X (pins ++ pinsAt (s.heap.objs.size :: a :: fp) s1.heap) σ7 H7 (Gk.wg s4 G4) → W (i + 1) σ7 H7 → ∃ m', m' < tot - i ∧ ∃ i σ' H', m' = tot - i ∧ i ≤ tot ∧ W i σ' H' ∧ Inv X pins σ' H' s4 ∧ FpOk X pins H' s.heap.objs.size ∧ FpOk X pins H' a ∧ s4.heap.IsGen a g' ∧ (∃ m, s4.heap.Ns s.heap.objs.size m) ∧
        ((i = 0 ∧ s4.gens[g']? = some (.fresh (.func [.For tgG iterG [.Expr (.Yield (some eG) yp) ep] [] fp_] (envOfC qual scope s.heap.objs.size f cdv)))) ∨
          (0 < i ∧ ∃ fp tn, (∀ b ∈ fp, s.heap.objs.size < b) ∧ a ∉ fp ∧ (∃ it, Turn X.prog X.w X.K tgG (Itr 0 tot) fp it tn) ∧ (∀ b ∈ fp, FpOk X pins H' b) ∧ tn i s4.heap ∧ ∃ k l c p fs cl, s4.gens[g']? = some (.suspended k l c p fs cl) ∧ Rdy X X.A.in1 (envOfC qual scope s.heap.objs.size f cdv) a g' fp tn Yl tot (tot - i) c (k (.send .none)) fs)) := fun {σ7 H7} I7 n7 => by
      have I7' := Inv.regens I7 (b4 I7.bare)
      have pin7 : ∀ b ∈ s.heap.objs.size :: a :: fp, ∀ o, s1.heap.get? b = some o → s4.heap.get? b = some o ∧ H7 b = none := fun b hb o eo =>
        let z := I7'.pin (b, o) (List.mem_append_right _ (List.mem_append_right _ (mem_pinsAt hb eo)))
        ⟨z.1, z.2.1⟩
      have fp7 : ∀ b ∈ s.heap.objs.size :: a :: fp, FpOk X pins H7 b := fun b hb => by
        obtain ⟨o, eo, _⟩ := objs b hb
        exact fpTo (ffs b hb) (pin7 b hb o eo).2
      have mL : s.heap.objs.size ∈ s.heap.objs.size :: a :: fp := List.mem_cons_self
      have ma : a ∈ s.heap.objs.size :: a :: fp := List.mem_cons_of_mem _ List.mem_cons_self
      have mf : ∀ b ∈ fp, b ∈ s.heap.objs.size :: a :: fp := fun b hb => List.mem_cons_of_mem _ (List.mem_cons_of_mem _ hb)
      refine ⟨tot - (i + 1), by omega, i + 1, σ7, H7, rfl, lt, n7, I7'.unpinned, fp7 _ mL, fp7 _ ma, ⟨og, nm, qn, (pin7 a ma og eg).1, hgc, hgd, hgs0⟩, ?_, .inr ⟨Nat.succ_pos _, fp, tn, q1, q2, ⟨it, T⟩, fun b hb => fp7 b (mf b hb), T.keep _ _ _ W1.st fun b hb o eo => (pin7 b (mf b hb) o eo).1, k, l, c, p, fs, _, at4, ?_⟩⟩
      · obtain ⟨mm, o, es, epp, ho, r⟩ := W1.ns
        exact ⟨mm, o, es, epp, (pin7 _ mL o ho).1, r⟩
      · have e : tot - (i + 1) = m := by omega
        rw [e]
        exact rdy
    cases fl with
    | next => obtain ⟨σ7, H7, I7, n7⟩ := q4; exact again I7 n7
    | cont => obtain ⟨σ7, H7, I7, n7⟩ := q4; exact again I7 n7
    | brk => obtain ⟨σ7, H7, I7, n7⟩ := q4; exact ⟨σ7, H7, (Inv.regens I7 (b4 I7.bare)).unpinned, n7⟩
    | ret u => obtain ⟨x7, σ7, H7, I7, r7, n7⟩ := q4; exact ⟨x7, σ7, H7, (Inv.regens I7 (b4 I7.bare)).unpinned, r7, n7⟩
  · have e : i = tot := by omega
    subst e
    rcases st2 with ⟨e0, _⟩ | ⟨_, fp, tn, q1, q2, q3, q4, q5, k, l, c, p, fs, cl, hgs2, rdy⟩
    · omega
    rw [Nat.sub_self] at rdy
    have q := rdy pins σ2 H2 (s2.setGen g' .running) ⟨I2r, fL2, q4, fa2, gen2, ns2, q5⟩
    refine next_genC hr.hd lim2 hr.depth gen2 hgs2 (segc_mono q ?_)
    rintro e1 s1 ⟨rfl, I3⟩
    refine .inl ⟨rfl, fun h' hk => wpAny_execs_nil ⟨σ2, H2, ?_, fin _ _ w2⟩⟩
    exact Inv.kept (t' := s1.toks) (Inv.regens I3 (allBare_setGen (g := g') (x := .finished) I3.bare rfl)) hk
end
end Gt
namespace Dr
open PySem PySem.Spec PyProof.Rows L2
/-! ### the drawing of numbers: smixed, sdraw, sopen -/
def topS (i : Nat) : Stmt := PySem.Challenge.pw_sparecut_k08_whole_ladders_follow.main.body.getD i (.Pass ⟨0, 0, 0, 0⟩)
abbrev sMix : Stmt := topS 35
abbrev sDrw : Stmt := topS 36
abbrev sOpn : Stmt := topS 37
theorem scMix : FnScope ["cell", "at", "one", "two", "three"] ["cell", "at"] (defScope sMix) := ⟨rfl, rfl, rfl, by decide +kernel, rfl, by decide +kernel, by decide +kernel⟩
theorem scDrw : FnScope ["feed", "many", "at", "cell", "digit"] ["feed", "many"] (defScope sDrw) := ⟨rfl, rfl, rfl, by decide +kernel, rfl, by decide +kernel, by decide +kernel⟩
theorem scOpn : FnScope ["script"] ["script"] (defScope sOpn) := ⟨rfl, rfl, rfl, by decide +kernel, rfl, by decide +kernel, by decide +kernel⟩
/-- what lies at f: cells (at c), a place, a rest; at most B cells were taken -/
def Feed (H : Hp) (f c : Addr) (B : Nat) : Prop := ∃ (ns : List Int) (n : Nat) (r : Int),
  H f = some (.lst [.ref c, .int n, .int r]) ∧ H c = some (.lst (ns.map V.int)) ∧ ns.length ≤ 60 ∧ n ≤ B
/-- all but f is as it was -/
def But (f : Addr) (H H' : Hp) : Prop := ∀ b, b ≠ f → H' b = H b
theorem But.refl (f : Addr) (H : Hp) : But f H H := fun _ _ => rfl
theorem But.trans {f : Addr} {H H1 H2 : Hp} (a : But f H H1) (b : But f H1 H2) : But f H H2 := fun x n => (b x n).trans (a x n)
theorem Feed.mono {H : Hp} {f c : Addr} {B B' : Nat} (h : Feed H f c B) (l : B ≤ B') : Feed H f c B' := by
  obtain ⟨ns, n, r, h1, h2, h3, h4⟩ := h
  exact ⟨ns, n, r, h1, h2, h3, Nat.le_trans h4 l⟩
theorem Feed.same {H H' : Hp} {f c : Addr} {B : Nat} (h : Feed H f c B) (s : Same H H') : Feed H' f c B := by
  obtain ⟨ns, n, r, h1, h2, h3, h4⟩ := h
  exact ⟨ns, n, r, s _ _ h1, s _ _ h2, h3, h4⟩
theorem Feed.upd {H : Hp} {f c D : Addr} {B : Nat} {o : HO} (h : Feed H f c B) (nf : D ≠ f) (nc : D ≠ c) : Feed (upd H D o) f c B := by
  obtain ⟨ns, n, r, h1, h2, h3, h4⟩ := h
  exact ⟨ns, n, r, by rw [upd_ne (Ne.symm nf)]; exact h1, by rw [upd_ne (Ne.symm nc)]; exact h2, h3, h4⟩
theorem Feed.nf {H : Hp} {f c D : Addr} {B : Nat} (h : Feed H f c B) (n : H D = none) : D ≠ f := by
  obtain ⟨_, _, _, h1, _⟩ := h
  exact Ne.symm (ne_of_none h1 n)
theorem Feed.nc {H : Hp} {f c D : Addr} {B : Nat} (h : Feed H f c B) (n : H D = none) : D ≠ c := by
  obtain ⟨_, _, _, _, h2, _⟩ := h
  exact Ne.symm (ne_of_none h2 n)
theorem feed_ne {H : Hp} {f c : Addr} {ns : List Int} {a : V} {as : List V} (h1 : H f = some (.lst (.ref c :: as))) (h2 : H c = some (.lst (ns.map V.int))) : c ≠ f := by
  intro e
  rw [e, h1] at h2
  have z := HO.lst.inj (Option.some.inj h2)
  cases ns with
  | nil => cases z
  | cons x r => cases z
section
variable {P : Program} {w : World} {K : PySem.W.Frag} {mg : Str → Option Value} {base : Heap}
def spMix : Sp := fun vs H Q _ => ∃ (c : Int) (n : Nat), vs = [.int c, .int n] ∧ n ≤ 2 ^ 60 ∧ ∀ r : Int, Q (.int r) H
theorem ok_mix {f : Addr} {fd : FuncData} {k : Nat} (F : Fun K "_law_smixed" "_law_smixed" sMix f fd) : FnOk P w K mg base CX0 (k + 1) f fd ["cell", "at"] spMix := by
  refine F.ok scMix (fun vs H Q E h => ?_) (fun cdv A outer s H vs Q E hr h => ?_)
  · obtain ⟨c, n, rfl, _⟩ := h
    rfl
  · obtain ⟨c, n, rfl, hn, q⟩ := h
    refine ⟨_, pss_cons (ps_set (i := 2) scMix.nd rfl (.inl rfl) (pe_op op_mod (pe_op op_add (pe_op op_add (pe_op op_mul (pe_op op_mod (pv 0) pe_int) pe_int) (pe_op op_mul (pv 1) pe_int)) pe_int) pe_int))
      (pss_cons (ps_set (i := 3) scMix.nd rfl (.inl rfl) (pe_op op_mod (pe_op op_add (pe_op op_add (pe_op op_mul (pv 2) (pv 2)) (pe_op op_mul (pe_op op_mul (pv 1) (pv 1)) pe_int)) pe_int) pe_int))
      (pss_cons (ps_set (i := 4) scMix.nd rfl (.inl rfl) (pe_op op_mod (pe_op op_add (pe_op op_add (pe_op op_mul (pv 3) (pv 3)) (pv 2)) (pv 1)) pe_int))
      (pss_one (ps_ret (pe_op op_add (pe_op op_mul (pe_op op_add (pe_op op_mul (pv 4) pe_int) (pv 3)) pe_int) (pv 2)))))), ?_⟩
    refine ⟨_, rfl, _, _, rfl, rfl, by show (0 : Int) < 2147483647; decide, _, _, rfl, rfl, .inr ⟨by decide, by decide⟩, _, rfl, _, _, rfl, rfl, .inr ⟨by decide, by decide⟩, _, _, rfl, rfl, _, _, rfl, rfl, _, _, rfl, rfl, by show (0 : Int) < 2147483629; decide, ?_⟩
    generalize e1 : (c % 2147483647 * 48271 + (n : Int) * 7919 + 11) % 2147483629 = one
    have o1 : 0 ≤ one := by rw [← e1]; exact Int.emod_nonneg _ (by decide)
    have o2 : one < 2147483629 := by rw [← e1]; exact Int.emod_lt_of_pos _ (by decide)
    refine ⟨_, rfl, _, rfl, _, _, rfl, rfl, .inl ⟨by omega, by omega⟩, _, rfl, _, rfl, _, _, rfl, rfl, .inl ⟨by omega, by omega⟩, _, _, rfl, rfl, .inr ⟨by decide, by decide⟩, _, _, rfl, rfl, _, _, rfl, rfl, _, _, rfl, rfl, by show (0 : Int) < 2147483587; decide, ?_⟩
    generalize e2 : (one * one + (n : Int) * (n : Int) * 31 + 5) % 2147483587 = two
    have t1 : 0 ≤ two := by rw [← e2]; exact Int.emod_nonneg _ (by decide)
    have t2 : two < 2147483587 := by rw [← e2]; exact Int.emod_lt_of_pos _ (by decide)
    refine ⟨_, rfl, _, rfl, _, _, rfl, rfl, .inl ⟨by omega, by omega⟩, _, rfl, _, _, rfl, rfl, _, rfl, _, _, rfl, rfl, _, _, rfl, rfl, by show (0 : Int) < 2147483563; decide, ?_⟩
    exact ⟨_, rfl, _, _, rfl, rfl, .inr ⟨by decide, by decide⟩, _, rfl, _, _, rfl, rfl, _, _, rfl, rfl, .inr ⟨by decide, by decide⟩, _, rfl, _, _, rfl, rfl, q _⟩
/-- sdraw(feed, many): any number from 0 to many - 1 -/
def spDrw : Sp := fun vs H Q _ => ∃ (f c : Addr) (m : Int) (B : Nat), vs = [.ref f, .int m] ∧ 0 < m ∧ m < 2 ^ 29 ∧ Feed H f c B ∧ B ≤ 2 ^ 59 ∧
  ∀ (d : Int) (H' : Hp), 0 ≤ d → d < m → Feed H' f c (B + 1) → But f H H' → Q (.int d) H'
theorem ok_drw {f fM : Addr} {fd fdM : FuncData} {k : Nat} (F : Fun K "_law_sdraw" "_law_sdraw" sDrw f fd) (FM : Fun K "_law_smixed" "_law_smixed" sMix fM fdM) (bM : Binds K fdM ["cell", "at"] []) (gM : mg "_law_smixed" = some (.ref fM)) (ml : mg "len" = none) :
    FnOk P w K mg base CX0 (k + 2) f fd ["feed", "many"] spDrw := by
  have GM : FnOk P w K mg base CX0 1 fM fdM ["cell", "at"] spMix := ok_mix FM
  refine F.ok scDrw (fun vs H Q E h => ?_) (fun cdv A outer s H vs Q E hr h => ?_)
  · obtain ⟨f, c, m, B, rfl, _⟩ := h
    rfl
  · obtain ⟨f, c, m, B, rfl, m0, m1, hF, hB, q⟩ := h
    have hr1 : Room 1 _ := hr.mono (by omega)
    refine ⟨_, Evl.pss_cut (ps_if (pt_cmpR op_lt (pe_ix ix_list (pv 0) pe_int (fun _ _ => rfl)) (pv 1) (nomark _))
        (pss_cons (ps_set (i := 2) scDrw.nd rfl (.inl rfl) (pe_ix ix_list (pv 0) pe_int (fun _ _ => rfl)))
        (pss_cons (ps_set (i := 3) scDrw.nd rfl (.inl rfl) (pe_op op_mul (pv 2) pe_int))
        (Evl.pss_cut (ps_if (pt_cmpR op_gt (pe_callB call_len_seq (by rfl) ml PySem.boot_len (pa_cons (pe_ix ix_list (pv 0) pe_int (fun _ _ => rfl)) pa_nil)) pe_int (nomark _))
            (pss_one (ps_set (i := 3) scDrw.nd rfl (.inl rfl) (pe_ix ix_list (pe_ix ix_list (pv 0) pe_int (fun _ _ => rfl)) (pe_op op_mod (pv 2) (pe_callB call_len_seq (by rfl) ml PySem.boot_len (pa_cons (pe_ix ix_list (pv 0) pe_int (fun _ _ => rfl)) pa_nil))) (fun _ _ => rfl)))) pss_nil)
        (pss_cons (ps_asg (pe_op op_add (pv 2) pe_int) (pg_sub (pv 0) pe_int set_list))
        (Evl.pss_cut (ps_asg (pv 3) (pg_sub (pv 0) pe_int set_list))
        (pss_one (ps_if (PW.pt (pw_or (pt_cmpR op_lt (pv 3) (pe_op op_pow pe_int pe_int) (nomark _)) (pw_or1 (pt_cmpR op_ge (pv 2) (pe_callB call_len_seq (by rfl) ml PySem.boot_len (pa_cons (pe_ix ix_list (pv 0) pe_int (fun _ _ => rfl)) pa_nil)) (nomark _)))))
          (pss_one (ps_asg (pe_call GM hr1 (by rfl) gM FM.kp bM .nil pass0 (pa_cons (pv 3) (pa_cons (pv 2) pa_nil))) (pg_sub (pv 0) pe_int set_list))) pss_nil)))))))
        pss_nil)
      (pss_cons (ps_set (i := 4) scDrw.nd rfl (.inl rfl) (pe_op op_mod (pe_ix ix_list (pv 0) pe_int (fun _ _ => rfl)) (pv 1)))
      (pss_cons (ps_asg (pe_op op_fdiv (pe_ix ix_list (pv 0) pe_int (fun _ _ => rfl)) (pv 1)) (pg_sub (pv 0) pe_int set_list))
      (pss_one (ps_ret (pv 4))))), ?_⟩
    obtain ⟨ns, n, r, h1, h2, h3, h4⟩ := hF
    have hcf : c ≠ f := feed_ne (a := .non) h1 h2
    have hS : SqL K H f [.ref c, .int n, .int r] := .of h1
    have hC : SqL K H c (ns.map V.int) := .of h2
    refine Evl.q_cut (M := fun σ' H' => ∃ (y2 y3 : Option V) (n' : Nat) (r' : Int), σ' = [some (.ref f), some (.int m), y2, y3, none] ∧ H' f = some (.lst [.ref c, .int n', .int r']) ∧ n' ≤ B + 1 ∧ But f H H') ?_ ?_
    · refine ⟨.ref f, rfl, f, _, 2, _, rfl, rfl, hS, rfl, .int m, rfl, _, _, rfl, rfl, _, rfl, ite2 (fun e => ?_) (fun e => ?_)⟩
      · refine ⟨.ref f, rfl, f, _, 1, _, rfl, rfl, hS, rfl, ?_⟩
        refine ⟨_, rfl, _, _, rfl, rfl, .inr ⟨by decide, by decide⟩, ?_⟩
        refine Evl.q_cut (M := fun σ' H' => ∃ (z : Int), σ' = [some (.ref f), some (.int m), some (.int n), some (.int z), none] ∧ H' = H) ?_ ?_
        · refine ⟨.ref f, rfl, f, _, 0, _, rfl, rfl, hS, rfl, c, _, rfl, .inl hC, _, _, rfl, rfl, _, rfl, ite2 (fun e => ?_) (fun e => ?_)⟩
          · have l0 : 0 < ns.length := by
              have z : (0 : Int) < ((ns.map V.int).length : Int) := of_decide_eq_true e
              rw [List.length_map] at z
              omega
            have l1 : n % ns.length < ns.length := Nat.mod_lt _ l0
            refine ⟨.ref f, rfl, f, _, 0, _, rfl, rfl, hS, rfl, _, rfl, .ref f, rfl, f, _, 0, _, rfl, rfl, hS, rfl, c, _, rfl, .inl hC, _, _, rfl, rfl, ?_, c, _, _, .int (ns[n % ns.length]), rfl, rfl, hC, ?_, ?_⟩
            · show (0 : Int) < ((ns.map V.int).length : Int)
              rw [List.length_map]
              omega
            · refine at_of (j := n % ns.length) ?_ ?_
              · rw [List.length_map]
                exact (Int.natCast_emod n ns.length).symm
              · rw [List.getElem?_map, List.getElem?_eq_getElem l1]
                rfl
            · exact ⟨_, rfl, rfl⟩
          · exact ⟨_, rfl, rfl⟩
        · rintro σ' H' ⟨z, rfl, rfl⟩
          refine ⟨_, rfl, _, _, rfl, rfl, _, rfl, f, _, 1, 1, rfl, rfl, h1, rfl, ?_⟩
          refine Evl.q_cut (M := fun σ' H2 => σ' = [some (.ref f), some (.int m), some (.int n), some (.int z), none] ∧ But f H' H2 ∧ H2 f = some (.lst [.ref c, .int ((n + 1 : Nat) : Int), .int z])) ?_ ?_
          · refine ⟨_, rfl, _, rfl, f, _, 2, 2, rfl, rfl, upd_same, rfl, rfl, fun b nb => ?_, upd_same⟩
            rw [upd_ne nb, upd_ne nb]
          rintro σ' H2 ⟨rfl, b2, f2⟩
          have hS2 : SqL K H2 f [.ref c, .int ((n + 1 : Nat) : Int), .int z] := .of f2
          have hC2 : SqL K H2 c (ns.map V.int) := .of ((b2 c hcf).trans h2)
          have mix : ∀ D : Ends, D.nx = (fun σ' H'' => ∃ (y2 y3 : Option V) (n' : Nat) (r' : Int), σ' = [some (.ref f), some (.int m), y2, y3, none] ∧ H'' f = some (.lst [.ref c, .int n', .int r']) ∧ n' ≤ B + 1 ∧ But f H' H'') →
              tAsg (tCall spMix [] E0 (tCons (tVar 3) (tCons (tVar 2) tNil))) (gSub (tVar 0) (tC (.int 2)) rSetL) D [some (.ref f), some (.int m), some (.int n), some (.int z), none] H2 := by
            intro D hD
            refine ⟨_, rfl, _, rfl, z, n, rfl, by omega, fun r2 => ?_⟩
            refine ⟨_, rfl, f, _, 2, 2, rfl, rfl, f2, rfl, ?_⟩
            rw [hD]
            exact ⟨_, _, n + 1, r2, rfl, upd_same, by omega, fun b nb => by rw [upd_ne nb]; exact b2 b nb⟩
          refine ⟨_, rfl, _, _, rfl, rfl, ⟨by decide, by decide, by decide⟩, _, _, rfl, rfl, _, rfl, ite2 (fun e => ?_) (fun e => ?_)⟩
          · exact iteT (mix _ rfl)
          · refine ⟨_, rfl, .ref f, rfl, f, _, 0, _, rfl, rfl, hS2, rfl, c, _, rfl, .inl hC2, _, _, rfl, rfl, _, rfl, ite2 (fun e => ?_) (fun e => ?_)⟩
            · exact mix _ rfl
            · exact ⟨_, _, n + 1, z, rfl, f2, by omega, b2⟩
      · exact ⟨none, none, n, r, rfl, h1, by omega, But.refl f H⟩
    · rintro σ' H' ⟨y2, y3, n', r', rfl, f1, ln, b1⟩
      have hS1 : SqL K H' f [.ref c, .int n', .int r'] := .of f1
      refine ⟨.ref f, rfl, f, _, 2, _, rfl, rfl, hS1, rfl, .int m, rfl, _, _, rfl, rfl, m0, ?_⟩
      refine ⟨.ref f, rfl, f, _, 2, _, rfl, rfl, hS1, rfl, .int m, rfl, _, _, rfl, rfl, ⟨m0, by omega⟩, .ref f, rfl, f, _, 2, 2, rfl, rfl, f1, rfl, ?_⟩
      refine ⟨_, rfl, q (r' % m) _ (Int.emod_nonneg _ (by omega)) (Int.emod_lt_of_pos _ m0) ⟨ns, n', r' / m, upd_same, ?_, h3, ln⟩ fun b nb => ?_⟩
      · rw [upd_ne hcf, b1 c hcf]
        exact h2
      · rw [upd_ne nb]
        exact b1 b nb
/-- sopen(script) -/
def spOpn (K : PySem.W.Frag) : Sp := fun vs H Q _ => ∃ (a : Addr) (ns : List Int), vs = [.ref a] ∧ SqL K H a (ns.map V.int) ∧ ∀ (f c : Addr) (H' : Hp), H f = none → H c = none → Same H H' → Feed H' f c 0 → Q (.ref f) H'
theorem cut60 (ns : List Int) : cutV (ns.map V.int) none (some 60) = (ns.take 60).map V.int := by
  unfold cutV
  rw [HT.sIx_none, show HT.sIx (ns.map V.int).length (ns.map V.int).length (some 60) = min 60 (ns.map V.int).length from HT.sIx_nat _ _ 60]
  rw [List.drop_zero, Nat.sub_zero, List.map_take, List.length_map]
  by_cases h : ns.length ≤ 60
  · rw [Nat.min_eq_right h, List.take_of_length_le (by rw [List.length_map]; exact Nat.le_refl _), List.take_of_length_le (by rw [List.length_map]; exact h)]
  · rw [Nat.min_eq_left (by omega)]
theorem same_upd {H : Hp} {p : Addr} {o : HO} (h : H p = none) : Same H (upd H p o) := fun b x e => by
  rw [upd_ne (ne_of_none e h)]
  exact e
theorem ok_opn {f : Addr} {fd : FuncData} {k : Nat} (F : Fun K "_law_sopen" "_law_sopen" sOpn f fd) (ml : mg "list" = none) : FnOk P w K mg base CX0 (k + 1) f fd ["script"] (spOpn K) := by
  refine F.ok scOpn (fun vs H Q E h => ?_) (fun cdv A outer s H vs Q E hr h => ?_)
  · obtain ⟨a, ns, rfl, _⟩ := h
    rfl
  · obtain ⟨a, ns, rfl, hS, q⟩ := h
    refine ⟨_, pss_one (ps_ret (pe_lst (pa_cons (pe_callTy call_list_of (by rfl) ml (by decide +kernel) (pa_cons (pe_slice sl_list (pv 0) po_none (po_some pe_int)) pa_nil)) (pa_cons pe_int (pa_cons pe_int pa_nil))))), ?_⟩
    refine ⟨.ref a, rfl, 60, rfl, a, _, rfl, hS, fun c nc => ?_⟩
    refine ⟨c, _, rfl, .inl (.of upd_same), fun d nd => ?_⟩
    refine ⟨by show 3 ≤ sizeLine; decide, fun p np => ?_⟩
    have s1 : Same H (upd H c (.lst (cutV (ns.map V.int) none (some 60)))) := same_upd nc
    have s2 := s1.trans (same_upd (o := .lst (cutV (ns.map V.int) none (some 60))) nd)
    have s3 := s2.trans (same_upd (o := .lst [.ref d, .int 0, .int 0]) np)
    refine q p d _ (s2.free np) (s1.free nd) s3 ⟨ns.take 60, 0, 0, upd_same, ?_, ?_, Nat.le_refl _⟩
    · have ndp : d ≠ p := ne_of_none (upd_same (H := upd H c (.lst (cutV (ns.map V.int) none (some 60)))) (a := d) (o := .lst (cutV (ns.map V.int) none (some 60)))) np
      rw [upd_ne ndp, upd_same, cut60]
    · rw [List.length_take]
      omega
end
end Dr
namespace Kp
open PySem PySem.Spec PyProof.Rows L2 GxR Nw Dr
/-! ### what a call leaves as it was: all but the feed (F) and the tables of code objects -/
structure Ke (F : Addr → Prop) (H H' : Hp) : Prop where
  keep : ∀ b o, H b = some o → (∀ ps, o ≠ .tbl ps) → ¬ F b → H' b = some o
  tabs : ∀ P, TabG H P → TabG H' P
  tups : ∀ b xs, H b = some (.tup xs) → H' b = some (.tup xs)
abbrev Nof : Addr → Prop := fun _ => False
variable {F G : Addr → Prop} {H H1 H2 H' : Hp} {f c P : Addr} {B : Nat}
theorem Ke.refl (F : Addr → Prop) (H : Hp) : Ke F H H := ⟨fun _ _ h _ _ => h, fun _ h => h, fun _ _ h => h⟩
theorem Ke.trans (a : Ke F H H1) (b : Ke F H1 H2) : Ke F H H2 := ⟨fun x o h n m => b.keep x o (a.keep x o h n m) n m, fun Q h => b.tabs Q (a.tabs Q h), fun x xs h => b.tups x xs (a.tups x xs h)⟩
theorem Ke.mono (a : Ke F H H1) (h : ∀ b, F b → G b) : Ke G H H1 := ⟨fun x o e n m => a.keep x o e n fun z => m (h x z), a.tabs, a.tups⟩
theorem Ke.all (a : Ke Nof H H1) : Ke F H H1 := a.mono fun _ z => z.elim
theorem Ke.same (s : Same H H1) : Ke F H H1 := ⟨fun b o e _ _ => s b o e, fun Q ⟨ps, h, t⟩ => ⟨ps, s _ _ h, t⟩, fun b xs e => s _ _ e⟩
theorem Ke.lst {a : Addr} {xs : List V} (k : Ke F H H1) (h : H a = some (.lst xs)) (n : ¬ F a) : H1 a = some (.lst xs) := k.keep a _ h (fun ps z => by cases z) n
theorem Ke.tabbed (t : TabG H P) (x : Tabbed P H H1) : Ke F H H1 := by
  obtain ⟨ps, hP, _⟩ := t
  have nP : ∀ b o, H b = some o → (∀ qs, o ≠ .tbl qs) → b ≠ P := fun b o e n z => by
    rw [z, hP] at e
    exact n ps (Option.some.inj e).symm
  refine ⟨fun b o e n _ => (x.2 b (nP b o e n)).trans e, fun Q hQ => ?_, fun b xs e => (x.2 b (nP b _ e fun qs z => by cases z)).trans e⟩
  by_cases hq : Q = P
  · rw [hq]
    exact x.1
  · obtain ⟨qs, h1, h2⟩ := hQ
    exact ⟨qs, (x.2 Q hq).trans h1, h2⟩
theorem Ke.but (h : Feed H f c B) (b : But f H H1) : Ke (· = f) H H1 := by
  obtain ⟨ns, n, r, h1, _⟩ := h
  refine ⟨fun x o e _ m => (b x m).trans e, fun Q ⟨qs, e, t⟩ => ⟨qs, (b Q fun z => ?_).trans e, t⟩, fun x xs e => (b x fun z => ?_).trans e⟩
  · rw [z, h1] at e
    cases e
  · rw [z, h1] at e
    cases e
/-- a write to an object of ours that was new behind H -/
theorem Ke.upd {p : Addr} {o : HO} (k : Ke F H H1) (n : H p = none) : Ke F H (upd H1 p o) := by
  refine ⟨fun b x e t m => ?_, fun Q hQ => ?_, fun b xs e => ?_⟩
  · rw [upd_ne (ne_of_none e n)]
    exact k.keep b x e t m
  · obtain ⟨ps, e, t⟩ := hQ
    obtain ⟨qs, e2, t2⟩ := k.tabs Q ⟨ps, e, t⟩
    exact ⟨qs, by rw [upd_ne (ne_of_none e n)]; exact e2, t2⟩
  · rw [upd_ne (ne_of_none e n)]
    exact k.tups b xs e
theorem Ke.feed (k : Ke Nof H H1) (h : Feed H f c B) : Feed H1 f c B := by
  obtain ⟨ns, n, r, h1, h2, h3, h4⟩ := h
  exact ⟨ns, n, r, k.lst h1 (fun z => z), k.lst h2 (fun z => z), h3, h4⟩
/-- p holds nothing that H knows (but a table, perhaps) -/
def Frs (H : Hp) (p : Addr) : Prop := ∀ b o, H b = some o → (∀ ps, o ≠ .tbl ps) → b ≠ p
theorem Frs.of {p : Addr} (h : H p = none) : Frs H p := fun b o e _ => ne_of_none e h
theorem Frs.ke {p : Addr} (k : Ke (· = f) H H1) (hF : Feed H1 f c B) (h : Frs H1 p) : Frs H p := fun b o e n => by
  by_cases hb : b = f
  · obtain ⟨_, _, _, h1, _⟩ := hF
    rw [hb]
    exact h f _ h1 fun ps z => by cases z
  · exact h b o (k.keep b o e n hb) n
theorem Frs.ke0 {p : Addr} (k : Ke Nof H H1) (h : Frs H1 p) : Frs H p := fun b o e n => h b o (k.keep b o e n fun z => z) n
theorem Ke.write {p : Addr} {xs : List V} {o : HO} (k : Ke F H H1) (fr : Frs H p) (h1 : H1 p = some (.lst xs)) : Ke F H (L2.upd H1 p o) := by
  refine ⟨fun b x e t m => ?_, fun Q hQ => ?_, fun b ys e => ?_⟩
  · rw [upd_ne (fr b x e t)]
    exact k.keep b x e t m
  · obtain ⟨qs, e2, t2⟩ := k.tabs Q hQ
    have n : Q ≠ p := fun z => by
      rw [z, h1] at e2
      cases e2
    exact ⟨qs, by rw [upd_ne n]; exact e2, t2⟩
  · rw [upd_ne (fr b _ e fun ps z => by cases z)]
    exact k.tups b ys e
/-- whole numbers in a tuple, truths in a tuple -/
def TupI (H : Hp) (v : V) (ns : List Int) : Prop := ∃ a, v = .ref a ∧ H a = some (.tup (ns.map V.int))
def TupB (H : Hp) (v : V) (bs : List Bool) : Prop := ∃ a, v = .ref a ∧ H a = some (.tup (bs.map V.bl))
def LstI (H : Hp) (v : V) (ns : List Int) : Prop := ∃ a, v = .ref a ∧ H a = some (.lst (ns.map V.int))
/-- a tuple of claims -/
def Bk (H : Hp) (v : V) (css : List (List Int)) : Prop := ∃ a vs, v = .ref a ∧ H a = some (.tup vs) ∧ vs.length = css.length ∧ ∀ (i : Nat) (x : V) (cs : List Int), vs[i]? = some x → css[i]? = some cs → TupI H x cs
theorem TupI.ke {v : V} {ns : List Int} (h : TupI H v ns) (k : Ke F H H1) : TupI H1 v ns := by
  obtain ⟨a, e, h⟩ := h
  exact ⟨a, e, k.tups _ _ h⟩
theorem TupB.ke {v : V} {ns : List Bool} (h : TupB H v ns) (k : Ke F H H1) : TupB H1 v ns := by
  obtain ⟨a, e, h⟩ := h
  exact ⟨a, e, k.tups _ _ h⟩
theorem Bk.ke {v : V} {css : List (List Int)} (h : Bk H v css) (k : Ke F H H1) : Bk H1 v css := by
  obtain ⟨a, vs, e, h, l, t⟩ := h
  exact ⟨a, vs, e, k.tups _ _ h, l, fun i x cs h1 h2 => (t i x cs h1 h2).ke k⟩
/-! ### claims -/
def rising : List Int → Bool
  | a :: b :: r => decide (a < b) && rising (b :: r)
  | _ => true
structure IsCl (cs : List Int) : Prop where
  up : cs.Pairwise (· < ·)
  says : ∀ k ∈ cs, k ≠ 0 ∧ -8 ≤ k ∧ k ≤ 8
  opp : ∀ k ∈ cs, -k ∉ cs
  len : cs.length ≤ 8
theorem IsCl.nil : IsCl [] := { up := .nil, says := fun _ h => (nomatch h), opp := fun _ h => (nomatch h), len := by decide }
end Kp
namespace Se
open PySem PySem.Spec PyProof.Rows L2 GxR Nw Dr Kp
/-- a def of the text whose code object stands at c -/
structure FunC (K : PySem.W.Frag) (x qual : Str) (st : Stmt) (f c : Addr) (fd : FuncData) : Prop where
  ex : ∃ (oc : Value) (od : Option Addr) (kV doc pm : Value) (an : Option Addr) (ct : Value) (osl : Array (Option Value)), fd = PySem.W.fnOf x qual (defArgs st) (defBody st) (defScope st) .none kV doc pm an (.ref c) ct ∧ K.lookup f = some ⟨oc, od, .func fd, osl⟩ ∧ PySem.W.codeIn K (.ref c) qual = true
  kp : PySem.W.keepIn K (.ref f) = true
section
variable {P : Program} {w : World} {K : PySem.W.Frag} {mg : Str → Option Value} {base : Heap}
theorem FunC.fn {x qual : Str} {st : Stmt} {f c : Addr} {fd : FuncData} (F : FunC K x qual st f c fd) : Fun K x qual st f fd := by
  obtain ⟨oc, od, kV, doc, pm, an, ct, osl, e, l, cd⟩ := F.ex
  exact ⟨⟨oc, od, kV, doc, pm, an, .ref c, ct, osl, e, l, cd⟩, F.kp⟩
theorem FunC.ok {x qual : Str} {st : Stmt} {f c : Addr} {fd : FuncData} {N ps : List Str} {k : Nat} {sp : Sp} (F : FunC K x qual st f c fd) (S : FnScope N ps (defScope st)) (len : ∀ vs H Q E, sp vs H Q E → vs.length = ps.length)
    (body : ∀ (A : Around) (outer : List Env) (s : Shared) (H : Hp) (vs : List V) (Q : VK) (E : XK), Room k (A.deeper (envOfC qual (defScope st) s.heap.objs.size f (.ref c))) → sp vs H Q E →
      ∃ t, PSs (cxOf CX0 P w K mg base N qual (defScope st) f (.ref c) A outer s H E).nox (defBody st) t ∧ t { nx := fun _ H' => Q .non H', rt := Q } (start N vs) H) : FnOk P w K mg base CX0 (k + 1) f fd ps sp := by
  obtain ⟨oc, od, kV, doc, pm, an, ct, osl, rfl, lk, hcd⟩ := F.ex
  refine fn_of lk hcd S len fun A outer s H vs Q E hr hsp => ?_
  obtain ⟨t, h, q⟩ := body A outer s H vs Q E hr hsp
  exact ⟨t, h.nox, q⟩
end
/-! ### settings -/
structure Zt (mg : Str → Option Value) : Prop where
  z_len : mg "len" = none
  z_abs : mg "abs" = none
  z_any : mg "any" = none
  z_all : mg "all" = none
  z_tuple : mg "tuple" = none
  z_range : mg "range" = none
/-- the say k holds -/
def sh (bs : List Bool) (k : Int) : Bool := bs.getD (k.natAbs - 1) false == decide (0 < k)
def Says (cs : List Int) : Prop := ∀ k ∈ cs, k ≠ 0 ∧ -8 ≤ k ∧ k ≤ 8
abbrev sShd : Stmt := topS 27
abbrev sHol : Stmt := topS 28
theorem scShd : FnScope ["say", "setting", "place", "so"] ["say", "setting"] (defScope sShd) := ⟨rfl, rfl, rfl, by decide +kernel, rfl, by decide +kernel, by decide +kernel⟩
abbrev nHol : List Str := ["claim", "setting", "say"]
theorem scHol : FnScope nHol ["claim", "setting"] (defScope sHol) := ⟨rfl, rfl, rfl, by decide +kernel, rfl, by decide +kernel, by decide +kernel⟩
section
variable {P : Program} {w : World} {K : PySem.W.Frag} {mg : Str → Option Value} {base : Heap}
def spShd : Sp := fun vs H Q _ => ∃ (k : Int) (u : V) (bs : List Bool), vs = [.int k, u] ∧ TupB H u bs ∧ bs.length = 8 ∧ k ≠ 0 ∧ -8 ≤ k ∧ k ≤ 8 ∧ Q (.bl (sh bs k)) H
theorem ok_shd {f : Addr} {fd : FuncData} {k : Nat} (F : Fun K "say_holds" "say_holds" sShd f fd) (T : Zt mg) : FnOk P w K mg base CX0 (k + 1) f fd ["say", "setting"] spShd := by
  refine F.ok scShd (fun vs H Q E h => ?_) (fun cdv A outer s H vs Q E hr h => ?_)
  · obtain ⟨k, u, bs, rfl, _⟩ := h
    rfl
  · obtain ⟨k, u, bs, rfl, ⟨a, rfl, ha⟩, l8, k0, k1, k2, q⟩ := h
    refine ⟨_, (pss_cons (ps_set (i := 2) scShd.nd rfl (.inl rfl) (pe_op op_sub (pe_callB call_abs (by rfl) T.z_abs (by decide +kernel) (pa_cons (pv 0) pa_nil)) pe_int))
      (pss_cons (ps_set (i := 3) scShd.nd rfl (.inl rfl) (pe_and (pe_chain op_le op_lt pe_int (pv 2) (pe_callB call_len_seq (by rfl) T.z_len (by decide +kernel) (pa_cons (pv 1) pa_nil))) (pe_one (pe_ix ix_tup (pv 1) (pv 2) (fun _ _ => rfl)))))
      (pss_one (ps_ret (pe_cmpR op_eq (pv 3) (pe_cmpR op_gt (pv 0) pe_int (nomark _)) (nomark _)))))), ?_⟩
    have e : (if k < 0 then -k else k) = (k.natAbs : Int) := by
      split <;> omega
    refine ⟨_, rfl, k, rfl, _, _, rfl, rfl, ?_⟩
    rw [e]
    have lt : k.natAbs - 1 < bs.length := by omega
    refine ⟨_, rfl, 0, _, rfl, rfl, true, congrArg V.bl (decide_eq_true (by omega)), _, rfl, a, _, rfl, .inr (.of ha), _, _, rfl, rfl, true, congrArg V.bl (decide_eq_true (by rw [List.length_map]; omega)), ?_⟩
    refine ⟨_, rfl, _, rfl, a, _, _, .bl bs[k.natAbs - 1], rfl, rfl, .of ha, at_of (j := k.natAbs - 1) (by omega) (by rw [List.getElem?_map, List.getElem?_eq_getElem lt]; rfl), ?_⟩
    refine ⟨_, rfl, _, rfl, _, _, rfl, rfl, rfl, ?_⟩
    have z : decide (V.bl bs[k.natAbs - 1] = V.bl (decide (0 < k))) = sh bs k := by
      unfold sh
      rw [List.getD_eq_getElem?_getD, List.getElem?_eq_getElem lt, Option.getD_some]
      cases bs[k.natAbs - 1] <;> cases decide (0 < k) <;> rfl
    rw [z]
    exact q
def spHol (P : Addr) : Sp := fun vs H Q _ => ∃ (v u : V) (cs : List Int) (bs : List Bool), vs = [v, u] ∧ TupI H v cs ∧ TupB H u bs ∧ bs.length = 8 ∧ Says cs ∧ TabG H P ∧ ∀ H', Ke Nof H H' → Q (.bl (cs.any (sh bs))) H'
theorem any_take {α : Type} {f : α → Bool} {l : List α} {i : Nat} {x : α} (h : l[i]? = some x) (p : (l.take i).any f = false) : (f x = true → l.any f = true) ∧ (f x = false → (l.take (i + 1)).any f = false) := by
  refine ⟨fun z => List.any_eq_true.mpr ⟨x, List.mem_of_getElem? h, z⟩, fun z => ?_⟩
  rw [List.take_add_one, h, List.any_append, p]
  show (f x || false) = false
  rw [z]
  rfl
theorem ok_hol {f c Pt fS : Addr} {fd fdS : FuncData} {k : Nat} (F : FunC K "holds" "holds" sHol f c fd) (T : Zt mg) (TB : TabB base mg c Pt) (FS : Fun K "say_holds" "say_holds" sShd fS fdS) (bS : Binds K fdS ["say", "setting"] []) (gS : mg "say_holds" = some (.ref fS)) (GS : FnOk P w K mg base CX0 1 fS fdS ["say", "setting"] spShd) :
    FnOk P w K mg base CX0 (k + 3) f fd ["claim", "setting"] (spHol Pt) := by
  refine F.ok scHol (fun vs H Q E h => ?_) (fun A outer s H vs Q E hr h => ?_)
  · obtain ⟨v, u, cs, bs, rfl, _⟩ := h
    rfl
  · obtain ⟨v, u, cs, bs, rfl, ⟨a, rfl, ha⟩, hb, l8, sy, tg, q⟩ := h
    have hr1 : Room (1 + 1) _ := hr.mono (by omega)
    refine ⟨_, (pss_one (ps_ret (Gx.pe_any hr (by rfl) T.z_any rfl scHol.nd TB rfl (pi_tup (pv 0)) (own := [("say", 2)]) (g := gName 2) (tt := tYes) (blkOk_by (N := nHol) (sc := defScope sHol) (by decide +kernel)) ⟨rfl, by decide +kernel, rfl⟩ (fun _ _ _ _ _ _ _ => pg_name (i := 2) scHol.nd rfl (.inl rfl)) (fun _ _ _ _ _ _ _ => pts_nil) (fun _ _ _ _ _ _ _ => pe_call GS (Gx.room_gen hr1) (by rfl) gS FS.kp bS .nil pass0 (pa_cons (pv 2) (pa_cons (pv 1) pa_nil)))))), ?_⟩
    refine ⟨_, rfl, a, rfl, ⟨_, .of ha⟩, tg, fun H1 tb => ?_⟩
    have k1 : Ke Nof H H1 := .tabbed tg tb
    refine Gx.aa_tup (xs := cs.map V.int) (Pv := fun i H' => Ke Nof H H' ∧ (cs.take i).any (sh bs) = false) ⟨k1, rfl⟩ (fun i H' _ p => .of (p.1.tups _ _ ha)) ?_ ?_
    · rintro i x H' hx ⟨k2, p⟩
      obtain ⟨z, hz, rfl⟩ : ∃ z, cs[i]? = some z ∧ x = V.int z := by
        rw [List.getElem?_map] at hx
        cases e : cs[i]? with
        | none =>
          rw [e] at hx
          cases hx
        | some z =>
          rw [e] at hx
          exact ⟨z, rfl, (Option.some.inj hx).symm⟩
      obtain ⟨s0, s1, s2⟩ := sy z (List.mem_of_getElem? hz)
      obtain ⟨t1, t2⟩ := any_take hz p
      refine ⟨rfl, _, rfl, _, rfl, z, u, bs, rfl, hb.ke k2, l8, s0, s1, s2, ?_⟩
      cases e : sh bs z with
      | true =>
        refine .inl ⟨rfl, ?_⟩
        have := q H' k2
        rw [t1 e] at this
        exact this
      | false => exact .inr ⟨rfl, k2, t2 e⟩
    · rintro H' ⟨k2, p⟩
      rw [List.length_map, List.take_length] at p
      have := q H' k2
      rw [p] at this
      exact this
/-- all claims of the book hold -/
def ah (bs : List Bool) (css : List (List Int)) : Bool := css.all fun cs => cs.any (sh bs)
theorem all_take {α : Type} {f : α → Bool} {l : List α} {i : Nat} {x : α} (h : l[i]? = some x) (p : (l.take i).all f = true) : (f x = false → l.all f = false) ∧ (f x = true → (l.take (i + 1)).all f = true) := by
  refine ⟨fun z => List.all_eq_false.mpr ⟨x, List.mem_of_getElem? h, by rw [z]; decide⟩, fun z => ?_⟩
  rw [List.take_add_one, h, List.all_append, p]
  show (f x && true) = true
  rw [z]
  rfl
abbrev sAhd : Stmt := topS 30
abbrev nAhd : List Str := ["book", "setting", "claim"]
theorem scAhd : FnScope nAhd ["book", "setting"] (defScope sAhd) := ⟨rfl, rfl, rfl, by decide +kernel, rfl, by decide +kernel, by decide +kernel⟩
def spAhd (Ph Pa : Addr) : Sp := fun vs H Q _ => ∃ (v u : V) (css : List (List Int)) (bs : List Bool), vs = [v, u] ∧ Bk H v css ∧ TupB H u bs ∧ bs.length = 8 ∧ (∀ cs ∈ css, Says cs) ∧ TabG H Ph ∧ TabG H Pa ∧ ∀ H', Ke Nof H H' → Q (.bl (ah bs css)) H'
theorem ok_ahd {f c Pa Ph fH : Addr} {fd fdH : FuncData} {k : Nat} (F : FunC K "all_hold" "all_hold" sAhd f c fd) (T : Zt mg) (TB : TabB base mg c Pa) (kpH : PySem.W.keepIn K (.ref fH) = true) (bH : Binds K fdH ["claim", "setting"] []) (gH : mg "holds" = some (.ref fH)) (GH : FnOk P w K mg base CX0 3 fH fdH ["claim", "setting"] (spHol Ph)) :
    FnOk P w K mg base CX0 (k + 5) f fd ["book", "setting"] (spAhd Ph Pa) := by
  refine F.ok scAhd (fun vs H Q E h => ?_) (fun A outer s H vs Q E hr h => ?_)
  · obtain ⟨v, u, css, bs, rfl, _⟩ := h
    rfl
  · obtain ⟨v, u, css, bs, rfl, ⟨a, vs, rfl, ha, lv, hv⟩, hb, l8, sy, tg, tga, q⟩ := h
    have hr1 : Room (3 + 1) _ := hr.mono (by omega)
    refine ⟨_, (pss_one (ps_ret (Gx.pe_all hr (by rfl) T.z_all rfl scAhd.nd TB rfl (pi_tup (pv 0)) (own := [("claim", 2)]) (g := gName 2) (tt := tYes) (blkOk_by (N := nAhd) (sc := defScope sAhd) (by decide +kernel)) ⟨rfl, by decide +kernel, rfl⟩ (fun _ _ _ _ _ _ _ => pg_name (i := 2) scAhd.nd rfl (.inl rfl)) (fun _ _ _ _ _ _ _ => pts_nil) (fun _ _ _ _ _ _ _ => pe_call GH (Gx.room_gen hr1) (by rfl) gH kpH bH .nil pass0 (pa_cons (pv 2) (pa_cons (pv 1) pa_nil)))))), ?_⟩
    refine ⟨_, rfl, a, rfl, ⟨_, .of ha⟩, tga, fun H1 tb => ?_⟩
    have k1 : Ke Nof H H1 := .tabbed tga tb
    refine Gx.aa_tup (xs := vs) (Pv := fun i H' => Ke Nof H H' ∧ (css.take i).all (fun cs => cs.any (sh bs)) = true) ⟨k1, rfl⟩ (fun i H' _ p => .of (p.1.tups _ _ ha)) ?_ ?_
    · rintro i x H' hx ⟨k2, p⟩
      have li : i < css.length := by
        have := (List.getElem?_eq_some_iff.mp hx).1
        omega
      have hz := List.getElem?_eq_getElem li
      obtain ⟨t1, t2⟩ := all_take hz p
      have ti := hv i x _ hx hz
      have sz := sy _ (List.mem_of_getElem? hz)
      generalize css[i] = cs at t1 t2 ti sz
      refine ⟨rfl, _, rfl, _, rfl, x, u, cs, bs, rfl, ti.ke k2, hb.ke k2, l8, sz, k2.tabs _ tg, fun H3 k3 => ?_⟩
      have k4 := k2.trans k3
      cases e : cs.any (sh bs) with
      | false =>
        refine .inl ⟨rfl, ?_⟩
        have := q H3 k4
        unfold ah at this
        rw [t1 e] at this
        exact this
      | true => exact .inr ⟨rfl, k4, t2 e⟩
    · rintro H' ⟨k2, p⟩
      rw [lv, List.take_length] at p
      have := q H' k2
      unfold ah at this
      rw [p] at this
      exact this
/-! ### all settings by their numbers -/
def bitB (n : Int) (p : Nat) : Bool := decide (V.int (Builtin.bitAnd (n / 2 ^ p) 1) = V.int 1)
def sbn (n : Int) : List Bool := (List.range 8).map (bitB n)
abbrev sSbn : Stmt := topS 31
abbrev nSbn : List Str := ["number", "place"]
theorem scSbn : FnScope nSbn ["number"] (defScope sSbn) := ⟨rfl, rfl, rfl, by decide +kernel, rfl, by decide +kernel, by decide +kernel⟩
def spSbn : Sp := fun vs H Q _ => ∃ n : Int, vs = [.int n] ∧ ∀ p H', Same H H' → H' p = some (.tup ((sbn n).map V.bl)) → Q (.ref p) H'
theorem ok_sbn {f : Addr} {fd : FuncData} {k : Nat} {tk : Tok} (F : Fun K "setting_by_number" "setting_by_number" sSbn f fd) (T : Zt mg) (M8 : mg "MOST_THINGS" = some (.int 8 tk)) : FnOk P w K mg base CX0 (k + 1) f fd ["number"] spSbn := by
  refine F.ok scSbn (fun vs H Q E h => ?_) (fun cdv A outer s H vs Q E hr h => ?_)
  · obtain ⟨n, rfl, _⟩ := h
    rfl
  · obtain ⟨n, rfl, q⟩ := h
    refine ⟨_, (pss_one (ps_ret (pe_callTy call_tuple_ofN (by rfl) T.z_tuple (by decide +kernel) (pa_cons (pe_lc (own := [("place", 1)]) (g := (gName 1)) (tt := tYes) rfl scSbn.nd (pi_range1 (by rfl) T.z_range (pa_cons (pe_glob (v := .int 8) rfl M8 ⟨_, rfl⟩) pa_nil)) (blkOk_by (N := nSbn) (sc := defScope sSbn) (by decide +kernel)) (fun _ _ _ _ _ => (pg_name (i := 1) scSbn.nd rfl (.inl rfl))) (fun _ _ _ _ _ => pts_nil) (fun _ _ _ _ _ => (pe_cmpR op_eq (pe_op op_and (pe_op op_shr (pv 0) (pv 1)) pe_int) pe_int (nomark _)))) pa_nil)))), ?_⟩
    refine ⟨8, rfl, by decide, by decide, fun D nD => ?_⟩
    refine lc_range (Pv := fun i H' => Same H H' ∧ H' D = some (.lst (((List.range i).map (bitB n)).map V.bl))) ⟨same_new nD, upd_same⟩ ?_ ?_
    · rintro i H' hi ⟨s1, hD⟩
      have hi : i < 8 := hi
      refine ⟨rfl, _, rfl, _, rfl, _, _, rfl, rfl, by show (0 : Int) ≤ 0 + (i : Int); omega, _, _, rfl, rfl, rfl, _, hD, by rw [List.length_map, List.length_map, List.length_range]; exact small1000 (by omega), fun b o e => ?_, ?_⟩
      · rw [upd_ne (ne_of_none e nD)]
        exact s1 _ _ e
      · rw [upd_same, List.range_succ, List.map_append, List.map_append]
        show _ = some (HO.lst (_ ++ [V.bl (bitB n i)]))
        unfold bitB
        rw [show (0 + (i : Int)).toNat = i by omega]
    · rintro H' ⟨s1, hD⟩
      refine ⟨D, _, rfl, .of hD, fun p H2 np s2 hp _ => q p H2 (s1.trans s2) hp⟩
theorem sbn_len (n : Int) : (sbn n).length = 8 := by
  unfold sbn
  rw [List.length_map, List.length_range]
theorem sbn_all (bs : List Bool) (h : bs.length = 8) : ∃ n : Nat, n < 256 ∧ sbn n = bs := by
  match bs, h with
  | [a, b, c, d, e, f, g, i], _ =>
    refine ⟨a.toNat + 2 * b.toNat + 4 * c.toNat + 8 * d.toNat + 16 * e.toNat + 32 * f.toNat + 64 * g.toNat + 128 * i.toNat, ?_, ?_⟩
    · cases a <;> cases b <;> cases c <;> cases d <;> cases e <;> cases f <;> cases g <;> cases i <;> decide
    · revert a b c d e f g i
      decide +kernel
abbrev sEve : Stmt := topS 32
theorem scEve : GScope ["number"] [] (defScope sEve) := ⟨rfl, rfl, rfl, by decide +kernel, rfl, by decide +kernel, by decide +kernel⟩
theorem ncEve (y : Str) : (defScope sEve).names.lookup y ≠ some .cell ∧ (defScope sEve).names.lookup y ≠ some .free := by
  have h : ∀ p ∈ (defScope sEve).names, p.2 ≠ .cell ∧ p.2 ≠ .free := by decide +kernel
  exact ⟨fun e => (h _ (PySem.mem_of_lookup e)).1 rfl, fun e => (h _ (PySem.mem_of_lookup e)).2 rfl⟩
/-- what every_setting hands out at the turn i -/
def YEve (i : Nat) (H : Hp) (x : V) (H' : Hp) : Prop := ∃ p, x = .ref p ∧ Same H H' ∧ H' p = some (.tup ((sbn (0 + (i : Nat))).map V.bl))
abbrev sFol : Stmt := topS 33
theorem scFol : FnScope ["book", "claim", "setting"] ["book", "claim"] (defScope sFol) := ⟨rfl, rfl, rfl, by decide +kernel, rfl, by decide +kernel, by decide +kernel⟩
/-- bs shows that the claim does not follow -/
def Ctr (css : List (List Int)) (cs : List Int) (bs : List Bool) : Prop := bs.length = 8 ∧ cs.any (sh bs) = false ∧ ah bs css = true
def spFol (Ph Pa : Addr) : Sp := fun vs H Q _ => ∃ (v u : V) (css : List (List Int)) (cs : List Int), vs = [v, u] ∧ Bk H v css ∧ TupI H u cs ∧ Says cs ∧ (∀ cs ∈ css, Says cs) ∧ TabG H Ph ∧ TabG H Pa ∧
  (∀ p H', Ke Nof H H' → H' p = some (.tup [.str "follows"]) → (∀ bs, ¬ Ctr css cs bs) → Q (.ref p) H') ∧
  ∀ p r H' bs, Ke Nof H H' → H' p = some (.tup [.str "not", .ref r]) → H' r = some (.tup (bs.map V.bl)) → Ctr css cs bs → Q (.ref p) H'
theorem ok_fol {f fE fB fH fA Ph Pa : Addr} {fd fdE fdB fdH fdA : FuncData} {k : Nat} {tk : Tok} (F : Fun K "follows" "follows" sFol f fd) (T : Zt mg) (M8 : mg "MOST_THINGS" = some (.int 8 tk))
    (FB : Fun K "setting_by_number" "setting_by_number" sSbn fB fdB) (bB : Binds K fdB ["number"] []) (gB : mg "setting_by_number" = some (.ref fB)) (GB : FnOk P w K mg base CX0 2 fB fdB ["number"] spSbn)
    (FE : Fun K "every_setting" "every_setting" sEve fE fdE) (bE : Binds K fdE [] []) (gE : mg "every_setting" = some (.ref fE))
    (FH : Fun K "holds" "holds" sHol fH fdH) (bH : Binds K fdH ["claim", "setting"] []) (gH : mg "holds" = some (.ref fH)) (GH : FnOk P w K mg base CX0 3 fH fdH ["claim", "setting"] (spHol Ph))
    (FA : Fun K "all_hold" "all_hold" sAhd fA fdA) (bA : Binds K fdA ["book", "setting"] []) (gA : mg "all_hold" = some (.ref fA)) (GA : FnOk P w K mg base CX0 5 fA fdA ["book", "setting"] (spAhd Ph Pa)) :
    FnOk P w K mg base CX0 (k + 6) f fd ["book", "claim"] (spFol Ph Pa) := by
  refine F.ok scFol (fun vs H Q E h => ?_) (fun cdv A outer s H vs Q E hr h => ?_)
  · obtain ⟨v, u, css, cs, rfl, _⟩ := h
    rfl
  · obtain ⟨v, u, css, cs, rfl, hbk, hcl, sy, sys, tg, tga, q1, q2⟩ := h
    have hr2 : Room 2 _ := hr.mono (by omega)
    have hr3 : Room 3 _ := hr.mono (by omega)
    have hr4 : Room 5 _ := hr.mono (by omega)
    have hr1 : Room 4 _ := hr.mono (by omega)
    have hrB : ∀ {env : Env}, Room 2 (Around.deeper (Around.in1 _) env) := fun {env} => hr1.in1.deeper env
    obtain ⟨ocE, odE, kVE, docE, pmE, anE, cdvE, ctE, oslE, rfl, lkE, cdE⟩ := FE.ex
    have kpE := FE.kp
    refine ⟨_, (pss_cons (Gt.ps_forG (N := ["number"]) (tot := 256) (Yl := YEve) lkE cdE kpE scEve bE (fun _ => rfl) ncEve (by decide)
      (fun L => ⟨fun _ _ => pg_name (i := 0) scEve.nd rfl (.inl rfl), fun _ _ => pe_call GB hrB (by rfl) gB FB.kp bB .nil pass0 (pa_cons (pv 0) pa_nil), fun i _ q _ h => ⟨_, rfl, _, rfl, fun p _ sm hp => h (.ref p) _ ⟨p, rfl, sm, hp⟩⟩, fun _ _ _ _ ⟨_, _, sm, _⟩ => sm, rfl, rfl⟩)
      (fun _ _ _ => pi_range1 (by rfl) T.z_range (pa_cons (pe_op op_shl pe_int (pe_glob (v := .int 8) rfl M8 ⟨_, rfl⟩)) pa_nil)) (fun _ _ _ h => ⟨_, _, rfl, rfl, ⟨by decide, by decide, by decide⟩, 256, rfl, by decide, by decide, h⟩) (fun _ _ => rfl)
      (by rfl) gE hr2 (fun _ _ h => h) (pg_name (i := 2) scFol.nd rfl (.inl rfl)) (pss_one (ps_if (PW.pt (pw_and (pt_not (pt_val (pe_call GH hr3 (by rfl) gH FH.kp bH .nil pass0 (pa_cons (pv 1) (pa_cons (pv 2) pa_nil))))) (pw_and1 (pt_val (pe_call GA hr4 (by rfl) gA FA.kp bA .nil pass0 (pa_cons (pv 0) (pa_cons (pv 2) pa_nil))))))) (pss_one (ps_ret (pe_tupN (pa_cons pe_str (pa_cons (pv 2) pa_nil))))) pss_nil)))
      (pss_one (ps_ret (pe_tupN (pa_cons pe_str pa_nil))))), ?_⟩
    refine ⟨fun i σ H' => ∃ y3, σ = [some v, some u, y3] ∧ Ke Nof H H' ∧ ∀ n : Nat, n < i → ¬ Ctr css cs (sbn n), ⟨none, rfl, .refl _ _, fun n h => absurd h (Nat.not_lt_zero n)⟩, ?_, ?_⟩
    · rintro i σ H1 hi ⟨y3, rfl, k1, no⟩ x H2 ⟨p, rfl, s2, hp⟩
      rw [show (0 : Int) + (i : Int) = (i : Int) by omega] at hp
      have k2 : Ke Nof H H2 := k1.trans (.same s2)
      have l8 := sbn_len (i : Int)
      generalize hbs : sbn (i : Int) = bs at hp l8
      refine ⟨_, rfl, _, rfl, u, .ref p, cs, bs, rfl, hcl.ke k2, ⟨p, rfl, hp⟩, l8, sy, k2.tabs _ tg, fun H3 k3 => ⟨_, rfl, ?_⟩⟩
      have k4 := k2.trans k3
      have more : ¬ Ctr css cs bs → ∀ n : Nat, n < i + 1 → ¬ Ctr css cs (sbn n) := fun nc n hn => by
        by_cases e : n = i
        · rw [e, hbs]
          exact nc
        · exact no n (by omega)
      cases ea : cs.any (sh bs) with
      | true => exact ⟨_, rfl, k4, more fun z => by rw [z.2.1] at ea; cases ea⟩
      | false =>
        refine ⟨_, rfl, _, rfl, v, .ref p, css, bs, rfl, hbk.ke k4, ⟨p, rfl, k3.tups _ _ hp⟩, l8, sys, k4.tabs _ tg, k4.tabs _ tga, fun H5 k5 => ⟨_, rfl, ?_⟩⟩
        have k6 := k4.trans k5
        cases eb : ah bs css with
        | false => exact ⟨_, rfl, k6, more fun z => by rw [z.2.2] at eb; cases eb⟩
        | true =>
          refine ⟨_, rfl, by show 2 ≤ sizeLine; decide, fun r H7 nr s7 hr7 _ => ?_⟩
          exact q2 r p H7 bs (k6.trans (.same s7)) hr7 (s7 _ _ (k5.tups _ _ (k3.tups _ _ hp))) ⟨l8, ea, eb⟩
    · rintro σ H1 ⟨y3, rfl, k1, no⟩
      refine ⟨by show 1 ≤ sizeLine; decide, fun r H2 nr s2 hr2 _ => q1 r H2 (k1.trans (.same s2)) hr2 fun bs hc => ?_⟩
      obtain ⟨n, hn, e⟩ := sbn_all bs hc.1
      exact no n hn (by rw [e]; exact hc)
end
end Se
namespace St
open PySem PySem.Spec PyProof.Rows L2 Nw
/-! ### set(xs) of a list of whole numbers, and sorted of it -/
/-- a set as it begins -/
abbrev bare (w : World) : Obj := { cls := .type "set", dict := none, data := .set #[] 0 (.fresh 0 0 (!w.params.followText "set-order")) }
section
variable {P : Program} {w : World} {A : Around} {E : Value → Shared → Prop} {s : Shared}
set_option maxRecDepth 100000 in
set_option maxHeartbeats 3200000 in
theorem set_of_list {l : Addr} {xs : Array Value} (ks : List Int) {Q : Value → Shared → Prop} (hA : A.handled = none) (hx : s.heap.IsList l xs) (hk : IntsAre xs.toList ks) (few : ks.length + 1 < scanBound)
    (want : ∀ (h' : Heap) (tk c : Nat), SetR w h' s.heap.objs.size (fun j => decide (j ∈ ks)) c → c ≤ ks.length → (∀ b o, s.heap.get? b = some o → h'.get? b = some o) → Q (.ref s.heap.objs.size) { s with heap := h', toks := tk }) :
    wpAny (model P w) A (call (.type "set") [.ref l]) Q E s := by
  have sz : xs.size = ks.length := by rw [← Array.length_toList]; exact IntsAre.length hk
  obtain ⟨c, tl, hmro⟩ := F.called_set.mro
  have m1 := F.called_set.made
  have m2 := F.called_set.sub
  have m3 := F.called_set.notType
  have m4 := F.called_set.canCreate
  have m5 := F.typeCall_set_1 (.ref l)
  refine wpAny_call (codeAny_of_tree (wpAny_pure ⟨Code.quiet_builtin _ (by decide +kernel), codeAny_builtin F.entry_type_call ?_⟩))
  rw [Around.under_plain (weight_type_call_type "set" [.ref l] []) rfl]
  repeat (any_goals (first | assumption | wp_step))
  refine codeAny_mono (code_set_led1 (.ref l) (E := E) (Q₁ := fun o s1 => o = .ref s.heap.objs.size ∧ s1 = { s with heap := s.heap.push (bare w) }) ⟨rfl, rfl⟩) fun r s1 hr => ?_
  cases r with
  | error e => exact hr
  | ok fl =>
    cases fl with
    | next => exact hr.elim
    | brk => exact hr.elim
    | cont => exact hr.elim
    | ret o =>
      obtain ⟨rfl, rfl⟩ := hr
      have g0 : (s.heap.push (bare w)).get? s.heap.objs.size = some (bare w) := Heap.get?_push_size _ rfl
      have t0 : Shared.TypeIs { s with heap := s.heap.push (bare w) } (.ref s.heap.objs.size) "set" := ⟨_, g0, rfl⟩
      have m6 := F.called_set.init.lookup
      have m7 := F.called_set.init.bind (.ref s.heap.objs.size)
      repeat (any_goals (first | assumption | wp_step))
      refine codeAny_mono (codeAny_call_builtin (R := wants (fun r s2 => r = .none ∧ ∃ h' tk c, s2 = { s with heap := h', toks := tk } ∧ SetR w h' s.heap.objs.size (fun j => decide (j ∈ ks)) c ∧ c ≤ ks.length ∧ ∀ b o, s.heap.get? b = some o → h'.get? b = some o) E) F.called_set.init.plain F.entry_set_init (check_set_init_1 t0 ?_)) fun r2 s2 hr2 => ?_
      · obtain ⟨ol, g1, hc, nl, hd⟩ := hx
        have lt : l < s.heap.objs.size := Heap.lt_size g1
        obtain ⟨oc, od, oda, osl⟩ := ol
        dsimp only at hc hd
        subst hc hd
        have g2 : (s.heap.push (bare w)).get? l = some { cls := .type "list", dict := od, data := .seq xs nl, slots := osl } := Heap.get?_push_of_some _ g1
        have i1 : (s.heap.push (bare w)).IsList l xs := ⟨_, g2, rfl, nl, rfl⟩
        have m8 := F.sub_list_set
        have m9 := F.sub_list_frozenset
        have m10 : (Value.type "list" == Value.type "dict") = false := by decide
        have szp : (s.heap.push (bare w)).objs.size = s.heap.objs.size + 1 := Heap.size_push ..
        unfold Builtin.«set.__init__» noKeywords Builtin.Frozenset.updateFrom
        generalize hPI : pyIter = PI
        wp_walk
        subst hPI
        refine wpAny_pyIter_list i1 (wpAny_bind (wpAny_runValue ?_))
        have ne1 : l ≠ (s.heap.push (bare w)).objs.size := by rw [szp]; exact Nat.ne_of_lt (Nat.lt_succ_of_lt lt)
        have ne2 : s.heap.objs.size ∉ [(s.heap.push (bare w)).objs.size, l] := by
          rw [szp]
          simp only [List.mem_cons, List.not_mem_nil, or_false, not_or]
          exact ⟨Nat.ne_of_lt (Nat.lt_succ_self _), Nat.ne_of_gt lt⟩
        have at_ : ∀ (i : Nat) (v : Value), xs[i]? = some v → ∃ k t, ks[i]? = some k ∧ v = .int k t := fun i v hv => by
          have hi : i < ks.length := by rw [← sz]; exact (Array.getElem?_eq_some_iff.mp hv).1
          obtain ⟨t, e⟩ := IntsAre.int_at hk i v (by rw [Array.getElem?_toList]; exact hv)
          rw [List.getD_eq_getElem?_getD, List.getElem?_eq_getElem hi, Option.getD_some] at e
          exact ⟨ks[i], t, List.getElem?_eq_getElem hi, e⟩
        have hA3 : A.in1.in1.in1.handled = none := by simp [hA]
        refine set_update_ints ((Walks.list hA3 _ l ne1 xs).toS) s.heap.objs.size ne2 ks sz few at_ (xs.size - 0) 0 _ (by omega) (Nat.zero_le _) ⟨⟨_, Heap.get?_push_size _ rfl, rfl, rfl⟩, i1.push _⟩ ⟨0, Nat.le_refl 0, setR_new_at (Heap.get?_push_of_some _ g0)⟩ ?_
        intro s' c' hm hc' hS'
        obtain ⟨h', g', d', tk', os'⟩ := s'
        obtain rfl : g' = s.gens := hm.gens
        obtain rfl : d' = s.drawn := hm.drawn
        obtain rfl : os' = s.os := hm.os
        show wpAny _ _ _ _ _ _
        refine wpAny_pure (wpAny_pure ⟨rfl, h', tk', c', rfl, hS', by omega, fun b o e => ?_⟩)
        have lb : b < s.heap.objs.size := Heap.lt_size e
        refine hm.heap b o ?_ (Heap.get?_push_of_some _ (Heap.get?_push_of_some _ e))
        rw [szp]
        simp only [List.mem_cons, List.not_mem_nil, or_false, not_or]
        exact ⟨Nat.ne_of_lt lb, Nat.ne_of_lt (Nat.lt_succ_of_lt lb)⟩
      · cases r2 with
        | error e => exact hr2
        | ok f2 =>
          cases f2 with
          | next => exact hr2.elim
          | brk => exact hr2.elim
          | cont => exact hr2.elim
          | ret r =>
            obtain ⟨rfl, h', tk, c', rfl, hS', hc', hk'⟩ := hr2
            repeat (any_goals (first | assumption | wp_step))
            exact want _ _ _ hS' hc' hk'
end
end St
namespace St
open PySem PySem.Spec PyProof.Rows L2 Nw
theorem cr_setL {X : Cx} (hc : X.calm = true) : CallR X (.type "set") (fun xs H Q => ∃ (a : Addr) (ns : List Int), xs = [.ref a] ∧ SqL X.K H a (ns.map V.int) ∧ ns.length ≤ 60 ∧ ∀ p H2 n, H p = none → Same H H2 → H2 p = some (SetO X.w p (fun j => decide (j ∈ ns)) n) → n ≤ ns.length → Q (.ref p) H2) := by
  intro pins s σ H xs us Q I r h
  obtain ⟨a, ns, rfl, hs, hl, q⟩ := h
  obtain ⟨u, rfl, ru⟩ := Vals.one r
  cases ru
  obtain ⟨its, ri, pl, _⟩ := I.list hs
  have hn : H s.heap.objs.size = none := I.hok.fresh (Nat.le_refl _)
  refine set_of_list ns (I.ok.hd hc) (PlainL.isList pl) (by rw [List.toList_toArray]; exact Vals.ints ri) (by unfold scanBound; omega) fun h' tk c R lc k => ?_
  exact ⟨.ref s.heap.objs.size, upd H s.heap.objs.size (SetO X.w s.heap.objs.size (fun j => decide (j ∈ ns)) c), I.laid (t' := tk) k (Nat.le_refl _) (setO_new R), rfl, q _ _ c hn (same_new hn) upd_same lc⟩
theorem cr_sortedS {X : Cx} (hc : X.calm = true) : CallR X (.builtin "sorted") (fun vs H Q => ∃ (a : Addr) (S : Int → Bool) (n : Nat), vs = [V.ref a] ∧ H a = some (SetO X.w a S n) ∧ n < 64 ∧ ∀ ns : List Int, ns.Pairwise (· < ·) → (∀ k : Int, k ∈ ns ↔ S k = true) → ns.length = n → New H (.lst (ns.map V.int)) Q) :=
  call_weak (cr_sortedSet hc) fun _ _ _ ⟨a, S, n, h1, h2, h3, h4⟩ => ⟨a, S, n, h1, h2, h3, fun ns p x1 x2 x3 np => (h4 ns x1 x2 x3).to p np⟩
end St
namespace St
open PySem PySem.Spec PyProof.Rows L2 Nw
section
variable {X : Cx}
/-- sorted(t), t a tuple of whole numbers: the items are gathered in a list, then a list of these is sorted in its place -/
theorem cr_sortedT : CallR X (.builtin "sorted") (fun vs H Q => ∃ (a : Addr) (ns : List Int), vs = [V.ref a] ∧ SqT X.K H a (ns.map V.int) ∧ ∀ ns' : List Int, ns'.Perm ns → ns'.Pairwise (· ≤ ·) → New H (.lst (ns'.map V.int)) Q) := by
  intro pins s σ H vs us Q I r h
  obtain ⟨a, ns, rfl, hs, q⟩ := h
  obtain ⟨its, rv, ⟨o, ho, hcl, n, hd⟩, hz⟩ := I.tuple hs
  obtain ⟨u, rfl, ru⟩ := Vals.one r
  cases ru
  have hin := Vals.ints rv
  have lz : its.length ≤ sizeLine := by rw [← Vals.length rv]; exact hz
  refine Calls.call_function_entry PyProof.Rows.kind_sorted PyProof.Rows.plain_sorted PyProof.Rows.entry_sorted (PyProof.Rows.args_sorted1 _) ?_
  unfold Builtin.«sorted»
  refine wpAny_bind (m := checkCount "sorted" 1 1 _) (wpAny_pure (wpAny_bind (wpAny_collect_seq a (.inr rfl) ho hcl hd (fun h1 k1 => ?_) (by rw [List.size_toArray]; exact lz))))
  refine wpAny_bind (wpAny_newList ?_ (by rw [List.toList_toArray]; exact lz))
  rw [List.toList_toArray]
  have at1 : (h1.push (seqObj "list" its.toArray 0)).get? h1.objs.size = some (seqObj "list" its.toArray 0) := Heap.get?_push_size _ rfl
  have up1 : ∀ b o, s.heap.get? b = some o → b ≠ h1.objs.size ∧ (h1.push (seqObj "list" its.toArray 0)).get? b = some o := fun b o e => ⟨Nat.ne_of_lt (Heap.lt_size (k1 b o e)), Heap.get?_push_of_some _ (k1 b o e)⟩
  refine wpAny_bind (wpAny_holding (wpAny_call_entry PyProof.Rows.slot_list_sort ⟨_, at1, rfl⟩ PyProof.Rows.entry_list_sort (SrtO.list_sort_ord SrtO.swo_int at1 lz (fun h2 => SrtO.ints_sortable hin h2) fun out g1 g2 => ⟨_, rfl, ?_⟩) (PyProof.Rows.args_list_sort _)))
  obtain ⟨i1, i2, i3⟩ := SrtO.ints_out hin g1 g2
  obtain ⟨ep, hat⟩ := PyProof.Rows.sortedHeap_at (out := out.toArray) at1
  have gone : s.heap.get? h1.objs.size = none := by
    cases e : s.heap.get? h1.objs.size with
    | none => rfl
    | some o => exact absurd (Heap.lt_size (k1 _ o e)) (Nat.lt_irrefl _)
  have hn : H h1.objs.size = none := I.hok.gone gone
  have old : ∀ b o, s.heap.get? b = some o → (PyProof.Rows.sortedHeap (h1.push (seqObj "list" its.toArray 0)) h1.objs.size its out.toArray).get? b = some o := fun b o e => by
    rw [PyProof.Rows.sortedHeap_old (up1 b o e).1 (Heap.lt_size (up1 b o e).2)]
    exact (up1 b o e).2
  have len : ((out.map SrtO.iv).map V.int).length ≤ sizeLine := by
    rw [List.length_map, i2.length_eq]
    rw [List.length_map] at hz
    exact hz
  refine wpAny_pure ⟨_, rfl, .ref h1.objs.size, upd H h1.objs.size (.lst ((out.map SrtO.iv).map V.int)), I.laidN (t' := s.toks) old gone hn ⟨len, out, ep, vals_of_ints i1, hat⟩, rfl, (q _ i2 i3).to _ hn⟩
end
end St
namespace St2
open PySem PySem.Spec PyProof.Rows L2 Nw
/-! ### set(t) of a tuple of whole numbers -/
/-- a set as it begins -/
abbrev bare (w : World) : Obj := { cls := .type "set", dict := none, data := .set #[] 0 (.fresh 0 0 (!w.params.followText "set-order")) }
section
variable {P : Program} {w : World} {A : Around} {E : Value → Shared → Prop} {s : Shared}
set_option maxRecDepth 100000 in
set_option maxHeartbeats 3200000 in
theorem set_of_tup {l : Addr} {xs : Array Value} (ks : List Int) {Q : Value → Shared → Prop} (hA : A.handled = none) (hx : s.heap.IsTuple l xs) (hk : IntsAre xs.toList ks) (few : ks.length + 1 < scanBound)
    (want : ∀ (h' : Heap) (tk c : Nat), SetR w h' s.heap.objs.size (fun j => decide (j ∈ ks)) c → c ≤ ks.length → (∀ b o, s.heap.get? b = some o → h'.get? b = some o) → Q (.ref s.heap.objs.size) { s with heap := h', toks := tk }) :
    wpAny (model P w) A (call (.type "set") [.ref l]) Q E s := by
  have sz : xs.size = ks.length := by rw [← Array.length_toList]; exact IntsAre.length hk
  obtain ⟨c, tl, hmro⟩ := F.called_set.mro
  have m1 := F.called_set.made
  have m2 := F.called_set.sub
  have m3 := F.called_set.notType
  have m4 := F.called_set.canCreate
  have m5 := F.typeCall_set_1 (.ref l)
  refine wpAny_call (codeAny_of_tree (wpAny_pure ⟨Code.quiet_builtin _ (by decide +kernel), codeAny_builtin F.entry_type_call ?_⟩))
  rw [Around.under_plain (weight_type_call_type "set" [.ref l] []) rfl]
  repeat (any_goals (first | assumption | wp_step))
  refine codeAny_mono (code_set_led1 (.ref l) (E := E) (Q₁ := fun o s1 => o = .ref s.heap.objs.size ∧ s1 = { s with heap := s.heap.push (bare w) }) ⟨rfl, rfl⟩) fun r s1 hr => ?_
  cases r with
  | error e => exact hr
  | ok fl =>
    cases fl with
    | next => exact hr.elim
    | brk => exact hr.elim
    | cont => exact hr.elim
    | ret o =>
      obtain ⟨rfl, rfl⟩ := hr
      have g0 : (s.heap.push (bare w)).get? s.heap.objs.size = some (bare w) := Heap.get?_push_size _ rfl
      have t0 : Shared.TypeIs { s with heap := s.heap.push (bare w) } (.ref s.heap.objs.size) "set" := ⟨_, g0, rfl⟩
      have m6 := F.called_set.init.lookup
      have m7 := F.called_set.init.bind (.ref s.heap.objs.size)
      repeat (any_goals (first | assumption | wp_step))
      refine codeAny_mono (codeAny_call_builtin (R := wants (fun r s2 => r = .none ∧ ∃ h' tk c, s2 = { s with heap := h', toks := tk } ∧ SetR w h' s.heap.objs.size (fun j => decide (j ∈ ks)) c ∧ c ≤ ks.length ∧ ∀ b o, s.heap.get? b = some o → h'.get? b = some o) E) F.called_set.init.plain F.entry_set_init (check_set_init_1 t0 ?_)) fun r2 s2 hr2 => ?_
      · obtain ⟨ol, g1, hc, nl, hd⟩ := hx
        have lt : l < s.heap.objs.size := Heap.lt_size g1
        obtain ⟨oc, od, oda, osl⟩ := ol
        dsimp only at hc hd
        subst hc hd
        have g2 : (s.heap.push (bare w)).get? l = some { cls := .type "tuple", dict := od, data := .seq xs nl, slots := osl } := Heap.get?_push_of_some _ g1
        have i1 : (s.heap.push (bare w)).IsTuple l xs := ⟨_, g2, rfl, nl, rfl⟩
        have m8 := F.sub_tuple_set
        have m9 := F.sub_tuple_frozenset
        have m10 : (Value.type "tuple" == Value.type "dict") = false := by decide
        have szp : (s.heap.push (bare w)).objs.size = s.heap.objs.size + 1 := Heap.size_push ..
        unfold Builtin.«set.__init__» noKeywords Builtin.Frozenset.updateFrom
        generalize hPI : pyIter = PI
        wp_walk
        subst hPI
        refine wpAny_pyIter_tuple i1 (wpAny_bind (wpAny_runValue ?_))
        have ne1 : l ≠ (s.heap.push (bare w)).objs.size := by rw [szp]; exact Nat.ne_of_lt (Nat.lt_succ_of_lt lt)
        have ne2 : s.heap.objs.size ∉ [(s.heap.push (bare w)).objs.size, l] := by
          rw [szp]
          simp only [List.mem_cons, List.not_mem_nil, or_false, not_or]
          exact ⟨Nat.ne_of_lt (Nat.lt_succ_self _), Nat.ne_of_gt lt⟩
        have at_ : ∀ (i : Nat) (v : Value), xs[i]? = some v → ∃ k t, ks[i]? = some k ∧ v = .int k t := fun i v hv => by
          have hi : i < ks.length := by rw [← sz]; exact (Array.getElem?_eq_some_iff.mp hv).1
          obtain ⟨t, e⟩ := IntsAre.int_at hk i v (by rw [Array.getElem?_toList]; exact hv)
          rw [List.getD_eq_getElem?_getD, List.getElem?_eq_getElem hi, Option.getD_some] at e
          exact ⟨ks[i], t, List.getElem?_eq_getElem hi, e⟩
        have hA3 : A.in1.in1.in1.handled = none := by simp [hA]
        refine set_update_ints ((Walks.tuple hA3 _ l ne1 xs).toS) s.heap.objs.size ne2 ks sz few at_ (xs.size - 0) 0 _ (by omega) (Nat.zero_le _) ⟨⟨_, Heap.get?_push_size _ rfl, rfl, rfl⟩, i1.push _⟩ ⟨0, Nat.le_refl 0, setR_new_at (Heap.get?_push_of_some _ g0)⟩ ?_
        intro s' c' hm hc' hS'
        obtain ⟨h', g', d', tk', os'⟩ := s'
        obtain rfl : g' = s.gens := hm.gens
        obtain rfl : d' = s.drawn := hm.drawn
        obtain rfl : os' = s.os := hm.os
        show wpAny _ _ _ _ _ _
        refine wpAny_pure (wpAny_pure ⟨rfl, h', tk', c', rfl, hS', by omega, fun b o e => ?_⟩)
        have lb : b < s.heap.objs.size := Heap.lt_size e
        refine hm.heap b o ?_ (Heap.get?_push_of_some _ (Heap.get?_push_of_some _ e))
        rw [szp]
        simp only [List.mem_cons, List.not_mem_nil, or_false, not_or]
        exact ⟨Nat.ne_of_lt lb, Nat.ne_of_lt (Nat.lt_succ_of_lt lb)⟩
      · cases r2 with
        | error e => exact hr2
        | ok f2 =>
          cases f2 with
          | next => exact hr2.elim
          | brk => exact hr2.elim
          | cont => exact hr2.elim
          | ret r =>
            obtain ⟨rfl, h', tk, c', rfl, hS', hc', hk'⟩ := hr2
            repeat (any_goals (first | assumption | wp_step))
            exact want _ _ _ hS' hc' hk'
theorem cr_setT {X : Cx} (hc : X.calm = true) : CallR X (.type "set") (fun xs H Q => ∃ (a : Addr) (ns : List Int), xs = [.ref a] ∧ SqT X.K H a (ns.map V.int) ∧ ns.length ≤ 60 ∧ ∀ p H2 n, H p = none → Same H H2 → H2 p = some (SetO X.w p (fun j => decide (j ∈ ns)) n) → n ≤ ns.length → Q (.ref p) H2) := by
  intro pins s σ H xs us Q I r h
  obtain ⟨a, ns, rfl, hs, hl, q⟩ := h
  obtain ⟨u, rfl, ru⟩ := Vals.one r
  cases ru
  obtain ⟨its, ri, pl, _⟩ := I.tuple hs
  have hn : H s.heap.objs.size = none := I.hok.fresh (Nat.le_refl _)
  refine set_of_tup ns (I.ok.hd hc) (show s.heap.IsTuple a its.toArray from pl) (by rw [List.toList_toArray]; exact Vals.ints ri) (by unfold scanBound; omega) fun h' tk c R lc k => ?_
  exact ⟨.ref s.heap.objs.size, upd H s.heap.objs.size (SetO X.w s.heap.objs.size (fun j => decide (j ∈ ns)) c), I.laid (t' := tk) k (Nat.le_refl _) (setO_new R), rfl, q _ _ c hn (same_new hn) upd_same lc⟩
end
end St2
namespace Ct
open PySem PySem.Spec PyProof.Rows L2 GxR Nw Dr Kp Se
structure Zc (mg : Str → Option Value) : Prop where
  z_any : mg "any" = none
  z_isinstance : mg "isinstance" = none
  z_int : mg "int" = none
  z_bool : mg "bool" = none
  z_tuple : mg "tuple" = none
  z_sorted : mg "sorted" = none
  z_set : mg "set" = none
abbrev sHop : Stmt := topS 5
abbrev nHop : List Str := ["says", "say"]
theorem scHop : FnScope nHop ["says"] (defScope sHop) := ⟨rfl, rfl, rfl, by decide +kernel, rfl, by decide +kernel, by decide +kernel⟩
abbrev sWho : Stmt := topS 2
theorem scWho : FnScope ["thing"] ["thing"] (defScope sWho) := ⟨rfl, rfl, rfl, by decide +kernel, rfl, by decide +kernel, by decide +kernel⟩
abbrev sCme : Stmt := topS 12
theorem scCme : FnScope ["one", "other", "k"] ["one", "other", "k"] (defScope sCme) := ⟨rfl, rfl, rfl, by decide +kernel, rfl, by decide +kernel, by decide +kernel⟩
abbrev sCon : Stmt := topS 13
abbrev nCon : List Str := ["one", "other", "k", "says", "say"]
theorem scCon : FnScope nCon ["one", "other", "k"] (defScope sCon) := ⟨rfl, rfl, rfl, by decide +kernel, rfl, by decide +kernel, by decide +kernel⟩
theorem ints_flat (cs : List Int) : (cs.map V.int).all flatV = true := by
  rw [List.all_map, List.all_eq_true]
  exact fun _ _ => rfl
theorem at_int {ks : List Int} {i : Nat} {x : V} (hx : (ks.map V.int)[i]? = some x) : ∃ z, ks[i]? = some z ∧ x = V.int z := by
  rw [List.getElem?_map] at hx
  cases e : ks[i]? with
  | none =>
    rw [e] at hx
    cases hx
  | some z =>
    rw [e] at hx
    exact ⟨z, rfl, (Option.some.inj hx).symm⟩
/-- any/all over a list that stays -/
theorem aa_list {K : PySem.W.Frag} {a : Addr} {xs : List V} {g : TG} {tt : TT} {te : TE} {vs : List Nat} {σ : L2.St} {H1 : Hp} {stopb : Bool} {Q : VK} (Pv : Nat → Hp → Prop) (h0 : Pv 0 H1) (hl : ∀ i H, i ≤ xs.length → Pv i H → SqL K H a xs)
    (hs : ∀ i x H, xs[i]? = some x → Pv i H → g x (wipe σ vs) H fun σ2 H2 => wipe σ2 vs = wipe σ vs ∧ tt σ2 H2 fun b H3 => if b = true then te σ2 H3 fun y H4 => (y = .bl stopb ∧ Q (.bl stopb) H4) ∨ (y = .bl (!stopb) ∧ Pv (i + 1) H4) else Pv (i + 1) H3) (hd : ∀ H, Pv xs.length H → Q (.bl (!stopb)) H) :
    ∃ W : Nat → Nat → Hp → Prop, (∃ m, W 0 m H1) ∧ ∀ i m H, W i m H → ((Itl K a).stop i H ∧ Q (.bl (!stopb)) H) ∨ ((Itl K a).go i H ∧ ∃ Nx : Hp → Prop, (∀ H', Nx H' → ∃ m', m' < m ∧ W (i + 1) m' H') ∧ ∀ x H', (Itl K a).yld i H x H' → g x (wipe σ vs) H' fun σ2 H2 => wipe σ2 vs = wipe σ vs ∧ tt σ2 H2 fun b H3 =>
      if b = true then te σ2 H3 fun y H4 => (y = .bl stopb ∧ Q (.bl stopb) H4) ∨ (y = .bl (!stopb) ∧ Nx H4) else Nx H3) := by
  refine ⟨fun i m H => i + m = xs.length ∧ Pv i H, ⟨xs.length, Nat.zero_add _, h0⟩, fun i m H ⟨e, p⟩ => ?_⟩
  have sq := hl i H (by omega) p
  cases m with
  | zero =>
    have ei : i = xs.length := by omega
    subst ei
    exact .inl ⟨⟨xs, sq, Nat.le_refl _⟩, hd H p⟩
  | succ m =>
    have lt : i < xs.length := by omega
    refine .inr ⟨⟨xs, xs[i], sq, List.getElem?_eq_getElem lt⟩, Pv (i + 1), fun H' q => ⟨m, Nat.lt_succ_self m, by omega, q⟩, fun x H' y => ?_⟩
    obtain ⟨rfl, y⟩ := y
    exact hs i x _ (y xs sq) p
/-- two of the says are opposite -/
def oppB (ns : List Int) : Bool := ns.any fun s => decide (0 < s) && inV (.int (-s)) (ns.map V.int)
theorem take_any {α : Type} {f : α → Bool} {l : List α} {i : Nat} {x : α} (h : l[i]? = some x) (p : (l.take i).any f = false) : (f x = true → l.any f = true) ∧ (f x = false → (l.take (i + 1)).any f = false) := by
  refine ⟨fun z => List.any_eq_true.mpr ⟨x, List.mem_of_getElem? h, z⟩, fun z => ?_⟩
  rw [List.take_add_one, h, List.any_append, p]
  show (f x || false) = false
  rw [z]
  rfl
section
variable {P : Program} {w : World} {K : PySem.W.Frag} {mg : Str → Option Value} {base : Heap}
def spHop (Po : Addr) : Sp := fun vs H Q _ => ∃ (a : Addr) (ns : List Int), vs = [.ref a] ∧ H a = some (.lst (ns.map V.int)) ∧ TabG H Po ∧ ∀ H', Ke Nof H H' → Q (.bl (oppB ns)) H'
theorem ok_hop {f c Po : Addr} {fd : FuncData} {k : Nat} (F : FunC K "has_opposites" "has_opposites" sHop f c fd) (T : Zc mg) (TB : TabB base mg c Po) : FnOk P w K mg base CX0 (k + 3) f fd ["says"] (spHop Po) := by
  refine F.ok scHop (fun vs H Q E h => ?_) (fun A outer s H vs Q E hr h => ?_)
  · obtain ⟨a, ns, rfl, _⟩ := h
    rfl
  · obtain ⟨a, ns, rfl, ha, tg, q⟩ := h
    refine ⟨_, (pss_one (ps_ret (Gx.pe_any hr (by rfl) T.z_any rfl scHop.nd TB rfl (pi_list (pv 0)) (own := [("say", 1)]) (g := gName 1) (blkOk_by (N := nHop) (sc := defScope sHop) (by decide +kernel)) ⟨rfl, by decide +kernel, rfl⟩ (fun _ _ _ _ _ _ _ => pg_name (i := 1) scHop.nd rfl (.inl rfl)) (fun _ _ _ _ _ _ _ => (pts_one (pt_cmpR op_gt (pv 1) pe_int (nomark _)))) (fun _ _ _ _ _ _ _ => (pe_cmpR (op_in_seqB (K := K) rfl) (pe_un un_neg (pv 1)) (pv 0) (by rfl)))))), ?_⟩
    refine ⟨_, rfl, a, rfl, ⟨_, .of ha⟩, tg, fun H1 tb => ?_⟩
    have k1 : Ke Nof H H1 := .tabbed tg tb
    refine aa_list (xs := ns.map V.int) (Pv := fun i H' => Ke Nof H H' ∧ (ns.take i).any (fun s => decide (0 < s) && inV (.int (-s)) (ns.map V.int)) = false) ⟨k1, rfl⟩ (fun i H' _ p => .of (p.1.lst ha fun z => z)) ?_ ?_
    · rintro i x H' hx ⟨k2, p⟩
      obtain ⟨z, hz, rfl⟩ := at_int hx
      obtain ⟨t1, t2⟩ := take_any hz p
      refine ⟨rfl, _, rfl, _, _, rfl, rfl, _, rfl, ite2 (fun y1 => ?_) (fun y1 => ?_)⟩
      · refine ⟨_, rfl, _, rfl, _, rfl, a, _, rfl, .inl (.of (k2.lst ha fun z => z)), rfl, ints_flat ns, ?_⟩
        cases e : inV (.int (-z)) (ns.map V.int) with
        | true =>
          refine .inl ⟨rfl, ?_⟩
          have := q H' k2
          rw [show oppB ns = true from t1 (by rw [e, Bool.and_true]; exact y1)] at this
          exact this
        | false => exact .inr ⟨rfl, k2, t2 (by rw [e, Bool.and_false])⟩
      · exact ⟨k2, t2 (by rw [show decide (0 < z) = false from Bool.eq_false_iff.mpr y1, Bool.false_and])⟩
    · rintro H' ⟨k2, p⟩
      rw [List.length_map, List.take_length] at p
      have := q H' k2
      rw [show oppB ns = false from p] at this
      exact this
def spWho : Sp := fun vs H Q _ => ∃ k : Int, vs = [.int k] ∧ Q (.bl true) H
theorem ok_who {f : Addr} {fd : FuncData} {k : Nat} (F : Fun K "is_whole" "is_whole" sWho f fd) (T : Zc mg) : FnOk P w K mg base CX0 (k + 1) f fd ["thing"] spWho := by
  refine F.ok scWho (fun vs H Q E h => ?_) (fun cdv A outer s H vs Q E hr h => ?_)
  · obtain ⟨k, rfl, _⟩ := h
    rfl
  · obtain ⟨k, rfl, q⟩ := h
    refine ⟨_, (pss_one (ps_ret (pe_and (pe_callB call_isi (by rfl) T.z_isinstance (by decide +kernel) (pa_cons (pv 0) (pa_cons (pe_bltn (v := .ty "int") (u := .type "int") (by rfl) T.z_int (by decide +kernel) rfl) pa_nil))) (pe_one (pe_not (pe_callB call_isi (by rfl) T.z_isinstance (by decide +kernel) (pa_cons (pv 0) (pa_cons (pe_bltn (v := .ty "bool") (u := .type "bool") (by rfl) T.z_bool (by decide +kernel) rfl) pa_nil)))))))), ?_⟩
    refine ⟨_, rfl, .int k, .ty "int", .type "int", .type "int", true, rfl, .ty _, .base (.int k), kit_ty (by decide +kernel), _, rfl, ?_⟩
    refine ⟨_, rfl, .int k, .ty "bool", .type "int", .type "bool", false, rfl, .ty _, .base (.int k), kit_ty (by decide +kernel), _, rfl, q⟩
/-- k meets -/
def meetB (cs ds : List Int) (k : Int) : Bool := decide (1 ≤ k) && decide (k ≤ 8) && inV (.int k) (cs.map V.int) && inV (.int (-k)) (ds.map V.int)
def spCme : Sp := fun vs H Q _ => ∃ (v u : V) (k : Int) (cs ds : List Int), vs = [v, u, .int k] ∧ TupI H v cs ∧ TupI H u ds ∧ Q (.bl (meetB cs ds k)) H
theorem ok_cme {f fW : Addr} {fd fdW : FuncData} {k : Nat} {tk : Tok} (F : Fun K "can_meet" "can_meet" sCme f fd) (T : Zc mg) (M8 : mg "MOST_THINGS" = some (.int 8 tk)) (FW : Fun K "is_whole" "is_whole" sWho fW fdW) (bW : Binds K fdW ["thing"] []) (gW : mg "is_whole" = some (.ref fW)) (GW : FnOk P w K mg base CX0 1 fW fdW ["thing"] spWho) :
    FnOk P w K mg base CX0 (k + 2) f fd ["one", "other", "k"] spCme := by
  refine F.ok scCme (fun vs H Q E h => ?_) (fun cdv A outer s H vs Q E hr h => ?_)
  · obtain ⟨v, u, k, cs, ds, rfl, _⟩ := h
    rfl
  · obtain ⟨v, u, k, cs, ds, rfl, ⟨a, rfl, ha⟩, ⟨b, rfl, hb⟩, q⟩ := h
    have hr1 : Room 1 _ := hr.mono (by omega)
    refine ⟨_, (pss_one (ps_ret (pe_and (pe_call GW hr1 (by rfl) gW FW.kp bW .nil pass0 (pa_cons (pv 2) pa_nil)) (pe_and (pe_chain op_le op_le pe_int (pv 2) (pe_glob (v := .int 8) rfl M8 ⟨_, rfl⟩)) (pe_and (pe_cmpR op_in_seq (pv 2) (pv 0) (by rfl)) (pe_one (pe_cmpR op_in_seq (pe_un un_neg (pv 2)) (pv 1) (by rfl)))))))), ?_⟩
    refine ⟨_, rfl, k, rfl, _, rfl, ?_⟩
    unfold meetB at q
    refine ⟨_, rfl, 1, _, rfl, rfl, decide (1 ≤ k), rfl, ?_⟩
    cases e1 : decide (1 ≤ k) with
    | false =>
      rw [e1] at q
      exact ⟨_, rfl, q⟩
    | true =>
      refine ⟨_, _, rfl, rfl, decide (k ≤ 8), rfl, ?_⟩
      cases e2 : decide (k ≤ 8) with
      | false =>
        rw [e1, e2] at q
        exact q
      | true =>
        refine ⟨_, rfl, _, rfl, a, _, rfl, .inr (.of ha), rfl, ints_flat cs, _, rfl, ?_⟩
        cases e3 : inV (.int k) (cs.map V.int) with
        | false =>
          rw [e1, e2, e3] at q
          exact q
        | true =>
          rw [e1, e2, e3] at q
          exact ⟨_, rfl, _, rfl, _, rfl, b, _, rfl, .inr (.of hb), rfl, ints_flat ds, q⟩
/-- what is said besides -/
def saysB (cs ds : List Int) (k : Int) : List Int := (cs.filter fun s => !decide (V.int s = V.int k)) ++ ds.filter fun s => !decide (V.int s = V.int (-k))
theorem filt_take {α : Type} {f : α → Bool} {l : List α} {i : Nat} {x : α} (h : l[i]? = some x) : (l.take (i + 1)).filter f = (l.take i).filter f ++ (if f x = true then [x] else []) := by
  rw [List.take_add_one, h, List.filter_append]
  congr 1
  show [x].filter f = _
  cases e : f x with
  | true => rw [List.filter_cons_of_pos e]; rfl
  | false => rw [List.filter_cons_of_neg (by rw [e]; decide)]; rfl
def spCon (Po : Addr) : Sp := fun vs H Q _ => ∃ (v u : V) (k : Int) (cs ds : List Int), vs = [v, u, .int k] ∧ TupI H v cs ∧ TupI H u ds ∧ cs.length ≤ 20 ∧ ds.length ≤ 20 ∧ TabG H Po ∧
  (∀ H', Ke Nof H H' → (meetB cs ds k = false ∨ oppB (saysB cs ds k) = true) → Q .non H') ∧
  ∀ (ns : List Int) (p : Addr) (H' : Hp), Ke Nof H H' → meetB cs ds k = true → oppB (saysB cs ds k) = false → ns.Pairwise (· < ·) → (∀ j, j ∈ ns ↔ j ∈ saysB cs ds k) → H' p = some (.tup (ns.map V.int)) → Q (.ref p) H'
theorem ok_con {f fM fH Po : Addr} {fd fdM fdH : FuncData} {k : Nat} (F : Fun K "cut_or_none" "cut_or_none" sCon f fd) (T : Zc mg) (FM : Fun K "can_meet" "can_meet" sCme fM fdM) (bM : Binds K fdM ["one", "other", "k"] []) (gM : mg "can_meet" = some (.ref fM)) (GM : FnOk P w K mg base CX0 2 fM fdM ["one", "other", "k"] spCme)
    (kpH : PySem.W.keepIn K (.ref fH) = true) (bH : Binds K fdH ["says"] []) (gH : mg "has_opposites" = some (.ref fH)) (GH : FnOk P w K mg base CX0 3 fH fdH ["says"] (spHop Po)) :
    FnOk P w K mg base CX0 (k + 4) f fd ["one", "other", "k"] (spCon Po) := by
  refine F.ok scCon (fun vs H Q E h => ?_) (fun cdv A outer s H vs Q E hr h => ?_)
  · obtain ⟨v, u, k, cs, ds, rfl, _⟩ := h
    rfl
  · obtain ⟨v, u, k, cs, ds, rfl, tv, tu, lc, ld, tg, q1, q2⟩ := h
    have hr2 : Room 2 _ := hr.mono (by omega)
    have hr3 : Room 3 _ := hr.mono (by omega)
    refine ⟨_, (pss_cons (ps_if (pt_not (pt_val (pe_call GM hr2 (by rfl) gM FM.kp bM .nil pass0 (pa_cons (pv 0) (pa_cons (pv 1) (pa_cons (pv 2) pa_nil)))))) (pss_one (ps_ret pe_non)) pss_nil)
      (Evl.pss_cut (ps_set (i := 3) scCon.nd rfl (.inl rfl) (pe_op op_catN (pe_lc (own := [("say", 4)]) (g := (gName 4))  rfl scCon.nd (pi_tup (pv 0)) (blkOk_by (N := nCon) (sc := defScope sCon) (by decide +kernel)) (fun _ _ _ _ _ => (pg_name (i := 4) scCon.nd rfl (.inl rfl))) (fun _ _ _ _ _ => (pts_one (pt_cmpR op_ne (pv 4) (pv 2) (nomark _)))) (fun _ _ _ _ _ => (pv 4))) (pe_lc (own := [("say", 4)]) (g := (gName 4))  rfl scCon.nd (pi_tup (pv 1)) (blkOk_by (N := nCon) (sc := defScope sCon) (by decide +kernel)) (fun _ _ _ _ _ => (pg_name (i := 4) scCon.nd rfl (.inl rfl))) (fun _ _ _ _ _ => (pts_one (pt_cmpR op_ne (pv 4) (pe_un un_neg (pv 2)) (nomark _)))) (fun _ _ _ _ _ => (pv 4)))))
      (pss_cons (ps_if (pt_val (pe_call GH hr3 (by rfl) gH kpH bH .nil pass0 (pa_cons (pv 3) pa_nil))) (pss_one (ps_ret pe_non)) pss_nil)
      (pss_one (ps_ret (pe_callTy call_tuple_ofN (by rfl) T.z_tuple (by decide +kernel) (pa_cons (pe_callB (St.cr_sortedS rfl) (by rfl) T.z_sorted (by decide +kernel) (pa_cons (pe_callTy (St.cr_setL rfl) (by rfl) T.z_set (by decide +kernel) (pa_cons (pv 3) pa_nil)) pa_nil)) pa_nil))))))), ?_⟩
    obtain ⟨a, rfl, ha⟩ := id tv
    obtain ⟨b, rfl, hb⟩ := id tu
    refine ⟨_, rfl, _, rfl, _, rfl, .ref a, .ref b, k, cs, ds, rfl, tv, tu, _, rfl, ?_⟩
    cases e1 : meetB cs ds k with
    | false => exact q1 H (.refl _ _) (.inl e1)
    | true =>
      refine Evl.q_cut (M := fun σ' H' => ∃ p : Addr, σ' = [some (.ref a), some (.ref b), some (.int k), some (.ref p), none] ∧ Same H H' ∧ H' p = some (.lst ((saysB cs ds k).map V.int))) ?_ ?_
      · refine ⟨_, rfl, a, rfl, ⟨_, .of ha⟩, fun D nD => ?_⟩
        refine lc_tup (xs := cs.map V.int) (Pv := fun i H' => Same H H' ∧ H' D = some (.lst (((cs.take i).filter fun s => !decide (V.int s = V.int k)).map V.int))) ⟨same_new nD, upd_same⟩ (fun i H' _ p => .of (p.1 _ _ ha)) ?_ ?_
        · rintro i x H' hx ⟨s1, hD⟩
          obtain ⟨z, hz, rfl⟩ := at_int hx
          have ft := filt_take (f := fun s => !decide (V.int s = V.int k)) hz
          refine ⟨rfl, _, rfl, _, rfl, rfl, _, rfl, ite2 (fun y1 => ?_) (fun y1 => ?_)⟩
          · refine ⟨_, rfl, _, hD, ?_, fun c o y => ?_, ?_⟩
            · rw [List.length_map]
              exact small1000 (Nat.le_trans (List.length_filter_le _ _) (by rw [List.length_take]; omega))
            · rw [upd_ne (ne_of_none y nD)]
              exact s1 _ _ y
            · rw [upd_same, ft, if_pos y1, List.map_append]
              rfl
          · refine ⟨s1, ?_⟩
            rw [ft, if_neg y1, List.append_nil]
            exact hD
        rintro H1 ⟨s1, hD⟩
        rw [List.length_map, List.take_length] at hD
        refine ⟨_, rfl, b, rfl, ⟨_, .of (s1 _ _ hb)⟩, fun D2 nD2 => ?_⟩
        refine lc_tup (xs := ds.map V.int) (Pv := fun i H' => Same H1 H' ∧ H' D2 = some (.lst (((ds.take i).filter fun s => !decide (V.int s = V.int (-k))).map V.int))) ⟨same_new nD2, upd_same⟩ (fun i H' _ p => .of (p.1 _ _ (s1 _ _ hb))) ?_ ?_
        · rintro i x H' hx ⟨s2, hD2⟩
          obtain ⟨z, hz, rfl⟩ := at_int hx
          have ft := filt_take (f := fun s => !decide (V.int s = V.int (-k))) hz
          refine ⟨rfl, _, rfl, _, rfl, _, rfl, rfl, _, rfl, ite2 (fun y1 => ?_) (fun y1 => ?_)⟩
          · refine ⟨_, rfl, _, hD2, ?_, fun c o y => ?_, ?_⟩
            · rw [List.length_map]
              exact small1000 (Nat.le_trans (List.length_filter_le _ _) (by rw [List.length_take]; omega))
            · rw [upd_ne (ne_of_none y nD2)]
              exact s2 _ _ y
            · rw [upd_same, ft, if_pos y1, List.map_append]
              rfl
          · refine ⟨s2, ?_⟩
            rw [ft, if_neg y1, List.append_nil]
            exact hD2
        rintro H2 ⟨s2, hD2⟩
        rw [List.length_map, List.take_length] at hD2
        refine ⟨D, D2, _, _, rfl, rfl, s2 _ _ hD, hD2, ?_, fun p H3 np s3 hp _ => ?_⟩
        · rw [List.length_map, List.length_map]
          have h1 := List.length_filter_le (fun s => !decide (V.int s = V.int k)) cs
          have h2 := List.length_filter_le (fun s => !decide (V.int s = V.int (-k))) ds
          exact Nat.le_trans (by omega : _ ≤ 1000) (by decide)
        · rw [← List.map_append] at hp
          exact ⟨p, rfl, (s1.trans s2).trans s3, hp⟩
      rintro σ' H1 ⟨p, rfl, s1, hp⟩
      have k1 : Ke Nof H H1 := .same s1
      refine ⟨_, rfl, p, _, rfl, hp, k1.tabs _ tg, fun H2 k2 => ⟨_, rfl, ?_⟩⟩
      have k12 := k1.trans k2
      cases e2 : oppB (saysB cs ds k) with
      | true => exact q1 H2 k12 (.inr e2)
      | false =>
        have hp2 := k2.lst hp fun z => z
        have ls : (saysB cs ds k).length ≤ 40 := by
          unfold saysB
          rw [List.length_append]
          have h1 := List.length_filter_le (fun s => !decide (V.int s = V.int k)) cs
          have h2 := List.length_filter_le (fun s => !decide (V.int s = V.int (-k))) ds
          omega
        refine ⟨_, rfl, p, _, rfl, .of hp2, by omega, fun r H3 n nr s3 hr' ln => ?_⟩
        refine ⟨r, _, n, rfl, hr', by omega, fun es up me le r2 H4 nr2 s4 h4 _ => ?_⟩
        refine ⟨r2, _, rfl, .of h4, fun r3 H5 nr3 s5 h5 _ => ?_⟩
        exact q2 es r3 H5 (k12.trans (.same ((s3.trans s4).trans s5))) e1 e2 up (fun j => (me j).trans decide_eq_true_iff) h5
end
end Ct
namespace Ct
open PySem PySem.Spec PyProof.Rows L2 GxR Nw Dr Kp Se
structure Zd (mg : Str → Option Value) : Prop where
  z_tuple : mg "tuple" = none
  z_sorted : mg "sorted" = none
  z_set : mg "set" = none
  z_abs : mg "abs" = none
abbrev sSct : Stmt := topS 42
abbrev nSct : List Str := ["one", "other", "k", "says", "say"]
theorem scSct : FnScope nSct ["one", "other", "k"] (defScope sSct) := ⟨rfl, rfl, rfl, by decide +kernel, rfl, by decide +kernel, by decide +kernel⟩
theorem in_ints (k : Int) : ∀ cs : List Int, inV (.int k) (cs.map V.int) = true ↔ k ∈ cs
  | [] => by
    constructor
    · intro h
      cases h
    · intro h
      cases h
  | c :: r => by
    have ih := in_ints k r
    show (eqV (.int c) (.int k) || inV (.int k) (r.map V.int)) = true ↔ _
    rw [Bool.or_eq_true, ih, List.mem_cons]
    have e : eqV (.int c) (.int k) = true ↔ k = c := by
      show (c == k) = true ↔ k = c
      rw [beq_iff_eq]
      exact eq_comm
    rw [e]
/-- what is said besides, told by members -/
def Bes (cs ds : List Int) (k j : Int) : Prop := (j ∈ cs ∨ j ∈ ds) ∧ (j.natAbs : Int) ≠ k
section
variable {P : Program} {w : World} {K : PySem.W.Frag} {mg : Str → Option Value} {base : Heap}
def spSct : Sp := fun vs H Q _ => ∃ (v u : V) (k : Int) (cs ds : List Int), vs = [v, u, .int k] ∧ TupI H v cs ∧ TupI H u ds ∧ cs.length ≤ 20 ∧ ds.length ≤ 20 ∧
  (∀ H', Same H H' → (k < 1 ∨ k ∉ cs ∨ -k ∉ ds ∨ ∃ j, Bes cs ds k j ∧ Bes cs ds k (-j)) → Q .non H') ∧
  ∀ (ns : List Int) (p : Addr) (H' : Hp), Same H H' → 1 ≤ k → k ∈ cs → -k ∈ ds → (∀ j, Bes cs ds k j → ¬ Bes cs ds k (-j)) → ns.Pairwise (· < ·) → (∀ j, j ∈ ns ↔ Bes cs ds k j) → H' p = some (.tup (ns.map V.int)) → Q (.ref p) H'
theorem ok_sct {f : Addr} {fd : FuncData} {k : Nat} (F : Fun K "_law_scut" "_law_scut" sSct f fd) (T : Zd mg) : FnOk P w K mg base CX0 (k + 1) f fd ["one", "other", "k"] spSct := by
  refine F.ok scSct (fun vs H Q E h => ?_) (fun cdv A outer s H vs Q E hr h => ?_)
  · obtain ⟨v, u, k, cs, ds, rfl, _⟩ := h
    rfl
  · obtain ⟨v, u, k, cs, ds, rfl, ⟨a, rfl, ha⟩, ⟨b, rfl, hb⟩, lc, ld, q1, q2⟩ := h
    refine ⟨_, (pss_cons (ps_if (PW.pt (pw_or (pt_cmpR op_lt (pv 2) pe_int (nomark _)) (pw_or (pt_cmpR op_notIn_seq (pv 2) (pv 0) (by rfl)) (pw_or1 (pt_cmpR op_notIn_seq (pe_op op_sub pe_int (pv 2)) (pv 1) (by rfl)))))) (pss_one (ps_ret pe_non)) pss_nil)
      (Evl.pss_cut (ps_set (i := 3) scSct.nd rfl (.inr rfl) (pe_callB (St.cr_sortedS rfl) (by rfl) T.z_sorted (by decide +kernel) (pa_cons (pe_callTy (St2.cr_setT rfl) (by rfl) T.z_set (by decide +kernel) (pa_cons (pe_op op_catTN (pv 0) (pv 1)) pa_nil)) pa_nil)))
      (Evl.pss_cut (ps_set (i := 3) scSct.nd rfl (.inr rfl) (pe_lc (own := [("say", 4)]) (g := (gName 4))  rfl scSct.nd (pi_list (pv 3)) (blkOk_by (N := nSct) (sc := defScope sSct) (by decide +kernel)) (fun _ _ _ _ _ => (pg_name (i := 4) scSct.nd rfl (.inl rfl))) (fun _ _ _ _ _ => (pts_one (pt_cmpR op_ne (pe_callB call_abs (by rfl) T.z_abs (by decide +kernel) (pa_cons (pv 4) pa_nil)) (pv 2) (nomark _)))) (fun _ _ _ _ _ => (pv 4))))
      (pss_cons (ps_if (pt_cmpR (op_neD hr.units) (pe_lc (own := [("say", 4)]) (g := (gName 4))  rfl scSct.nd (pi_list (pv 3)) (blkOk_by (N := nSct) (sc := defScope sSct) (by decide +kernel)) (fun _ _ _ _ _ => (pg_name (i := 4) scSct.nd rfl (.inl rfl))) (fun _ _ _ _ _ => (pts_one (pt_cmpR (op_in_seqB (K := K) rfl) (pe_op op_sub pe_int (pv 4)) (pv 3) (by rfl)))) (fun _ _ _ _ _ => (pv 4))) (pe_lstN pa_nil) (nomark _)) (pss_one (ps_ret pe_non)) pss_nil)
      (pss_one (ps_ret (pe_callTy call_tuple_ofN (by rfl) T.z_tuple (by decide +kernel) (pa_cons (pv 3) pa_nil)))))))), ?_⟩
    refine ⟨_, rfl, _, _, rfl, rfl, _, rfl, ite2 (fun y1 => ?_) (fun y1 => ?_)⟩
    · exact q1 H (Same.refl H) (.inl (of_decide_eq_true y1))
    have k1 : 1 ≤ k := by
      have := of_decide_eq_false (Bool.eq_false_iff.mpr y1)
      omega
    refine ⟨_, rfl, _, rfl, a, _, rfl, .inr (.of ha), rfl, ints_flat cs, _, rfl, ite2 (fun y2 => ?_) (fun y2 => ?_)⟩
    · refine q1 H (Same.refl H) (.inr (.inl fun z => ?_))
      have y2 : (!inV (.int k) (cs.map V.int)) = true := y2
      rw [(in_ints k cs).mpr z] at y2
      cases y2
    have kc : k ∈ cs := (in_ints k cs).mp (by
      have y2 : ¬ (!inV (.int k) (cs.map V.int)) = true := y2
      cases e : inV (.int k) (cs.map V.int) with
      | true => rfl
      | false => exact absurd (by rw [e]; rfl) y2)
    refine ⟨_, rfl, _, _, rfl, rfl, _, rfl, b, _, rfl, .inr (.of hb), rfl, ints_flat ds, _, rfl, ite2 (fun y3 => ?_) (fun y3 => ?_)⟩
    · refine q1 H (Same.refl H) (.inr (.inr (.inl fun z => ?_)))
      have y3 : (!inV (.int (0 - k)) (ds.map V.int)) = true := y3
      rw [(in_ints (0 - k) ds).mpr (by rw [show 0 - k = -k by omega]; exact z)] at y3
      cases y3
    have kd : -k ∈ ds := by
      have y3 : ¬ (!inV (.int (0 - k)) (ds.map V.int)) = true := y3
      have e : inV (.int (0 - k)) (ds.map V.int) = true := by
        cases e : inV (.int (0 - k)) (ds.map V.int) with
        | true => rfl
        | false => exact absurd (by rw [e]; rfl) y3
      have := (in_ints (0 - k) ds).mp e
      rw [show 0 - k = -k by omega] at this
      exact this
    clear y1 y2 y3
    refine Evl.q_cut (M := fun σ' H' => ∃ (p : Addr) (es : List Int), σ' = [some (.ref a), some (.ref b), some (.int k), some (.ref p), none] ∧ Same H H' ∧ H' p = some (.lst (es.map V.int)) ∧ es.Pairwise (· < ·) ∧ (∀ j, j ∈ es ↔ (j ∈ cs ∨ j ∈ ds)) ∧ es.length ≤ 40) ?_ ?_
    · refine ⟨_, rfl, _, rfl, a, b, _, _, rfl, rfl, ha, hb, ?_, fun q1 H1 u1 h1 => ?_⟩
      · rw [List.length_map, List.length_map]
        exact Nat.le_trans (by omega : _ ≤ 1000) (by decide)
      rw [← List.map_append] at h1
      refine ⟨q1, _, rfl, .of h1, by rw [List.length_append]; omega, fun r H2 n nr s2 hr' ln => ?_⟩
      rw [List.length_append] at ln
      refine ⟨r, _, n, rfl, hr', by omega, fun es up me le p H3 np s3 hp _ => ?_⟩
      exact ⟨p, es, rfl, (u1.trans s2).trans s3, hp, up, fun j => ((me j).trans decide_eq_true_iff).trans List.mem_append, by omega⟩
    rintro σ' H1 ⟨p, es, rfl, s1, hp, up, me, le⟩
    refine Evl.q_cut (M := fun σ' H' => ∃ p : Addr, σ' = [some (.ref a), some (.ref b), some (.int k), some (.ref p), none] ∧ Same H H' ∧ H' p = some (.lst ((es.filter fun s => !decide (V.int (s.natAbs : Int) = V.int k)).map V.int))) ?_ ?_
    · refine ⟨_, rfl, p, rfl, ⟨_, .of hp⟩, fun D nD => ?_⟩
      refine lc_list (xs := es.map V.int) (Pv := fun i H' => Same H1 H' ∧ H' D = some (.lst (((es.take i).filter fun s => !decide (V.int (s.natAbs : Int) = V.int k)).map V.int))) ⟨same_new nD, upd_same⟩ (fun i H' _ z => .of (z.1 _ _ hp)) ?_ ?_
      · rintro i x H2 hx ⟨s2, hD⟩
        obtain ⟨z, hz, rfl⟩ := at_int hx
        have ft := filt_take (f := fun s : Int => !decide (V.int (s.natAbs : Int) = V.int k)) hz
        have e : (if z < 0 then -z else z) = (z.natAbs : Int) := by
          split <;> omega
        refine ⟨rfl, _, rfl, z, rfl, _, rfl, rfl, _, rfl, ?_⟩
        rw [e]
        refine ite2 (fun y1 => ?_) (fun y1 => ?_)
        · refine ⟨_, rfl, _, hD, ?_, fun c o y => ?_, ?_⟩
          · rw [List.length_map]
            exact small1000 (Nat.le_trans (List.length_filter_le _ _) (by rw [List.length_take]; omega))
          · rw [upd_ne (ne_of_none y nD)]
            exact s2 _ _ y
          · rw [upd_same, ft, if_pos y1, List.map_append]
            rfl
        · refine ⟨s2, ?_⟩
          rw [ft, if_neg y1, List.append_nil]
          exact hD
      · rintro H2 ⟨s2, hD⟩
        rw [List.length_map, List.take_length] at hD
        exact ⟨D, rfl, s1.trans s2, hD⟩
    clear hp
    rintro σ' H2 ⟨p, rfl, s2, hp⟩
    have mf : ∀ j, j ∈ (es.filter fun s => !decide (V.int (s.natAbs : Int) = V.int k)) ↔ Bes cs ds k j := fun j => by
      rw [List.mem_filter, me]
      unfold Bes
      have e : ((!decide (V.int (j.natAbs : Int) = V.int k)) = true) ↔ (j.natAbs : Int) ≠ k := by
        rw [Bool.not_eq_true', decide_eq_false_iff_not]
        exact ⟨fun z y => z (by rw [y]), fun z y => z (V.int.inj y)⟩
      rw [e]
    have uf : (es.filter fun s => !decide (V.int (s.natAbs : Int) = V.int k)).Pairwise (· < ·) := up.filter _
    have lf : (es.filter fun s => !decide (V.int (s.natAbs : Int) = V.int k)).length ≤ 40 := Nat.le_trans (List.length_filter_le _ _) le
    generalize (es.filter fun s => !decide (V.int (s.natAbs : Int) = V.int k)) = fs at hp mf uf lf
    refine ⟨_, rfl, p, rfl, ⟨_, .of hp⟩, fun D nD => ?_⟩
    refine lc_list (xs := fs.map V.int) (Pv := fun i H' => Same H2 H' ∧ H' D = some (.lst (((fs.take i).filter fun s => inV (.int (0 - s)) (fs.map V.int)).map V.int))) ⟨same_new nD, upd_same⟩ (fun i H' _ z => .of (z.1 _ _ hp)) ?_ ?_
    · rintro i x H3 hx ⟨s3, hD⟩
      obtain ⟨z, hz, rfl⟩ := at_int hx
      have ft := filt_take (f := fun s : Int => inV (.int (0 - s)) (fs.map V.int)) hz
      refine ⟨rfl, _, rfl, _, _, rfl, rfl, _, rfl, p, _, rfl, .inl (.of (s3 _ _ hp)), rfl, ints_flat fs, _, rfl, ite2 (fun y1 => ?_) (fun y1 => ?_)⟩
      · have y1 : inV (.int (0 - z)) (fs.map V.int) = true := y1
        refine ⟨_, rfl, _, hD, ?_, fun c o y => ?_, ?_⟩
        · rw [List.length_map]
          exact small1000 (Nat.le_trans (List.length_filter_le _ _) (by rw [List.length_take]; omega))
        · rw [upd_ne (ne_of_none y nD)]
          exact s3 _ _ y
        · rw [upd_same, ft, if_pos y1, List.map_append]
          rfl
      · have y1 : ¬ inV (.int (0 - z)) (fs.map V.int) = true := y1
        refine ⟨s3, ?_⟩
        rw [ft, if_neg y1, List.append_nil]
        exact hD
    rintro H3 ⟨s3, hD⟩
    rw [List.length_map, List.take_length] at hD
    refine ⟨Nat.zero_le _, fun r H4 nr s4 hr4 _ => ?_⟩
    have s24 := s2.trans (s3.trans s4)
    cases hg : (fs.filter fun s => inV (.int (0 - s)) (fs.map V.int)) with
    | nil =>
      rw [hg] at hD
      refine ⟨_, _, .lst (.of (s4 _ _ hD)) .nil, .lst (.of hr4) .nil, rfl, rfl, false, rfl, ?_⟩
      have hp4 := s4 _ _ (s3 _ _ hp)
      refine ⟨_, rfl, p, _, rfl, .of hp4, fun r5 H5 n5 s5 h5 _ => ?_⟩
      refine q2 fs r5 H5 (s24.trans s5) k1 kc kd (fun j hj hn => ?_) uf mf h5
      have z : j ∈ (fs.filter fun s => inV (.int (0 - s)) (fs.map V.int)) := List.mem_filter.mpr ⟨(mf j).mpr hj, (in_ints _ _).mpr (by rw [show 0 - j = -j by omega]; exact (mf _).mpr hn)⟩
      rw [hg] at z
      cases z
    | cons j r' =>
      have z : j ∈ (fs.filter fun s => inV (.int (0 - s)) (fs.map V.int)) := by rw [hg]; exact List.mem_cons_self
      obtain ⟨z1, z2⟩ := List.mem_filter.mp z
      have z3 := (in_ints _ _).mp z2
      rw [show 0 - j = -j by omega] at z3
      rw [hg] at hD
      refine ⟨_, _, .lst (.of (s4 _ _ hD)) (dp_ints (j :: r')), .lst (.of hr4) .nil, shaped_list (flat_ints _), rfl, true, rfl, ?_⟩
      exact q1 H4 s24 (.inr (.inr (.inr ⟨j, (mf j).mp z1, (mf (-j)).mp z3⟩)))
end
end Ct
namespace Ct
open PySem PySem.Spec PyProof.Rows L2 GxR Nw Dr Kp Se
/-! ### what the program cuts and what is cut here agree -/
theorem up_unique : ∀ {xs ys : List Int}, xs.Pairwise (· < ·) → ys.Pairwise (· < ·) → (∀ j, j ∈ xs ↔ j ∈ ys) → xs = ys
  | [], [], _, _, _ => rfl
  | [], y :: r, _, _, h => absurd ((h y).mpr List.mem_cons_self) (by simp)
  | x :: r, [], _, _, h => absurd ((h x).mp List.mem_cons_self) (by simp)
  | x :: r, y :: t, hx, hy, h => by
    obtain ⟨x1, x2⟩ := List.pairwise_cons.mp hx
    obtain ⟨y1, y2⟩ := List.pairwise_cons.mp hy
    have e : x = y := by
      rcases List.mem_cons.mp ((h x).mp List.mem_cons_self) with e | m
      · exact e
      · rcases List.mem_cons.mp ((h y).mpr List.mem_cons_self) with e | m2
        · exact e.symm
        · have := y1 x m
          have := x1 y m2
          omega
    subst e
    rw [up_unique x2 y2 fun j => ⟨fun hj => ?_, fun hj => ?_⟩]
    · rcases List.mem_cons.mp ((h j).mp (List.mem_cons_of_mem _ hj)) with e | m
      · have := x1 j hj
        omega
      · exact m
    · rcases List.mem_cons.mp ((h j).mpr (List.mem_cons_of_mem _ hj)) with e | m
      · have := y1 j hj
        omega
      · exact m
variable {cs ds : List Int} {k : Int}
theorem meet_iff (hc : IsCl cs) : meetB cs ds k = true ↔ 1 ≤ k ∧ k ∈ cs ∧ -k ∈ ds := by
  unfold meetB
  rw [Bool.and_eq_true, Bool.and_eq_true, Bool.and_eq_true, decide_eq_true_iff, decide_eq_true_iff, in_ints, in_ints]
  constructor
  · rintro ⟨⟨⟨h1, _⟩, h2⟩, h3⟩
    exact ⟨h1, h2, h3⟩
  · rintro ⟨h1, h2, h3⟩
    exact ⟨⟨⟨h1, (hc.says k h2).2.2⟩, h2⟩, h3⟩
theorem not_int {a b : Int} : (!decide (V.int a = V.int b)) = true ↔ a ≠ b := by
  rw [Bool.not_eq_true', decide_eq_false_iff_not]
  exact ⟨fun z y => z (by rw [y]), fun z y => z (V.int.inj y)⟩
theorem says_iff (hc : IsCl cs) (hd : IsCl ds) (kc : k ∈ cs) (kd : -k ∈ ds) (k1 : 1 ≤ k) (j : Int) : j ∈ saysB cs ds k ↔ Bes cs ds k j := by
  unfold saysB Bes
  rw [List.mem_append, List.mem_filter, List.mem_filter, not_int, not_int]
  constructor
  · rintro (⟨h1, h2⟩ | ⟨h1, h2⟩)
    · refine ⟨.inl h1, fun z => ?_⟩
      have e : j = -k := by omega
      rw [e] at h1
      exact hc.opp k kc h1
    · refine ⟨.inr h1, fun z => ?_⟩
      have e : j = k := by omega
      rw [e] at h1
      exact hd.opp k h1 kd
  · rintro ⟨h1 | h1, h2⟩
    · exact .inl ⟨h1, by omega⟩
    · exact .inr ⟨h1, by omega⟩
theorem opp_iff (ns : List Int) (nz : ∀ j ∈ ns, j ≠ 0) : oppB ns = true ↔ ∃ j, j ∈ ns ∧ -j ∈ ns := by
  unfold oppB
  rw [List.any_eq_true]
  constructor
  · rintro ⟨j, hj, h⟩
    rw [Bool.and_eq_true, in_ints] at h
    exact ⟨j, hj, h.2⟩
  · rintro ⟨j, h1, h2⟩
    have := nz j h1
    by_cases p : 0 < j
    · exact ⟨j, h1, by rw [Bool.and_eq_true, in_ints, decide_eq_true_iff]; exact ⟨p, h2⟩⟩
    · exact ⟨-j, h2, by rw [Bool.and_eq_true, in_ints, decide_eq_true_iff, Int.neg_neg]; exact ⟨by omega, h1⟩⟩
/-- the cut of two claims: what comes, if anything -/
def Comes (cs ds : List Int) (k : Int) (ns : List Int) : Prop := 1 ≤ k ∧ k ∈ cs ∧ -k ∈ ds ∧ (∀ j, Bes cs ds k j → ¬ Bes cs ds k (-j)) ∧ ns.Pairwise (· < ·) ∧ ∀ j, j ∈ ns ↔ Bes cs ds k j
def NoCome (cs ds : List Int) (k : Int) : Prop := k < 1 ∨ k ∉ cs ∨ -k ∉ ds ∨ ∃ j, Bes cs ds k j ∧ Bes cs ds k (-j)
theorem Comes.one {ns ms : List Int} (a : Comes cs ds k ns) (b : Comes cs ds k ms) : ns = ms := up_unique a.2.2.2.2.1 b.2.2.2.2.1 fun j => (a.2.2.2.2.2 j).trans (b.2.2.2.2.2 j).symm
theorem Comes.no {ns : List Int} (a : Comes cs ds k ns) (b : NoCome cs ds k) : False := by
  obtain ⟨a1, a2, a3, a4, _⟩ := a
  rcases b with b | b | b | ⟨j, b1, b2⟩
  · omega
  · exact b a2
  · exact b a3
  · exact a4 j b1 b2
theorem comes_of (hc : IsCl cs) (hd : IsCl ds) {ns : List Int} (m : meetB cs ds k = true) (o : oppB (saysB cs ds k) = false) (up : ns.Pairwise (· < ·)) (me : ∀ j, j ∈ ns ↔ j ∈ saysB cs ds k) : Comes cs ds k ns := by
  obtain ⟨k1, kc, kd⟩ := (meet_iff hc).mp m
  have sb := says_iff hc hd kc kd k1
  refine ⟨k1, kc, kd, fun j h1 h2 => ?_, up, fun j => (me j).trans (sb j)⟩
  have nz : ∀ j ∈ saysB cs ds k, j ≠ 0 := fun j hj => by
    rcases ((sb j).mp hj).1 with h | h
    · exact (hc.says j h).1
    · exact (hd.says j h).1
  have := (opp_iff _ nz).mpr ⟨j, (sb j).mpr h1, (sb _).mpr h2⟩
  rw [o] at this
  cases this
theorem nocome_of (hc : IsCl cs) (hd : IsCl ds) (h : meetB cs ds k = false ∨ oppB (saysB cs ds k) = true) : NoCome cs ds k := by
  by_cases k1 : 1 ≤ k
  · by_cases kc : k ∈ cs
    · by_cases kd : -k ∈ ds
      · have m := (meet_iff (ds := ds) hc).mpr ⟨k1, kc, kd⟩
        rcases h with h | h
        · rw [m] at h
          cases h
        · have sb := says_iff hc hd kc kd k1
          have nz : ∀ j ∈ saysB cs ds k, j ≠ 0 := fun j hj => by
            rcases ((sb j).mp hj).1 with h | h
            · exact (hc.says j h).1
            · exact (hd.says j h).1
          obtain ⟨j, h1, h2⟩ := (opp_iff _ nz).mp h
          exact .inr (.inr (.inr ⟨j, (sb j).mp h1, (sb _).mp h2⟩))
      · exact .inr (.inr (.inl kd))
    · exact .inr (.inl kc)
  · exact .inl (by omega)
end Ct
namespace Gx2
open PySem PySem.Spec PyProof.Rows L2
/-! ### promises for calls made while nothing is being shown, with refusals: for defs that show lists or tuples and are called by others -/
structure FnX (P : Program) (w : World) (K : PySem.W.Frag) (mg : Str → Option Value) (base : Heap) (CX : CXT) (k : Nat) (f : Addr) (fd : FuncData) (ps : List Str) (sp : Sp) : Prop where
  len : ∀ us H Q E, sp us H Q E → us.length = ps.length
  run : ∀ (A : Around) (outer : List Env) (s : Shared) (H : Hp) (args : Args) (us : List Value) (vs : List V) (Q : VK) (E : XK), A.guards = some [] → Room k A → Env0 P w K mg base A outer s H → BindsTo s fd args (ps.zip us) → Vals vs us → sp vs H Q E → codeAny (model P w) A (.call (.ref f) args) (CR CX outer P w H s Q E) s
section
variable {P : Program} {w : World} {K : PySem.W.Frag} {mg : Str → Option Value} {base : Heap} {CX : CXT}
theorem of_ok {k : Nat} {f : Addr} {fd : FuncData} {ps : List Str} {sp : Sp} (F : FnOk P w K mg base CX k f fd ps sp) : FnX P w K mg base CX k f fd ps sp := ⟨F.len, fun A outer s H args us vs Q E _ => F.run A outer s H args us vs Q E⟩
theorem okX {x qual : Str} {st : Stmt} {f : Addr} {fd : FuncData} {N ps : List Str} {k : Nat} {sp : Sp} (F : Fun K x qual st f fd) (S : FnScope N ps (defScope st)) (ln : ∀ us H Q E, sp us H Q E → us.length = ps.length)
    (body : ∀ (cdv : Value) (A : Around) (outer : List Env) (s : Shared) (H : Hp) (vs : List V) (Q : VK) (E : XK), A.guards = some [] → Room k (A.deeper (envOfC qual (defScope st) s.heap.objs.size f cdv)) → sp vs H Q E →
      ∃ t, PSs (cxOf CX P w K mg base N qual (defScope st) f cdv A outer s H E) (defBody st) t ∧ t { nx := fun _ H' => Q .non H', rt := Q } (start N vs) H) : FnX P w K mg base CX (k + 1) f fd ps sp := by
  obtain ⟨oc, od, kV, doc, pm, an, cdv, ct, osl, rfl, lk, hcd⟩ := F.ex
  refine ⟨ln, fun A outer s H args us vs Q E gd room env bind rel ask => ?_⟩
  have inS : K.In s.heap := env.mod.kin.keeps fun b o e => (env.bs b o e).1
  have noL : s.heap.NoLimit := env.mod.nolimit.keeps fun b o e => (env.bs b o e).1
  refine codeAny_call_function room.depth (inS _ _ lk) rfl S.co S.gen rfl (PySem.W.codeRec_of inS hcd) (bind _ _ _ _ (wpAny_newFunctionEnv_cells S.kind (fun y hy => ?_) fun env' he s1 z => ?_))
  · rcases S.par y.1 (List.of_mem_zip (a := y.1) (b := y.2) hy).1 with q | q
    · exact Or.inl q
    · exact Or.inr ⟨q, PySem.W.cellsFrom_some _ _ _ (Or.inl q)⟩
  · subst he
    obtain ⟨t, h1, h2⟩ := body cdv A outer s H vs Q E gd (room.deeper _) ask
    have J := inv_start (CX := CX) (E := E) S room.hd env (ln _ _ _ _ ask) rel z
    refine ⟨noL.keeps z.toInCall.keep, codeAny_func (wpAny_mono (h1.run [] s1 _ H _ J h2) (fun fl s' r => ?_) fun _ _ r => r)⟩
    match fl, r with
    | .ret u, r =>
      obtain ⟨v, σ', H', I, rv, q⟩ := r
      exact ⟨v, H', I.os, I.bare, I.base, I.hok, rv, q⟩
    | .next, r =>
      obtain ⟨σ', H', I, q⟩ := r
      exact ⟨.non, H', I.os, I.bare, I.base, I.hok, rfl, q⟩
    | .brk, r =>
      obtain ⟨_, _, _, q⟩ := r
      exact q.elim
    | .cont, r =>
      obtain ⟨_, _, _, q⟩ := r
      exact q.elim
end
section
variable {X : Cx} {CX : CXT} {k : Nat} {f : Addr} {fd : FuncData} {ps : List Str} {sp : Sp} {dvs : List V} {ds : List Value} {E : XK}
theorem runX {pins : List (Addr × Obj)} {σ : L2.St} {H : Hp} {s : Shared} {Q : VK} {us : List Value} {vs : List V} (F : FnX X.prog X.w X.K X.mg X.base CX k f fd ps sp) (gd : X.A.guards = some []) (room : Room k X.A) (bind : Binds X.K fd ps ds) (dv : Vals dvs ds) (pass : Passes CX X E)
    (I : Inv X pins σ H s) (rel : Vals vs us) (ask : sp (vs ++ dvs) H Q E) : wpAny (model X.prog X.w) X.A (call (.ref f) us) (EP X pins σ Q) X.xe s := by
  have r2 : Vals (vs ++ dvs) (us ++ ds) := rel.append dv
  have ll : (us ++ ds).length = ps.length := r2.length.symm.trans (F.len _ _ _ _ ask)
  refine wpAny_call (codeAny_mono (F.run X.A X.stack s H ⟨us, []⟩ _ _ Q E gd room I.env0 (bind s us I.kIn ll) r2 ask) fun r s' z => ?_)
  match r, z with
  | .error e, z => exact pass pins σ H s e s' I z
  | .ok (.ret u), z => exact I.after z
  | .ok .next, z => exact z.elim
  | .ok .brk, z => exact z.elim
  | .ok .cont, z => exact z.elim
/-- f(..) where nothing is being shown -/
theorem pe_callX {x : Str} {p pos : Pos} {e : Expr} {es : List Expr} {t : TA} (F : FnX X.prog X.w X.K X.mg X.base CX k f fd ps sp) (gd : X.A.guards = some []) (room : Room k X.A) (gl : Gl X x) (at_ : X.mg x = some (.ref f)) (kp : PySem.W.keepIn X.K (.ref f) = true) (bind : Binds X.K fd ps ds) (dv : Vals dvs ds) (pass : Passes CX X E)
    (ha : PA X (e :: es) t) (hdb : (x == ("__debug__" : Str)) = false := by decide) (he : starEach (e :: es) X.env = (false, eval e X.env) :: starEach es X.env := by rfl) (hpl : (backTo pos (starEach es X.env)).any (·.1) = false := by rfl) :
    PE X (.Call (.Name x p) (e :: es) [] pos) (tCall sp dvs E t) :=
  ⟨fun pins s σ H Q I h => wpAny_Call_Name_kw (ld_glob I gl at_ (PySem.W.callWith_K (h₀ := X.base) I.ok.mod.kin kp (thn (ha.run pos pins s σ H _ I h) fun us s1 ⟨vs, H1, I1, r, q⟩ => ⟨I1.kIn, runX F gd room bind dv pass I1 r q⟩) he hpl) hdb)⟩
end
end Gx2
namespace Rp
open PySem PySem.Spec PyProof.Rows L2
/-- repr of a list or a tuple, where nothing is being shown -/
theorem cr_repr {X : Cx} (hg : X.A.guards = some []) (hu : X.A.units + 70 < cLine) : CallR X (.builtin "repr") (fun xs H Q => ∃ (a : Addr) (d : PyData), xs = [V.ref a] ∧ Dp X.K H (.ref a) d ∧ d.showable = true ∧ d.hasDict = false ∧ d.depth ≤ 64 ∧ d.shown.length ≤ sizeLine ∧ Q (.str d.shown) H) := by
  intro pins s σ H xs us Q I r h
  obtain ⟨a, d, rfl, hd, hs, hn, dp, sz, q⟩ := h
  obtain ⟨u, rfl, hu'⟩ := vals1 r
  obtain rfl : u = .ref a := hu'
  obtain ⟨as, r1⟩ := Dp.reads I d (.ref a) (.ref a) hd rfl
  exact repr_of_reads' r1 hs (PyData.noDict_hsm hn) hg (by omega) (fun _ _ e => e) (fun h' u tk k => ⟨.str _, H, I.turnedL (ch := []) (fun b o _ e => k b o e) (fun b hb => absurd hb (by simp)), ⟨_, rfl⟩, q⟩) sz
end Rp
namespace Rp
open PySem PySem.Spec PyProof.Rows L2
/-- {x} of a list or a tuple in an f-string, where nothing is being shown -/
def tShow (K : PySem.W.Frag) (te : TE) : TE := fun σ H Q => te σ H fun x H1 => ∃ (a : Addr) (d : PyData), x = .ref a ∧ Dp K H1 (.ref a) d ∧ d.showable = true ∧ d.hasDict = false ∧ d.depth ≤ 64 ∧ d.shown.length ≤ sizeLine ∧ Q (.str d.shown) H1
theorem pe_show {X : Cx} {e : Expr} {te : TE} {pos : Pos} (gd : X.A.guards = some []) (un : X.A.units + 70 < cLine) (he : PE X e te) : PE X (.FormattedValue e (-1) none pos) (tShow X.K te) := by
  refine ⟨fun pins s σ H Q I h => wpAny_FormattedValue_plain (thn (he.run pins s σ H _ I h) fun v s1 ⟨x, H1, I1, r1, a, d, ex, hd, hs, hn, dp, sz, q⟩ => ?_)⟩
  subst ex
  obtain rfl : v = .ref a := r1
  obtain ⟨as, r2⟩ := Dp.reads I1 d (.ref a) (.ref a) hd rfl
  exact formatField_of_reads r2 hs (PyData.noDict_hsm hn) gd (by omega) (fun _ _ z => z) (fun h' u tk k => ⟨.str _, H1, I1.turnedL (ch := []) (fun b o _ z => k b o z) (fun b hb => absurd hb (by simp)), ⟨_, rfl⟩, q⟩) sz
end Rp
namespace Ct
open PySem PySem.Spec PyProof.Rows L2 GxR Nw Dr Kp Se
abbrev veB : List Value := [.type "ValueError", .type "Exception", .type "BaseException", .type "object"]
abbrev sCut : Stmt := topS 14
abbrev nCut : List Str := ["one", "other", "k", "claim"]
theorem scCut : FnScope nCut ["one", "other", "k"] (defScope sCut) := ⟨rfl, rfl, rfl, by decide +kernel, rfl, by decide +kernel, by decide +kernel⟩
/-- what is known of the class NoCut -/
structure CN (K : PySem.W.Frag) (mg : Str → Option Value) (C : Addr) : Prop where
  xP : PySem.W.excIn K C veB "ValueError.__new__" = true
  gP : mg "NoCut" = some (.ref C)
  kP : PySem.W.keepIn K (.ref C) = true
  bP : PySem.W.subIn K (.ref C) (.type "BaseException") = some true
  tP : PySem.W.typeIn K (.ref C) = some (.type "type")
theorem say_shown : ∀ n : Fin 17, PyData.showable (.int ((n.val : Int) - 8)) = true ∧ (PyData.shown (.int ((n.val : Int) - 8))).length ≤ 3 := by decide +kernel
theorem say_at {n : Int} (h0 : -8 ≤ n) (h1 : n ≤ 8) : PyData.showable (.int n) = true ∧ (PyData.shown (.int n)).length ≤ 3 := by
  have := say_shown ⟨(n + 8).toNat, by omega⟩
  rw [show (((n + 8).toNat : Nat) : Int) - 8 = n by omega] at this
  exact this
theorem says_show : ∀ ns : List Int, (∀ n ∈ ns, -8 ≤ n ∧ n ≤ 8) → PyData.showableAll (ns.map PyData.int) = true
  | [], _ => rfl
  | n :: r, h => by
    show (PyData.showable (.int n) && PyData.showableAll (r.map PyData.int)) = true
    rw [says_show r fun m hm => h m (List.mem_cons_of_mem _ hm), (say_at (h n List.mem_cons_self).1 (h n List.mem_cons_self).2).1]
    rfl
theorem says_nodict : ∀ ns : List Int, PyData.hasDictAll (ns.map PyData.int) = false
  | [] => rfl
  | _ :: r => says_nodict r
theorem says_map : ∀ ns : List Int, PyData.shownAll (ns.map PyData.int) = ns.map fun n => PyData.shown (.int n)
  | [] => rfl
  | n :: r => congrArg (PyData.shown (.int n) :: ·) (says_map r)
theorem sum_at {B : Nat} : ∀ {l : List Nat}, (∀ x ∈ l, x ≤ B) → l.sum ≤ B * l.length
  | [], _ => Nat.zero_le _
  | x :: r, h => by
    have h1 := h x List.mem_cons_self
    have h2 := sum_at (l := r) fun y hy => h y (List.mem_cons_of_mem _ hy)
    rw [List.sum_cons, List.length_cons, Nat.mul_add]
    omega
theorem says_len {ns : List Int} (h : ∀ n ∈ ns, -8 ≤ n ∧ n ≤ 8) (l : ns.length ≤ 20) : (PyData.shown (.tuple (ns.map PyData.int))).length ≤ 200 := by
  have e := tupleText_len_le (PyData.shownAll (ns.map PyData.int))
  have s1 : ((PyData.shownAll (ns.map PyData.int)).map (·.length)).sum ≤ 3 * ((PyData.shownAll (ns.map PyData.int)).map (·.length)).length := sum_at fun x hx => by
    rw [says_map] at hx
    obtain ⟨y, hy, rfl⟩ := List.mem_map.mp hx
    obtain ⟨n, hn, rfl⟩ := List.mem_map.mp hy
    exact (say_at (h n hn).1 (h n hn).2).2
  have l2 : (PyData.shownAll (ns.map PyData.int)).length = ns.length := by rw [says_map, List.length_map]
  rw [List.length_map] at s1
  rw [l2] at s1 e
  show (tupleText (PyData.shownAll (ns.map PyData.int))).length ≤ 200
  omega
theorem says_deep (ns : List Int) : PyData.depth (.tuple (ns.map PyData.int)) ≤ 64 := by
  have := flat_depth _ (flat_ints ns)
  show PyData.depthAll (ns.map PyData.int) + 1 ≤ 64
  omega
section
variable {P : Program} {w : World} {K : PySem.W.Frag} {mg : Str → Option Value} {base : Heap}
def spCut (C Po : Addr) : Sp := fun vs H Q E => ∃ (v u : V) (k : Int) (cs ds : List Int), vs = [v, u, .int k] ∧ TupI H v cs ∧ TupI H u ds ∧ IsCl cs ∧ IsCl ds ∧ k.natAbs.log2 < 1920 ∧ (toString k : Str).length ≤ 1000 ∧ TabG H Po ∧
  (∀ H', Ke Nof H H' → NoCome cs ds k → E (.ref C) none H') ∧ ∀ (ns : List Int) (p : Addr) (H' : Hp), Ke Nof H H' → Comes cs ds k ns → H' p = some (.tup (ns.map V.int)) → Q (.ref p) H'
theorem ok_cut {f fN C Po : Addr} {fd fdN : FuncData} (F : Fun K "cut" "cut" sCut f fd) (C' : CN K mg C) (FN : Fun K "cut_or_none" "cut_or_none" sCon fN fdN) (bN : Binds K fdN ["one", "other", "k"] []) (gN : mg "cut_or_none" = some (.ref fN)) (GN : FnOk P w K mg base CX0 4 fN fdN ["one", "other", "k"] (spCon Po)) :
    Gx2.FnX P w K mg base (L2.CX P w) 5 f fd ["one", "other", "k"] (spCut C Po) := by
  refine Gx2.okX F scCut (fun vs H Q E h => ?_) (fun cdv A outer s H vs Q E gd0 hr h => ?_)
  · obtain ⟨v, u, k, cs, ds, rfl, _⟩ := h
    rfl
  · obtain ⟨v, u, k, cs, ds, rfl, tv, tu, hc, hd, kl, kz, tg, q1, q2⟩ := h
    have hr4 : Room 4 _ := hr
    have C := C'
    have gd : (A.deeper (envOfC "cut" (defScope sCut) s.heap.objs.size f cdv)).guards = some [] := gd0
    have hu : (A.deeper (envOfC "cut" (defScope sCut) s.heap.objs.size f cdv)).units + 70 < cLine := by
      have := hr.un
      omega
    refine ⟨_, (pss_cons (ps_set (i := 3) scCut.nd rfl (.inl rfl) (pe_call GN hr4 (by rfl) gN FN.kp bN .nil pass0 (pa_cons (pv 0) (pa_cons (pv 1) (pa_cons (pv 2) pa_nil)))))
      (pss_cons (ps_if (pt_cmpR op_isN (pv 3) pe_non (nomark _)) (pss_one (ps_raise rfl (takes_of rfl rfl rfl rfl) (SkE.pmk_own1 PySem.F.excBase_ValueError C'.xP C'.gP C'.kP (raises_own C'.bP C'.tP) rfl (pe_joined (PJ.cons (Rp.pe_show gd hu (pv 0)) (PJ.cons pe_str (PJ.cons (Rp.pe_show gd hu (pv 1)) (PJ.cons pe_str (PJ.cons (pe_fmt (pv 2)) .nil))))))))) pss_nil)
      (pss_one (ps_ret (pv 3))))), ?_⟩
    obtain ⟨a, rfl, ha⟩ := id tv
    obtain ⟨b, rfl, hb⟩ := id tu
    have lc := hc.len
    have ld := hd.len
    refine ⟨_, rfl, _, rfl, _, rfl, .ref a, .ref b, k, cs, ds, rfl, tv, tu, by omega, by omega, tg, fun H1 k1 no => ?_, fun ns p H1 k1 m o up me hp => ?_⟩
    · refine ⟨_, rfl, rfl, true, rfl, ?_⟩
      have sc := says_len (fun n hn => ⟨(hc.says n hn).2.1, (hc.says n hn).2.2⟩) (by omega : cs.length ≤ 20)
      have sd := says_len (fun n hn => ⟨(hd.says n hn).2.1, (hd.says n hn).2.2⟩) (by omega : ds.length ≤ 20)
      have big : ∀ {x : Str}, x.length ≤ 3000 → x.length ≤ sizeLine := fun h => Nat.le_trans h (by decide)
      have la : ∀ (x y : Str), (x ++ y).length = x.length + y.length := strLen_append
      have ha1 := k1.tups _ _ ha
      have hb1 := k1.tups _ _ hb
      refine ⟨_, rfl, a, .tuple (cs.map PyData.int), rfl, .tup (.of ha1) (dp_ints cs), says_show cs fun n hn => ⟨(hc.says n hn).2.1, (hc.says n hn).2.2⟩, says_nodict cs, says_deep cs, big (by omega), _, rfl, ?_, ?_⟩
      · rw [la]
        exact Nat.le_trans (by show 0 + _ ≤ 3000; omega) (by decide)
      refine ⟨_, rfl, ?_, ?_⟩
      · rw [la, la]
        exact Nat.le_trans (by show 0 + _ + 5 ≤ 3000; omega) (by decide)
      refine ⟨_, rfl, b, .tuple (ds.map PyData.int), rfl, .tup (.of hb1) (dp_ints ds), says_show ds fun n hn => ⟨(hd.says n hn).2.1, (hd.says n hn).2.2⟩, says_nodict ds, says_deep ds, big (by omega), _, rfl, ?_, ?_⟩
      · rw [la, la, la]
        exact Nat.le_trans (by show 0 + _ + 5 + _ ≤ 3000; omega) (by decide)
      refine ⟨_, rfl, ?_, ?_⟩
      · rw [la, la, la, la]
        exact Nat.le_trans (by show 0 + _ + 5 + _ + 17 ≤ 3000; omega) (by decide)
      refine ⟨_, rfl, .inr ⟨k, rfl, kl, _, rfl, ?_, ?_⟩⟩
      · rw [la, la, la, la, la]
        exact Nat.le_trans (by show 0 + _ + 5 + _ + 17 + _ ≤ 3000; omega) (by decide)
      exact q1 H1 k1 (nocome_of hc hd no)
    · refine ⟨_, rfl, rfl, false, rfl, _, rfl, ?_⟩
      exact q2 ns p H1 k1 (comes_of hc hd m o up me) hp
end
end Ct
namespace Gd
open PySem PySem.Spec PyProof.Rows L2
/-! ### a law that shows lists (repr): run where nothing is being shown -/
/-- a promise for calls made while nothing is being shown -/
structure FnG (P : Program) (w : World) (K : PySem.W.Frag) (mg : Str → Option Value) (base : Heap) (k : Nat) (f : Addr) (fd : FuncData) (ps : List Str) (sp : Sp) : Prop where
  len : ∀ us H Q E, sp us H Q E → us.length = ps.length
  run : ∀ (A : Around) (outer : List Env) (s : Shared) (H : Hp) (args : Args) (us : List Value) (vs : List V) (Q : VK) (E : XK), A.guards = some [] → Room k A → Env0 P w K mg base A outer s H → BindsTo s fd args (ps.zip us) → Vals vs us → sp vs H Q E → codeAny (model P w) A (.call (.ref f) args) (CR CX0 outer P w H s Q E) s
section
variable {P : Program} {w : World} {K : PySem.W.Frag} {mg : Str → Option Value} {base : Heap}
theorem okG {x qual : Str} {st : Stmt} {f : Addr} {fd : FuncData} {N ps : List Str} {k : Nat} {sp : Sp} (F : Fun K x qual st f fd) (S : FnScope N ps (defScope st)) (ln : ∀ us H Q E, sp us H Q E → us.length = ps.length)
    (body : ∀ (cdv : Value) (A : Around) (outer : List Env) (s : Shared) (H : Hp) (vs : List V) (Q : VK) (E : XK), A.guards = some [] → Room k (A.deeper (envOfC qual (defScope st) s.heap.objs.size f cdv)) → sp vs H Q E →
      ∃ t, PSs (cxOf CX0 P w K mg base N qual (defScope st) f cdv A outer s H E).nox (defBody st) t ∧ t { nx := fun _ H' => Q .non H', rt := Q } (start N vs) H) : FnG P w K mg base (k + 1) f fd ps sp := by
  obtain ⟨oc, od, kV, doc, pm, an, cdv, ct, osl, rfl, lk, hcd⟩ := F.ex
  refine ⟨ln, fun A outer s H args us vs Q E gd room env bind rel ask => ?_⟩
  have inS : K.In s.heap := env.mod.kin.keeps fun b o e => (env.bs b o e).1
  have noL : s.heap.NoLimit := env.mod.nolimit.keeps fun b o e => (env.bs b o e).1
  refine codeAny_call_function room.depth (inS _ _ lk) rfl S.co S.gen rfl (PySem.W.codeRec_of inS hcd) (bind _ _ _ _ (wpAny_newFunctionEnv_cells S.kind (fun y hy => ?_) fun env' he s1 z => ?_))
  · rcases S.par y.1 (List.of_mem_zip (a := y.1) (b := y.2) hy).1 with q | q
    · exact Or.inl q
    · exact Or.inr ⟨q, PySem.W.cellsFrom_some _ _ _ (Or.inl q)⟩
  · subst he
    obtain ⟨t, h1, h2⟩ := body cdv A outer s H vs Q E gd (room.deeper _) ask
    have J := inv_start (CX := CX0) (E := E) S room.hd env (ln _ _ _ _ ask) rel z
    refine ⟨noL.keeps z.toInCall.keep, codeAny_func (wpAny_mono (h1.nox.run [] s1 _ H _ J h2) (fun fl s' r => ?_) fun _ _ r => r)⟩
    match fl, r with
    | .ret u, r =>
      obtain ⟨v, σ', H', I, rv, q⟩ := r
      exact ⟨v, H', I.os, I.bare, I.base, I.hok, rv, q⟩
    | .next, r =>
      obtain ⟨σ', H', I, q⟩ := r
      exact ⟨.non, H', I.os, I.bare, I.base, I.hok, rfl, q⟩
    | .brk, r =>
      obtain ⟨_, _, _, q⟩ := r
      exact q.elim
    | .cont, r =>
      obtain ⟨_, _, _, q⟩ := r
      exact q.elim
/-- what the abstract heap knows at the law's call: the tables T, the script at a unless K holds it -/
def at0 (K : PySem.W.Frag) (T : List Addr) (a : Addr) (o : HO) : Hp := fun b => if b ∈ T then some (.tbl #[]) else if b = a ∧ (K.lookup a).isNone = true then some o else none
theorem at0_cases {T : List Addr} {a b : Addr} {o u : HO} (h : at0 K T a o b = some u) : (b ∈ T ∧ u = .tbl #[]) ∨ (b ∉ T ∧ b = a ∧ K.lookup a = none ∧ u = o) := by
  unfold at0 at h
  by_cases h1 : b ∈ T
  · rw [if_pos h1] at h
    exact .inl ⟨h1, (Option.some.inj h).symm⟩
  · rw [if_neg h1] at h
    by_cases h2 : b = a ∧ (K.lookup a).isNone = true
    · rw [if_pos h2] at h
      exact .inr ⟨h1, h2.1, Option.isNone_iff_eq_none.mp h2.2, (Option.some.inj h).symm⟩
    · rw [if_neg h2] at h
      cases h
theorem law_at {mb : Str → Option Value} {k : Nat} {fa a : Addr} {cs : List (Addr × Addr)} {fd : FuncData} {x : Str} {sp : Sp} {s1 : Shared} {us : List Value} {ns : List Int} (inK : K.In s1.heap) (ng : s1.heap.Ns mainGlobals mg) (nb : s1.heap.Ns builtinsNs mb)
    (bb : ∀ y : Str, y ≠ "__name__" → mb y = bootBuiltins y) (lim : s1.heap.NoLimit) (gens : s1.gens = #[]) (te : ∀ p ∈ cs, s1.heap.get? p.2 = some (PySem.W.tabObj #[])) (tk : ∀ p ∈ cs, K.lookup p.2 = none) (tc : ∀ p ∈ cs, PySem.W.CodeHd s1.heap p.1 p.2)
    (bm : ∃ (bm : Addr) (ob : Obj), mg "__builtins__" = some (.ref bm) ∧ bm ≠ builtinsNs ∧ s1.heap.get? bm = some ob ∧ ob.cls = .type "module" ∧ ob.dict = some builtinsNs ∧ ob.data = .plain) (la : s1.heap.get? a = some { cls := .type "list", data := .seq us.toArray }) (iu : IntsAre us ns) (lu : ns.length ≤ sizeLine) (room : Room k callerA)
    (F : ∀ base : Heap, K.In base → base.Ns mainGlobals mg → (∀ p ∈ cs, LamX.TabB base mg p.1 p.2) → FnG P w K mg base k fa fd [x] sp) (bind : ∀ (s : Shared) (u : Value), BindsTo s fd ⟨[u], []⟩ [(x, u)])
    (ask : ∀ H : Hp, (∀ p ∈ cs, H p.2 = some (.tbl #[])) → SqL K H a (ns.map V.int) → sp [.ref a] H (fun v _ => v = .bl true) fun _ _ _ => False) :
    codeAny (model P w) callerA (.call (.ref fa) ⟨[.ref a], []⟩) (fun r s' => r = .ok (.ret (.bool true)) ∧ OldK s1.heap s'.heap ∧ s'.os = s1.os ∧ AllBare s'.gens) s1 := by
  have lv := iu.length
  let T := cs.map (·.2)
  let O : HO := .frz { cls := .type "list", data := .seq us.toArray } (.lst (ns.map V.int))
  have tT : ∀ b ∈ T, s1.heap.get? b = some (PySem.W.tabObj #[]) := fun b hb => by
    obtain ⟨p, hp, rfl⟩ := List.mem_map.mp hb
    exact te p hp
  have inT : ∀ p ∈ cs, p.2 ∈ T := fun p hp => List.mem_map.mpr ⟨p, hp, rfl⟩
  have naT : a ∉ T := fun z => by
    have q := tT a z
    rw [la] at q
    cases congrArg Obj.data (Option.some.inj q)
  -- an object that is neither a list nor an empty table is not tracked
  have un0 : ∀ {b : Addr} {o : Obj}, s1.heap.get? b = some o → (∀ v n, o.data ≠ .seq v n) → o.data ≠ .fields #[] → at0 K T a O b = none := fun {b o} e d1 d2 => by
    cases q : at0 K T a O b with
    | none => rfl
    | some u =>
      rcases at0_cases q with ⟨h1, _⟩ | ⟨_, h1, _⟩
      · rw [tT b h1] at e
        cases e
        exact absurd rfl d2
      · rw [h1, la] at e
        cases e
        exact absurd rfl (d1 _ _)
  have ns0 : ∀ {b : Addr} {m : Str → Option Value}, s1.heap.Ns b m → (hidT s1.heap (at0 K T a O)).Ns b m := fun ⟨o, es, ep, e, d, r⟩ =>
    ⟨o, es, ep, hidT_get e (un0 e (fun _ _ z => by rw [d] at z; cases z) fun z => by rw [d] at z; cases z), d, r⟩
  have in0 : K.In (hidT s1.heap (at0 K T a O)) := fun b o e => by
    refine hidT_get (inK b o e) ?_
    cases q : at0 K T a O b with
    | none => rfl
    | some u =>
      rcases at0_cases q with ⟨h1, _⟩ | ⟨_, h1, h2, _⟩
      · obtain ⟨p, hp, rfl⟩ := List.mem_map.mp h1
        rw [tk p hp] at e
        cases e
      · rw [h1, h2] at e
        cases e
  have mod0 : L2.Mod K mg (hidT s1.heap (at0 K T a O)) := ⟨in0, ns0 ng, ⟨mb, ns0 nb, bb⟩, let ⟨mc, h1, h2⟩ := lim; ⟨mc, ns0 h1, h2⟩⟩
  have tab0 : ∀ p ∈ cs, LamX.TabB (hidT s1.heap (at0 K T a O)) mg p.1 p.2 := fun p hp => by
    obtain ⟨bmA, ob, b1, b2, b3, b4, b5, b6⟩ := bm
    obtain ⟨oc, oes, oep, oe, od, _⟩ := ng
    obtain ⟨c0, v0, f0, t0, g0, u0, i0, x0, y0, e1, r1, r2, r3, rest⟩ := tc p hp
    refine ⟨⟨c0, v0, f0, t0, g0, u0, i0, x0, y0, hidT_get e1 (un0 e1 (fun _ _ z => by rw [r2] at z; cases z) fun z => ?_), r1, r2, r3, rest⟩, ⟨bmA, ob, b1, b2, fun z => ?_, fun z => ?_, hidT_get b3 (un0 b3 (fun _ _ z => by rw [b6] at z; cases z) fun z => by rw [b6] at z; cases z), b4, b5, b6⟩, fun z => ?_⟩
    · rw [r2] at z
      cases z
      simp at r3
    · rw [z, oe] at b3
      cases b3
      rw [od] at b6
      cases b6
    · rw [z, te p hp] at b3
      cases b3
      cases b6
    · rw [z, te p hp] at oe
      cases oe
      cases od
  have hok0 : HOk P w (at0 K T a O) s1.heap := fun b u q => by
    rcases at0_cases q with ⟨h1, rfl⟩ | ⟨_, rfl, _, rfl⟩
    · exact tT b h1
    · exact ⟨la, by rw [List.length_map]; exact lu, us, _, vals_ints iu, la⟩
  have sq0 : SqL K (at0 K T a O) a (ns.map V.int) := by
    cases q : K.lookup a with
    | some o =>
      have e := inK a o q
      rw [la] at e
      cases e
      exact .inr ⟨_, us.toArray, _, q, rfl, rfl, rfl, by rw [List.size_toArray, lv]; exact lu, by simpa using vals_ints iu⟩
    | none => exact .inl (.inr ⟨_, (if_neg naT).trans (if_pos ⟨rfl, by rw [q]; rfl⟩)⟩)
  have env0 : Env0 P w K mg (hidT s1.heap (at0 K T a O)) callerA [] s1 (at0 K T a O) := ⟨rfl, mod0, fun b o e => of_hidT e, Nat.le_of_eq (hidT_size _ _), trivial, fun b z => absurd (show b ∈ ([] : List Addr) from z) (by simp), hok0, .of_eq gens⟩
  refine codeAny_mono ((F _ in0 (ns0 ng) tab0).run callerA [] s1 (at0 K T a O) ⟨[.ref a], []⟩ [.ref a] [.ref a] _ _ rfl room env0 (bind s1 (.ref a)) (.cons rfl .nil) (ask _ (fun p hp => if_pos (inT p hp)) sq0)) fun r s' h => ?_
  match r, h with
  | .error e, h => exact False.elim h
  | .ok .next, h => exact False.elim h
  | .ok .brk, h => exact False.elim h
  | .ok .cont, h => exact False.elim h
  | .ok (.ret u), h =>
    obtain ⟨v, H', os, bare, un, hok', rv, q⟩ := h
    obtain rfl : v = .bl true := q
    obtain rfl : u = Value.bool true := rv
    have kept : ∀ b o, b ∉ T → s1.heap.get? b = some o → s'.heap.get? b = some o := fun b o nt e => by
      cases z : at0 K T a O b with
      | none => exact un.keep b o e z (fun y => absurd (show b ∈ ([] : List Addr) from y) (by simp)) (by simp)
      | some u =>
        rcases at0_cases z with ⟨h1, _⟩ | ⟨_, rfl, _, rfl⟩
        · exact absurd h1 nt
        · obtain ⟨e2, _⟩ := hok' b _ (un.frzs b _ _ z)
          rw [la] at e
          cases e
          exact e2
    have tabs : ∀ b ∈ T, ∃ more : Array Value, s'.heap.get? b = some (PySem.W.tabObj more) := fun b hb => by
      obtain ⟨more, z⟩ := un.tbls b #[] (if_pos hb)
      exact ⟨_, hok' b _ z⟩
    refine ⟨rfl, ⟨fun b o e => ?_, fun b o e => ?_⟩, os, bare⟩
    · by_cases hb : b ∈ T
      · obtain ⟨more, z⟩ := tabs b hb
        obtain ⟨p, hp, rfl⟩ := List.mem_map.mp hb
        have e3 := te p hp
        rw [e] at e3
        cases e3
        exact .inr (.inl ⟨((tc p hp).tab (te p hp)).isCodeTable, rfl, #[], more, rfl, by rw [Array.empty_append]; exact z⟩)
      · exact .inl (kept b o hb e)
    · by_cases hb : b ∈ T
      · obtain ⟨more, z⟩ := tabs b hb
        exact ⟨_, z⟩
      · exact ⟨o, kept b o hb e⟩
end
end Gd
namespace Cl
open PySem PySem.Spec PyProof.Rows L2 GxR Nw Dr Kp
abbrev sThg : Stmt := topS 39
abbrev sClm : Stmt := topS 40
abbrev sBok : Stmt := topS 41
theorem scThg : FnScope ["feed", "least", "most", "left", "many", "some", "turn"] ["feed", "least", "most"] (defScope sThg) := ⟨rfl, rfl, rfl, by decide +kernel, rfl, by decide +kernel, by decide +kernel⟩
theorem scClm : FnScope ["feed", "things", "most", "left", "says", "turn", "thing"] ["feed", "things", "most"] (defScope sClm) := ⟨rfl, rfl, rfl, by decide +kernel, rfl, by decide +kernel, by decide +kernel⟩
theorem scBok : FnScope ["feed", "things", "most", "claims", "turn", "claim"] ["feed", "things", "most"] (defScope sBok) := ⟨rfl, rfl, rfl, by decide +kernel, rfl, by decide +kernel, by decide +kernel⟩
/-- the built-ins that stand as they stood -/
structure Zs (mg : Str → Option Value) : Prop where
  z_len : mg "len" = none
  z_list : mg "list" = none
  z_range : mg "range" = none
  z_min : mg "min" = none
  z_tuple : mg "tuple" = none
  z_sorted : mg "sorted" = none
/-- things: numbers from 1 to 8, none twice -/
structure Thg (ks : List Int) : Prop where
  nd : ks.Nodup
  one : ∀ k ∈ ks, 1 ≤ k ∧ k ≤ 8
  len : ks.length ≤ 8
theorem perm_pop : ∀ {l : List Int} {d : Nat} {y : Int}, l[d]? = some y → (y :: l.eraseIdx d).Perm l
  | [], _, _, h => by simp at h
  | a :: r, 0, y, h => by
    have e : a = y := Option.some.inj h
    subst e
    exact .refl _
  | a :: r, d + 1, y, h => by
    have ih := perm_pop (l := r) (d := d) (y := y) h
    exact (List.Perm.swap a y _).trans (.cons a ih)
theorem erase_len {l : List Int} {d : Nat} (h : d < l.length) : (l.eraseIdx d).length = l.length - 1 := List.length_eraseIdx_of_lt h
theorem erase_map : ∀ (l : List Int) (d : Nat), (l.map V.int).eraseIdx d = (l.eraseIdx d).map V.int
  | [], _ => rfl
  | _ :: _, 0 => rfl
  | a :: r, d + 1 => congrArg (V.int a :: ·) (erase_map r d)
theorem ix_seq {d : Int} {n : Nat} (h0 : 0 ≤ d) (h1 : d < (n : Int)) : seqIndex? d n = some d.toNat := by
  have e : ixN n d = some d.toNat := by
    unfold ixN
    rw [if_pos h0, if_pos h1]
  exact (ixN_seq e).1
section
variable {P : Program} {w : World} {K : PySem.W.Frag} {mg : Str → Option Value} {base : Heap} {fD fM : Addr} {fdD fdM : FuncData}
def spThg : Sp := fun vs H Q _ => ∃ (f c : Addr) (l m : Int) (B : Nat), vs = [.ref f, .int l, .int m] ∧ 1 ≤ l ∧ l ≤ m ∧ m ≤ 8 ∧ Feed H f c B ∧ B ≤ 2 ^ 58 ∧
  ∀ (ks : List Int) (p : Addr) (H' : Hp), Feed H' f c (B + 10) → Ke (· = f) H H' → Frs H p → H' p = some (.lst (ks.map V.int)) → Thg ks → l ≤ ks.length → (ks.length : Int) ≤ m → Q (.ref p) H'
theorem ok_thg {f : Addr} {fd : FuncData} {k : Nat} (F : Fun K "_law_sthings" "_law_sthings" sThg f fd) (T : Zs mg) (FD : Fun K "_law_sdraw" "_law_sdraw" sDrw fD fdD) (bD : Binds K fdD ["feed", "many"] []) (gD : mg "_law_sdraw" = some (.ref fD)) (GD : FnOk P w K mg base CX0 2 fD fdD ["feed", "many"] spDrw) :
    FnOk P w K mg base CX0 (k + 3) f fd ["feed", "least", "most"] spThg := by
  refine F.ok scThg (fun vs H Q E h => ?_) (fun cdv A outer s H vs Q E hr h => ?_)
  · obtain ⟨f, c, l, m, B, rfl, _⟩ := h
    rfl
  · obtain ⟨f, c, l, m, B, rfl, l0, lm, m8, hF, hB, q⟩ := h
    have hr2 : Room 2 _ := hr.mono (by omega)
    refine ⟨_, (pss_cons (ps_set (i := 3) scThg.nd rfl (.inl rfl) (pe_lstN (pa_cons pe_int (pa_cons pe_int (pa_cons pe_int (pa_cons pe_int (pa_cons pe_int (pa_cons pe_int (pa_cons pe_int (pa_cons pe_int pa_nil))))))))))
      (Evl.pss_cut (ps_set (i := 4) scThg.nd rfl (.inl rfl) (pe_op op_add (pv 1) (pe_call GD hr2 (by rfl) gD FD.kp bD .nil pass0 (pa_cons (pv 0) (pa_cons (pe_op op_sub (pe_op op_add (pv 2) pe_int) (pv 1)) pa_nil)))))
      (pss_cons (ps_set (i := 5) scThg.nd rfl (.inl rfl) (pe_lstN pa_nil))
      (pss_cons (ps_for PassesOwn.never rfl (pi_range1 (by rfl) T.z_range (pa_cons (pv 4) pa_nil)) (pg_name (i := 6) scThg.nd rfl (.inl rfl)) (pss_one (ps_expr (pe_bm PySem.F.plainAttrs_list PySem.F.slot_list_append PySem.F.type_list_append mt_append (pv 5) (pa_cons (pe_bm PySem.F.plainAttrs_list PySem.F.slot_list_pop PySem.F.type_list_pop mt_popAt (pv 3) (pa_cons (pe_call GD hr2 (by rfl) gD FD.kp bD .nil pass0 (pa_cons (pv 0) (pa_cons (pe_callB call_len_seq (by rfl) T.z_len (by decide +kernel) (pa_cons (pv 3) pa_nil)) pa_nil))) pa_nil)) pa_nil)))))
      (pss_one (ps_ret (pv 5))))))), ?_⟩
    refine ⟨by show 8 ≤ sizeLine; decide, fun L H1 nL s1 hL _ => ?_⟩
    have nLf : L ≠ f := hF.nf nL
    have nLc : L ≠ c := hF.nc nL
    refine Evl.q_cut (M := fun σ' H' => ∃ n : Nat, σ' = [some (.ref f), some (.int l), some (.int m), some (.ref L), some (.int n), none, none] ∧ l ≤ n ∧ (n : Int) ≤ m ∧ Feed H' f c (B + 1) ∧ Ke (· = f) H H' ∧ H' L = some (.lst (([1, 2, 3, 4, 5, 6, 7, 8] : List Int).map V.int))) ?_ ?_
    · have F1 : Feed H1 f c B := hF.same s1
      refine ⟨_, rfl, _, rfl, _, rfl, _, _, rfl, rfl, _, rfl, _, _, rfl, rfl, f, c, _, B, rfl, by omega, by omega, F1, by omega, fun d H2 d0 d1 F2 b2 => ?_⟩
      refine ⟨_, _, rfl, rfl, (l + d).toNat, ?_, by omega, by omega, F2, (Ke.same s1).trans (.but F1 b2), (b2 L nLf).trans hL⟩
      rw [Int.toNat_of_nonneg (by omega)]
      rfl
    rintro σ' H2 ⟨n, rfl, ln, nm, F2, k2, hL2⟩
    refine ⟨Nat.zero_le _, fun S H3 nS s3 hS _ => ?_⟩
    have nSL : S ≠ L := Ne.symm (ne_of_none hL2 nS)
    have nSf : S ≠ f := F2.nf nS
    have nSc : S ≠ c := F2.nc nS
    have frS : Frs H S := .ke k2 F2 (.of nS)
    have frL : Frs H L := .of nL
    refine ⟨_, rfl, n, rfl, by omega, by omega, for_range (Pv := fun i σ H' => ∃ (y6 : Option V) (left ks : List Int), σ = [some (.ref f), some (.int l), some (.int m), some (.ref L), some (.int n), some (.ref S), y6] ∧ Feed H' f c (B + 1 + i) ∧ Ke (· = f) H H' ∧ H' L = some (.lst (left.map V.int)) ∧ H' S = some (.lst (ks.map V.int)) ∧
      left.length = 8 - i ∧ ks.length = i ∧ (ks ++ left).Perm [1, 2, 3, 4, 5, 6, 7, 8]) ?_ ?_ ?_⟩
    · exact ⟨none, _, [], rfl, F2.same s3, k2.trans (.same s3), s3 _ _ hL2, hS, rfl, rfl, .refl _⟩
    · rintro i σ H' hi ⟨y6, left, ks, rfl, F4, k4, hL4, hS4, ll, lk, pm⟩
      have hi : i < n := by simpa using hi
      refine ⟨_, rfl, .inl ⟨rfl, _, .of hS4⟩, _, rfl, .inl ⟨rfl, _, .of hL4⟩, _, rfl, _, rfl, L, _, rfl, .inl (.of hL4), f, c, _, B + 1 + i, rfl, ?_, ?_, F4, by omega, fun d H5 d0 d1 F5 b5 => ?_⟩
      · rw [List.length_map]
        omega
      · rw [List.length_map]
        omega
      rw [List.length_map] at d1
      have dl : d.toNat < left.length := by omega
      have hL5 : H5 L = some (.lst (left.map V.int)) := (b5 L nLf).trans hL4
      have hS5 : H5 S = some (.lst (ks.map V.int)) := (b5 S nSf).trans hS4
      have k5 : Ke (· = f) H H5 := k4.trans (.but F4 b5)
      refine ⟨L, _, d, d.toNat, .int left[d.toNat], rfl, rfl, hL5, by omega, by omega, by rw [List.length_map]; exact ix_seq d0 d1, by rw [List.getElem?_map, List.getElem?_eq_getElem dl]; rfl, ?_⟩
      refine ⟨S, _, _, rfl, rfl, by rw [upd_ne nSL]; exact hS5, by rw [List.length_map]; exact small1000 (by omega), ?_⟩
      refine ⟨_, left.eraseIdx d.toNat, ks ++ [left[d.toNat]], rfl, ((F5.upd nLf nLc).upd nSf nSc).mono (by omega), (k5.write frL hL5).write frS (by rw [upd_ne nSL]; exact hS5), ?_, ?_, ?_, ?_, ?_⟩
      · rw [upd_ne (Ne.symm nSL), upd_same, erase_map]
      · rw [upd_same, List.map_append]
        rfl
      · rw [erase_len dl]
        omega
      · rw [List.length_append, lk]
        rfl
      · refine List.Perm.trans ?_ pm
        rw [List.append_assoc]
        exact (List.Perm.refl ks).append (perm_pop (List.getElem?_eq_getElem dl))
    · rintro σ H' ⟨y6, left, ks, rfl, F4, k4, hL4, hS4, ll, lk, pm⟩
      have lk' : ks.length = n := by simpa using lk
      have nd : (ks ++ left).Nodup := pm.nodup_iff.mpr (by decide)
      refine ⟨_, rfl, q ks S H' (F4.mono (by omega)) k4 frS hS4 ⟨(List.nodup_append.mp nd).1, fun k hk => ?_, by omega⟩ (by omega) (by omega)⟩
      have hm : k ∈ ([1, 2, 3, 4, 5, 6, 7, 8] : List Int) := pm.mem_iff.mp (List.mem_append_left _ hk)
      simp only [List.mem_cons, List.not_mem_nil, or_false] at hm
      omega
/-- sclaim(feed, things, most) -/
def spClm : Sp := fun vs H Q _ => ∃ (f c t : Addr) (m : Int) (B : Nat) (ks : List Int), vs = [.ref f, .ref t, .int m] ∧ 0 ≤ m ∧ m ≤ 8 ∧ H t = some (.lst (ks.map V.int)) ∧ Thg ks ∧ Feed H f c B ∧ B ≤ 2 ^ 58 ∧
  ∀ (cs : List Int) (p : Addr) (H' : Hp), Feed H' f c (B + 20) → Ke (· = f) H H' → Frs H p → H' p = some (.tup (cs.map V.int)) → IsCl cs → (∀ s ∈ cs, (s.natAbs : Int) ∈ ks) → (cs.length : Int) ≤ m → Q (.ref p) H'
theorem abs_nd : ∀ {l : List Int}, (l.map fun s => (s.natAbs : Int)).Nodup → l.Nodup ∧ ∀ k ∈ l, k ≠ 0 → -k ∉ l := fun {l} h => by
  refine ⟨(List.pairwise_map.mp h).imp (fun {a b} z e => z (by rw [e])), fun k hk h0 hn => ?_⟩
  have inj : ∀ a ∈ l, ∀ b ∈ l, (a.natAbs : Int) = b.natAbs → a = b := fun a ha b hb e => by
    obtain ⟨i, hi, ei⟩ := List.getElem_of_mem ha
    obtain ⟨j, hj, ej⟩ := List.getElem_of_mem hb
    have hij : (l.map fun s => (s.natAbs : Int))[i]'(by rw [List.length_map]; exact hi) = (l.map fun s => (s.natAbs : Int))[j]'(by rw [List.length_map]; exact hj) := by
      rw [List.getElem_map, List.getElem_map, ei, ej]
      exact e
    have := (List.getElem_inj h).mp hij
    subst this
    rw [← ei, ← ej]
  have := inj k hk (-k) hn (by omega)
  omega
theorem cl_of {says left ks ns : List Int} (T : Thg ks) (pm : ((says.map fun s => (s.natAbs : Int)) ++ left).Perm ks) (pn : ns.Perm says) (so : ns.Pairwise (· ≤ ·)) : IsCl ns ∧ ∀ s ∈ ns, (s.natAbs : Int) ∈ ks := by
  have nd := (List.nodup_append.mp (pm.nodup_iff.mpr T.nd)).1
  obtain ⟨n1, n2⟩ := abs_nd nd
  have mem : ∀ s ∈ ns, (s.natAbs : Int) ∈ ks := fun s hs => pm.mem_iff.mp (List.mem_append_left _ (List.mem_map.mpr ⟨s, pn.mem_iff.mp hs, rfl⟩))
  have nn : ns.Nodup := pn.nodup_iff.mpr n1
  have bd : ∀ s ∈ ns, s ≠ 0 ∧ -8 ≤ s ∧ s ≤ 8 := fun s hs => by
    have := T.one _ (mem s hs)
    omega
  refine ⟨⟨?_, bd, fun k hk hn => n2 k (pn.mem_iff.mp hk) (bd k hk).1 (pn.mem_iff.mp hn), ?_⟩, mem⟩
  · have := List.Pairwise.and so nn
    exact this.imp fun {a b} h => by
      obtain ⟨h1, h2⟩ := h
      omega
  · have l1 := pn.length_eq
    have l2 := pm.length_eq
    rw [List.length_append, List.length_map] at l2
    have := T.len
    omega
theorem ok_clm {f : Addr} {fd : FuncData} {k : Nat} (F : Fun K "_law_sclaim" "_law_sclaim" sClm f fd) (T : Zs mg) (FD : Fun K "_law_sdraw" "_law_sdraw" sDrw fD fdD) (bD : Binds K fdD ["feed", "many"] []) (gD : mg "_law_sdraw" = some (.ref fD)) (GD : FnOk P w K mg base CX0 2 fD fdD ["feed", "many"] spDrw) :
    FnOk P w K mg base CX0 (k + 3) f fd ["feed", "things", "most"] spClm := by
  refine F.ok scClm (fun vs H Q E h => ?_) (fun cdv A outer s H vs Q E hr h => ?_)
  · obtain ⟨f, c, t, m, B, ks, rfl, _⟩ := h
    rfl
  · obtain ⟨f, c, t, m, B, ks, rfl, m0, m8, ht, Tk, hF, hB, q⟩ := h
    have hr2 : Room 2 _ := hr.mono (by omega)
    refine ⟨_, (Evl.pss_cut (ps_set (i := 3) scClm.nd rfl (.inl rfl) (pe_callTy call_list_ofN (by rfl) T.z_list (by decide +kernel) (pa_cons (pv 1) pa_nil)))
      (pss_cons (ps_set (i := 4) scClm.nd rfl (.inl rfl) (pe_lstN pa_nil))
      (Evl.pss_cut (ps_for PassesOwn.never rfl (pi_range1 (by rfl) T.z_range (pa_cons (pe_callB (call_min2 rfl) (by rfl) T.z_min (by decide +kernel) (pa_cons (pe_callB call_len_seq (by rfl) T.z_len (by decide +kernel) (pa_cons (pv 3) pa_nil)) (pa_cons (pe_call GD hr2 (by rfl) gD FD.kp bD .nil pass0 (pa_cons (pv 0) (pa_cons (pe_op op_add (pv 2) pe_int) pa_nil))) pa_nil))) pa_nil)) (pg_name (i := 5) scClm.nd rfl (.inl rfl)) (pss_cons (ps_set (i := 6) scClm.nd rfl (.inl rfl) (pe_bm PySem.F.plainAttrs_list PySem.F.slot_list_pop PySem.F.type_list_pop mt_popAt (pv 3) (pa_cons (pe_call GD hr2 (by rfl) gD FD.kp bD .nil pass0 (pa_cons (pv 0) (pa_cons (pe_callB call_len_seq (by rfl) T.z_len (by decide +kernel) (pa_cons (pv 3) pa_nil)) pa_nil))) pa_nil)))
      (pss_one (ps_expr (pe_bm PySem.F.plainAttrs_list PySem.F.slot_list_append PySem.F.type_list_append mt_append (pv 4) (pa_cons (pe_ix ix_list (pe_lstN (pa_cons (pv 6) (pa_cons (pe_op op_sub pe_int (pv 6)) pa_nil))) (pe_call GD hr2 (by rfl) gD FD.kp bD .nil pass0 (pa_cons (pv 0) (pa_cons pe_int pa_nil))) (fun _ _ => rfl)) pa_nil))))))
      (pss_one (ps_ret (pe_callTy call_tuple_ofN (by rfl) T.z_tuple (by decide +kernel) (pa_cons (pe_callB cr_sortedN (by rfl) T.z_sorted (by decide +kernel) (pa_cons (pv 4) pa_nil)) pa_nil))))))), ?_⟩
    -- left
    refine Evl.q_cut (M := fun σ' H' => ∃ L, σ' = [some (.ref f), some (.ref t), some (.int m), some (.ref L), none, none, none] ∧ H L = none ∧ Same H H' ∧ H' L = some (.lst (ks.map V.int))) ?_ ?_
    · exact ⟨_, rfl, t, _, rfl, .inl (.of ht), fun L H1 nL s1 hL _ => ⟨L, rfl, nL, s1, hL⟩⟩
    rintro σ' H1 ⟨L, rfl, nL, s1, hL⟩
    refine ⟨Nat.zero_le _, fun S H2 nS s2 hS _ => ?_⟩
    have F2 : Feed H2 f c B := hF.same (s1.trans s2)
    have nLf : L ≠ f := hF.nf nL
    have nLc : L ≠ c := hF.nc nL
    have nSL : S ≠ L := Ne.symm (ne_of_none hL nS)
    have nSf : S ≠ f := (hF.same s1).nf nS
    have nSc : S ≠ c := (hF.same s1).nc nS
    have frL : Frs H L := .of nL
    have frS : Frs H S := .of (s1.free nS)
    have hL2 : H2 L = some (.lst (ks.map V.int)) := s2 _ _ hL
    -- the loop
    refine Evl.q_cut (M := fun σ' H' => ∃ (y5 y6 : Option V) (left says : List Int), σ' = [some (.ref f), some (.ref t), some (.int m), some (.ref L), some (.ref S), y5, y6] ∧ Feed H' f c (B + 20) ∧ Ke (· = f) H H' ∧ H' S = some (.lst (says.map V.int)) ∧ (says.length : Int) ≤ m ∧ ((says.map fun s => (s.natAbs : Int)) ++ left).Perm ks) ?_ ?_
    · refine ⟨_, rfl, L, _, rfl, .inl (.of hL2), _, rfl, _, rfl, _, _, rfl, rfl, f, c, _, B, rfl, by omega, by omega, F2, by omega, fun d H3 d0 d1 F3 b3 => ?_⟩
      refine ⟨_, _, rfl, ?_⟩
      generalize hn : (if d < ((ks.map V.int).length : Int) then d else ((ks.map V.int).length : Int)) = n
      have n0 : 0 ≤ n ∧ n ≤ m ∧ n ≤ ks.length := by
        rw [List.length_map] at hn
        split at hn <;> omega
      have tl := Tk.len
      have hL3 : H3 L = some (.lst (ks.map V.int)) := (b3 L nLf).trans hL2
      have hS3 : H3 S = some (.lst (([] : List Int).map V.int)) := (b3 S nSf).trans hS
      have k3 : Ke (· = f) H H3 := (Ke.same (s1.trans s2)).trans (.but F2 b3)
      refine ⟨n, rfl, by omega, by omega, for_range (Pv := fun i σ H' => ∃ (y5 y6 : Option V) (left says : List Int), σ = [some (.ref f), some (.ref t), some (.int m), some (.ref L), some (.ref S), y5, y6] ∧ Feed H' f c (B + 1 + 2 * i) ∧ Ke (· = f) H H' ∧ H' L = some (.lst (left.map V.int)) ∧ H' S = some (.lst (says.map V.int)) ∧
        left.length = ks.length - i ∧ says.length = i ∧ ((says.map fun s => (s.natAbs : Int)) ++ left).Perm ks) ?_ ?_ ?_⟩
      · exact ⟨none, none, ks, [], rfl, F3, k3, hL3, hS3, rfl, rfl, .refl _⟩
      · rintro i σ H' hi ⟨y5, y6, left, says, rfl, F4, k4, hL4, hS4, ll, ls, pm⟩
        have hi : i < n.toNat := hi
        refine ⟨_, rfl, .inl ⟨rfl, _, .of hL4⟩, _, rfl, _, rfl, L, _, rfl, .inl (.of hL4), f, c, _, B + 1 + 2 * i, rfl, ?_, ?_, F4, by omega, fun d H5 d0 d1 F5 b5 => ?_⟩
        · rw [List.length_map]
          omega
        · rw [List.length_map]
          omega
        rw [List.length_map] at d1
        have dl : d.toNat < left.length := by omega
        have hL5 : H5 L = some (.lst (left.map V.int)) := (b5 L nLf).trans hL4
        have hS5 : H5 S = some (.lst (says.map V.int)) := (b5 S nSf).trans hS4
        have k5 : Ke (· = f) H H5 := k4.trans (.but F4 b5)
        refine ⟨L, _, d, d.toNat, .int left[d.toNat], rfl, rfl, hL5, by omega, by omega, by rw [List.length_map]; exact ix_seq d0 d1, by rw [List.getElem?_map, List.getElem?_eq_getElem dl]; rfl, ?_⟩
        have pp := perm_pop (List.getElem?_eq_getElem dl)
        have y1 := Tk.one left[d.toNat] (pm.mem_iff.mp (List.mem_append_right _ (List.getElem_mem dl)))
        generalize left[d.toNat] = y at pp y1
        have F6 : Feed (upd H5 L (.lst ((left.map V.int).eraseIdx d.toNat))) f c (B + 1 + 2 * i + 1) := F5.upd nLf nLc
        have k6 : Ke (· = f) H (upd H5 L (.lst ((left.map V.int).eraseIdx d.toNat))) := k5.write frL hL5
        have hL6 : (upd H5 L (.lst ((left.map V.int).eraseIdx d.toNat))) L = some (.lst ((left.eraseIdx d.toNat).map V.int)) := by rw [upd_same, erase_map]
        have hS6 : (upd H5 L (.lst ((left.map V.int).eraseIdx d.toNat))) S = some (.lst (says.map V.int)) := by rw [upd_ne nSL]; exact hS5
        generalize (upd H5 L (.lst ((left.map V.int).eraseIdx d.toNat))) = H6 at F6 k6 hL6 hS6 ⊢
        -- says.append([thing, 0 - thing][..])
        refine ⟨_, rfl, .inl ⟨rfl, _, .of hS6⟩, _, rfl, _, rfl, _, _, rfl, rfl, by show 2 ≤ sizeLine; decide, fun p H7 np s7 hp _ => ?_⟩
        refine ⟨_, rfl, f, c, 2, B + 1 + 2 * i + 1, rfl, by decide, by decide, F6.same s7, by omega, fun e H8 e0 e1 F8 b8 => ?_⟩
        have npf : p ≠ f := F6.nf np
        have hp8 := (b8 p npf).trans hp
        have hS8 : H8 S = some (.lst (says.map V.int)) := (b8 S nSf).trans (s7 _ _ hS6)
        have hL8 : H8 L = some (.lst ((left.eraseIdx d.toNat).map V.int)) := (b8 L nLf).trans (s7 _ _ hL6)
        have k8 : Ke (· = f) H H8 := (k6.trans (.same s7)).trans (.but (F6.same s7) b8)
        have two : e = 0 ∨ e = 1 := by omega
        have go : ∀ z : Int, (z.natAbs : Int) = y → ((says ++ [z]).map (fun s => (s.natAbs : Int)) ++ left.eraseIdx d.toNat).Perm ks := fun z hz => by
          refine List.Perm.trans ?_ pm
          rw [List.map_append, List.append_assoc, List.map_singleton, hz]
          exact (List.Perm.refl _).append pp
        rcases two with rfl | rfl
        · refine ⟨p, _, 0, .int y, rfl, rfl, .of hp8, rfl, S, _, _, rfl, rfl, hS8, by rw [List.length_map]; exact small1000 (by omega), ?_⟩
          refine ⟨_, _, left.eraseIdx d.toNat, says ++ [y], rfl, (F8.upd nSf nSc).mono (by omega), k8.write frS hS8, by rw [upd_ne (Ne.symm nSL)]; exact hL8, by rw [upd_same, List.map_append]; rfl, by rw [erase_len dl]; omega, by rw [List.length_append, ls]; rfl, go y (by omega)⟩
        · refine ⟨p, _, 1, .int (0 - y), rfl, rfl, .of hp8, rfl, S, _, _, rfl, rfl, hS8, by rw [List.length_map]; exact small1000 (by omega), ?_⟩
          refine ⟨_, _, left.eraseIdx d.toNat, says ++ [0 - y], rfl, (F8.upd nSf nSc).mono (by omega), k8.write frS hS8, by rw [upd_ne (Ne.symm nSL)]; exact hL8, by rw [upd_same, List.map_append]; rfl, by rw [erase_len dl]; omega, by rw [List.length_append, ls]; rfl, go (0 - y) (by omega)⟩
      · rintro σ H' ⟨y5, y6, left, says, rfl, F4, k4, hL4, hS4, ll, ls, pm⟩
        exact ⟨y5, y6, left, says, rfl, F4.mono (by omega), k4, hS4, by omega, pm⟩
    rintro σ' H3 ⟨y5, y6, left, says, rfl, F3, k3, hS3, ls, pm⟩
    refine ⟨_, rfl, S, says, rfl, .of hS3, fun ns pn so p H4 np s4 hp _ => ?_⟩
    refine ⟨p, _, rfl, .of hp, fun p2 H5 np2 s5 hp2 _ => ?_⟩
    obtain ⟨h1, h2⟩ := cl_of Tk pm pn so
    refine q ns p2 H5 (F3.same (s4.trans s5)) (k3.trans (.same (s4.trans s5))) (.ke k3 F3 (.of (s4.free np2))) hp2 h1 h2 ?_
    rw [pn.length_eq]
    exact ls
/-- the claims css are of the things ks -/
def Of (ks : List Int) (cs : List Int) : Prop := IsCl cs ∧ ∀ s ∈ cs, (s.natAbs : Int) ∈ ks
/-- a list of claims as it grows -/
def Ls (H : Hp) (L : Addr) (css : List (List Int)) : Prop := ∃ vs, H L = some (.lst vs) ∧ vs.length = css.length ∧ ∀ (i : Nat) (x : V) (cs : List Int), vs[i]? = some x → css[i]? = some cs → TupI H x cs
theorem ix_append {α β : Type} {R : α → β → Prop} {vs : List α} {ys : List β} {v : α} {y : β} (l : vs.length = ys.length) (h : ∀ (i : Nat) (x : α) (z : β), vs[i]? = some x → ys[i]? = some z → R x z) (r : R v y) :
    ∀ (i : Nat) (x : α) (z : β), (vs ++ [v])[i]? = some x → (ys ++ [y])[i]? = some z → R x z := by
  intro i x z h1 h2
  by_cases hi : i < vs.length
  · rw [List.getElem?_append_left hi] at h1
    rw [List.getElem?_append_left (by omega)] at h2
    exact h i x z h1 h2
  · have e : i = vs.length := by
      have := (List.getElem?_eq_some_iff.mp h1).1
      rw [List.length_append, List.length_singleton] at this
      omega
    subst e
    rw [List.getElem?_append_right (Nat.le_refl _), Nat.sub_self] at h1
    rw [List.getElem?_append_right (by omega), show vs.length - ys.length = 0 by omega] at h2
    cases h1
    cases h2
    exact r
/-- sbook(feed, things, most) -/
def spBok : Sp := fun vs H Q _ => ∃ (f c t : Addr) (m : Int) (B : Nat) (ks : List Int), vs = [.ref f, .ref t, .int m] ∧ 1 ≤ m ∧ m ≤ 16 ∧ H t = some (.lst (ks.map V.int)) ∧ Thg ks ∧ ks ≠ [] ∧ t ≠ f ∧ Feed H f c B ∧ B ≤ 2 ^ 57 ∧
  ∀ (css : List (List Int)) (p : Addr) (H' : Hp), Feed H' f c (B + 500) → Ke (· = f) H H' → Frs H p → Bk H' (.ref p) css → (∀ cs ∈ css, Of ks cs) → 1 ≤ css.length → (css.length : Int) ≤ m → Q (.ref p) H'
theorem ok_bok {f fC : Addr} {fd fdC : FuncData} {k : Nat} (F : Fun K "_law_sbook" "_law_sbook" sBok f fd) (T : Zs mg) (FD : Fun K "_law_sdraw" "_law_sdraw" sDrw fD fdD) (bD : Binds K fdD ["feed", "many"] []) (gD : mg "_law_sdraw" = some (.ref fD)) (GD : FnOk P w K mg base CX0 2 fD fdD ["feed", "many"] spDrw)
    (FC : Fun K "_law_sclaim" "_law_sclaim" sClm fC fdC) (bC : Binds K fdC ["feed", "things", "most"] []) (gC : mg "_law_sclaim" = some (.ref fC)) (GC : FnOk P w K mg base CX0 3 fC fdC ["feed", "things", "most"] spClm) :
    FnOk P w K mg base CX0 (k + 4) f fd ["feed", "things", "most"] spBok := by
  refine F.ok scBok (fun vs H Q E h => ?_) (fun cdv A outer s H vs Q E hr h => ?_)
  · obtain ⟨f, c, t, m, B, ks, rfl, _⟩ := h
    rfl
  · obtain ⟨f, c, t, m, B, ks, rfl, m0, m8, ht, Tk, kn, ntf, hF, hB, q⟩ := h
    have hr2 : Room 2 _ := hr.mono (by omega)
    have hr3 : Room 3 _ := hr.mono (by omega)
    refine ⟨_, (pss_cons (ps_set (i := 3) scBok.nd rfl (.inl rfl) (pe_lstN pa_nil))
      (Evl.pss_cut (ps_for PassesOwn.never rfl (pi_range1 (by rfl) T.z_range (pa_cons (pe_op op_add pe_int (pe_call GD hr2 (by rfl) gD FD.kp bD .nil pass0 (pa_cons (pv 0) (pa_cons (pv 2) pa_nil)))) pa_nil)) (pg_name (i := 4) scBok.nd rfl (.inl rfl)) (Evl.pss_cut (ps_set (i := 5) scBok.nd rfl (.inl rfl) (pe_call GC hr3 (by rfl) gC FC.kp bC .nil pass0 (pa_cons (pv 0) (pa_cons (pv 1) (pa_cons (pe_ix ix_list (pe_lstN (pa_cons pe_int (pa_cons pe_int (pa_cons pe_int (pa_cons pe_int pa_nil))))) (pe_call GD hr2 (by rfl) gD FD.kp bD .nil pass0 (pa_cons (pv 0) (pa_cons pe_int pa_nil))) (fun _ _ => rfl)) pa_nil)))))
      (Evl.pss_cut (ps_if (PW.pt (pw_and (pt_cmpR (op_eqD hr.units) (pv 5) (pe_tupN pa_nil) (nomark _)) (pw_and1 (pt_cmpR op_gt (pe_call GD hr2 (by rfl) gD FD.kp bD .nil pass0 (pa_cons (pv 0) (pa_cons pe_int pa_nil))) pe_int (nomark _))))) (pss_one (ps_set (i := 5) scBok.nd rfl (.inl rfl) (pe_tupN (pa_cons (pe_ix ix_list (pv 1) pe_int (fun _ _ => rfl)) pa_nil)))) pss_nil)
      (pss_one (ps_expr (pe_bm PySem.F.plainAttrs_list PySem.F.slot_list_append PySem.F.type_list_append mt_append (pv 3) (pa_cons (pv 5) pa_nil)))))))
      (pss_one (ps_ret (pe_callTy call_tuple_ofN (by rfl) T.z_tuple (by decide +kernel) (pa_cons (pv 3) pa_nil)))))), ?_⟩
    refine ⟨Nat.zero_le _, fun L H1 nL s1 hL _ => ?_⟩
    have nLf : L ≠ f := hF.nf nL
    have nLc : L ≠ c := hF.nc nL
    have frL : Frs H L := .of nL
    have nLt : L ≠ t := Ne.symm (ne_of_none ht nL)
    obtain ⟨k0, kr, rfl⟩ : ∃ k0 kr, ks = k0 :: kr := by
      cases ks with
      | nil => exact absurd rfl kn
      | cons a r => exact ⟨a, r, rfl⟩
    have hk0 := Tk.one k0 List.mem_cons_self
    have of0 : Of (k0 :: kr) [k0] := by
      refine ⟨⟨.cons (fun _ h => (nomatch h)) .nil, fun k hk => ?_, fun k hk hn => ?_, by show 1 ≤ 8; decide⟩, fun s hs => ?_⟩
      · rw [List.mem_singleton.mp hk]
        omega
      · rw [List.mem_singleton.mp hk] at hn
        have := List.mem_singleton.mp hn
        omega
      · rw [List.mem_singleton.mp hs, show ((k0.natAbs : Nat) : Int) = k0 by omega]
        exact List.mem_cons_self
    refine Evl.q_cut (M := fun σ' H' => ∃ (y4 y5 : Option V) (css : List (List Int)), σ' = [some (.ref f), some (.ref t), some (.int m), some (.ref L), y4, y5] ∧ Feed H' f c (B + 500) ∧ Ke (· = f) H H' ∧ Ls H' L css ∧ (∀ cs ∈ css, Of (k0 :: kr) cs) ∧ 1 ≤ css.length ∧ (css.length : Int) ≤ m) ?_ ?_
    · have F1 : Feed H1 f c B := hF.same s1
      refine ⟨_, rfl, _, rfl, f, c, _, B, rfl, by omega, by omega, F1, by omega, fun d H2 d0 d1 F2 b2 => ?_⟩
      refine ⟨_, _, rfl, rfl, 1 + d, rfl, by omega, by omega, for_range (Pv := fun i σ H' => ∃ (y4 y5 : Option V) (css : List (List Int)), σ = [some (.ref f), some (.ref t), some (.int m), some (.ref L), y4, y5] ∧ Feed H' f c (B + 1 + 30 * i) ∧ Ke (· = f) H H' ∧ Ls H' L css ∧ (∀ cs ∈ css, Of (k0 :: kr) cs) ∧ css.length = i) ?_ ?_ ?_⟩
      · exact ⟨none, none, [], rfl, F2, (Ke.same s1).trans (.but F1 b2), ⟨[], (b2 L nLf).trans hL, rfl, fun i x cs h => by simp at h⟩, fun cs h => (nomatch h), rfl⟩
      · rintro i σ H3 hi ⟨y4, y5, css, rfl, F3, k3, ⟨vs, hL3, lv, hv⟩, oc, lc⟩
        have hi : i < (1 + d).toNat := hi
        have ht3 : H3 t = some (.lst ((k0 :: kr).map V.int)) := k3.lst ht ntf
        refine Evl.q_cut (M := fun σ' H' => ∃ (p : Addr) (cs : List Int), σ' = [some (.ref f), some (.ref t), some (.int m), some (.ref L), some (.int (0 + (i : Int))), some (.ref p)] ∧ Feed H' f c (B + 1 + 30 * i + 21) ∧ Ke (· = f) H3 H' ∧ H' p = some (.tup (cs.map V.int)) ∧ Of (k0 :: kr) cs) ?_ ?_
        · refine ⟨_, rfl, _, rfl, by show 4 ≤ sizeLine; decide, fun p4 H4 np4 s4 hp4 _ => ?_⟩
          have F4 := F3.same s4
          refine ⟨_, rfl, f, c, 4, _, rfl, by decide, by decide, F4, by omega, fun e H5 e0 e1 F5 b5 => ?_⟩
          have k5 : Ke (· = f) H3 H5 := (Ke.same s4).trans (.but F4 b5)
          have np4f : p4 ≠ f := F3.nf np4
          have ht5 : H5 t = some (.lst ((k0 :: kr).map V.int)) := k5.lst ht3 ntf
          have pk : ∃ mm : Int, 0 ≤ mm ∧ mm ≤ 8 ∧ atI [V.int 3, V.int 3, V.int 3, V.int 6] e = some (.int mm) := by
            have four : e = 0 ∨ e = 1 ∨ e = 2 ∨ e = 3 := by omega
            rcases four with rfl | rfl | rfl | rfl
            · exact ⟨3, by decide, by decide, rfl⟩
            · exact ⟨3, by decide, by decide, rfl⟩
            · exact ⟨3, by decide, by decide, rfl⟩
            · exact ⟨6, by decide, by decide, rfl⟩
          obtain ⟨mm, mm0, mm1, ha⟩ := pk
          refine ⟨p4, _, e, .int mm, rfl, rfl, .of ((b5 p4 np4f).trans hp4), ha, f, c, t, mm, _, k0 :: kr, rfl, mm0, mm1, ht5, Tk, F5, by omega, fun cs p H6 F6 k6 _ hp h1 h2 _ => ?_⟩
          exact ⟨p, cs, rfl, F6.mono (by omega), k5.trans k6, hp, h1, h2⟩
        rintro σ' H4 ⟨p, cs, rfl, F4, k4, hp, hc⟩
        -- if claim == () and ..
        refine Evl.q_cut (M := fun σ' H' => ∃ (p : Addr) (cs : List Int), σ' = [some (.ref f), some (.ref t), some (.int m), some (.ref L), some (.int (0 + (i : Int))), some (.ref p)] ∧ Feed H' f c (B + 1 + 30 * i + 22) ∧ Ke (· = f) H3 H' ∧ H' p = some (.tup (cs.map V.int)) ∧ Of (k0 :: kr) cs) ?_ ?_
        · refine ⟨_, rfl, Nat.zero_le _, fun p5 H5 np5 s5 hp5 _ => ?_⟩
          have F5 := F4.same s5
          have k5 : Ke (· = f) H3 H5 := k4.trans (.same s5)
          refine ⟨_, _, .tup (.of (s5 _ _ hp)) (dp_ints cs), .tup (.of hp5) .nil, shaped_tuple (flat_ints _), shaped_tuple rfl, _, rfl, ite2 (fun e => ?_) (fun e => ?_)⟩
          · refine ⟨_, rfl, f, c, 6, _, rfl, by decide, by decide, F5, by omega, fun g H6 g0 g1 F6 b6 => ?_⟩
            have k6 : Ke (· = f) H3 H6 := k5.trans (.but F5 b6)
            refine ⟨_, _, rfl, rfl, _, rfl, ite2 (fun e => ?_) (fun e => ?_)⟩
            · have ht6 : H6 t = some (.lst ((k0 :: kr).map V.int)) := k6.lst ht3 ntf
              refine ⟨_, rfl, t, _, 0, .int k0, rfl, rfl, .of ht6, atI_nat (j := 0) rfl, by show 1 ≤ sizeLine; decide, fun p7 H7 np7 s7 hp7 _ => ?_⟩
              exact ⟨p7, [k0], rfl, (F6.same s7).mono (by omega), k6.trans (.same s7), hp7, of0⟩
            · exact ⟨p, cs, rfl, F6.mono (by omega), k6, (Ke.but F5 b6).tups _ _ (s5 _ _ hp), hc⟩
          · exact ⟨p, cs, rfl, F5.mono (by omega), k5, s5 _ _ hp, hc⟩
        rintro σ' H5 ⟨p, cs, rfl, F5, k5, hp, hc⟩
        -- claims.append(claim)
        have hL5 : H5 L = some (.lst vs) := k5.lst hL3 nLf
        refine ⟨_, rfl, .inl ⟨rfl, _, .of hL5⟩, _, rfl, L, _, _, rfl, rfl, hL5, small1000 (by omega), ?_⟩
        have k6 : Ke (· = f) H (upd H5 L (.lst (vs ++ [.ref p]))) := (k3.trans k5).write frL hL5
        have tp : ∀ {x : V} {ds : List Int}, TupI H5 x ds → TupI (upd H5 L (.lst (vs ++ [.ref p]))) x ds := fun {x ds} ⟨a, e, h⟩ => ⟨a, e, by
          have n : a ≠ L := fun z => by
            rw [z, hL5] at h
            cases h
          rw [upd_ne n]
          exact h⟩
        refine ⟨_, _, css ++ [cs], rfl, (F5.upd nLf nLc).mono (by omega), k6, ⟨vs ++ [.ref p], upd_same, by rw [List.length_append, List.length_append, lv]; rfl, ix_append lv (fun i x ds h1 h2 => tp ((hv i x ds h1 h2).ke k5)) (tp ⟨p, rfl, hp⟩)⟩, fun ds hd => ?_, by rw [List.length_append, lc]; rfl⟩
        rcases List.mem_append.mp hd with z | z
        · exact oc ds z
        · rw [List.mem_singleton.mp z]
          exact hc
      · rintro σ H3 ⟨y4, y5, css, rfl, F3, k3, ls, oc, lc⟩
        have lc' : css.length = (1 + d).toNat := lc
        exact ⟨y4, y5, css, rfl, F3.mono (by omega), k3, ls, oc, by omega, by omega⟩
    rintro σ' H2 ⟨y4, y5, css, rfl, F2, k2, ⟨vs, hL2, lv, hv⟩, oc, l1, l2⟩
    refine ⟨_, rfl, L, vs, rfl, .of hL2, fun p H3 np s3 hp _ => ?_⟩
    have k3 : Ke (· = f) H2 H3 := .same s3
    exact q css p H3 (F2.same s3) (k2.trans k3) (.ke k2 F2 (.of np)) ⟨p, vs, rfl, hp, lv, fun i x cs h1 h2 => (hv i x cs h1 h2).ke k3⟩ oc l1 l2
end
end Cl
namespace Lr
open PySem PySem.Spec PyProof.Rows L2 GxR Nw Dr Kp Ct
/-! ### rows, ladders, their claims -/
inductive Rw where
  | book (n : Nat)
  | cut (i j : Nat) (k : Int)
/-- the row's parts -/
def Rw.vs : Rw → List V
  | .book n => [.str "book", .int (n : Nat)]
  | .cut i j k => [.str "cut", .int (i : Nat), .int (j : Nat), .int k]
def RowAt (H : Hp) (v : V) (r : Rw) : Prop := ∃ a, v = .ref a ∧ H a = some (.tup r.vs)
variable {F : Addr → Prop} {H H' : Hp}
theorem RowAt.ke {v : V} {r : Rw} (h : RowAt H v r) (k : Ke F H H') : RowAt H' v r := by
  obtain ⟨a, e, h⟩ := h
  exact ⟨a, e, k.tups _ _ h⟩
/-- items told one by one -/
def All2 {α β : Type} (R : α → β → Prop) (xs : List α) (ys : List β) : Prop := xs.length = ys.length ∧ ∀ (i : Nat) (x : α) (y : β), xs[i]? = some x → ys[i]? = some y → R x y
theorem All2.imp {α β : Type} {R S : α → β → Prop} {xs : List α} {ys : List β} (h : All2 R xs ys) (f : ∀ x y, R x y → S x y) : All2 S xs ys := ⟨h.1, fun i x y h1 h2 => f x y (h.2 i x y h1 h2)⟩
theorem All2.nil {α β : Type} {R : α → β → Prop} : All2 R ([] : List α) ([] : List β) := ⟨rfl, fun i x y h => by cases h⟩
theorem All2.snoc {α β : Type} {R : α → β → Prop} {xs : List α} {ys : List β} {x : α} {y : β} (h : All2 R xs ys) (r : R x y) : All2 R (xs ++ [x]) (ys ++ [y]) := by
  refine ⟨by rw [List.length_append, List.length_append, h.1]; rfl, fun i x' y' h1 h2 => ?_⟩
  by_cases hi : i < xs.length
  · rw [List.getElem?_append_left hi] at h1
    rw [List.getElem?_append_left (by rw [← h.1]; exact hi)] at h2
    exact h.2 i x' y' h1 h2
  · have e : i = xs.length := by
      have := (List.getElem?_eq_some_iff.mp h1).1
      rw [List.length_append, List.length_singleton] at this
      omega
    subst e
    rw [List.getElem?_append_right (Nat.le_refl _), Nat.sub_self] at h1
    rw [List.getElem?_append_right (by rw [h.1]; exact Nat.le_refl _), show xs.length - ys.length = 0 by rw [h.1]; exact Nat.sub_self _] at h2
    cases h1
    cases h2
    exact r
theorem All2.cat {α β : Type} {R : α → β → Prop} {xs us : List α} {ys ws : List β} (h : All2 R xs ys) (g : All2 R us ws) : All2 R (xs ++ us) (ys ++ ws) := by
  refine ⟨by rw [List.length_append, List.length_append, h.1, g.1], fun i x y h1 h2 => ?_⟩
  by_cases hi : i < xs.length
  · rw [List.getElem?_append_left hi] at h1
    rw [List.getElem?_append_left (by rw [← h.1]; exact hi)] at h2
    exact h.2 i x y h1 h2
  · rw [List.getElem?_append_right (by omega)] at h1
    rw [List.getElem?_append_right (by rw [← h.1]; omega), ← h.1] at h2
    exact g.2 _ x y h1 h2
theorem All2.take {α β : Type} {R : α → β → Prop} {xs : List α} {ys : List β} (h : All2 R xs ys) (n : Nat) : All2 R (xs.take n) (ys.take n) := by
  refine ⟨by rw [List.length_take, List.length_take, h.1], fun i x y h1 h2 => ?_⟩
  rw [List.getElem?_take] at h1 h2
  by_cases l : i < n
  · rw [if_pos l] at h1 h2
    exact h.2 i x y h1 h2
  · rw [if_neg l] at h1
    cases h1
theorem All2.at {α β : Type} {R : α → β → Prop} {xs : List α} {ys : List β} (h : All2 R xs ys) {i : Nat} {x : α} (e : xs[i]? = some x) : ∃ y, ys[i]? = some y ∧ R x y := by
  have l := (List.getElem?_eq_some_iff.mp e).1
  have l2 : i < ys.length := by rw [← h.1]; exact l
  exact ⟨ys[i], List.getElem?_eq_getElem l2, h.2 i x _ e (List.getElem?_eq_getElem l2)⟩
theorem All2.atR {α β : Type} {R : α → β → Prop} {xs : List α} {ys : List β} (h : All2 R xs ys) {i : Nat} {y : β} (e : ys[i]? = some y) : ∃ x, xs[i]? = some x ∧ R x y := by
  have l := (List.getElem?_eq_some_iff.mp e).1
  have l2 : i < xs.length := by rw [h.1]; exact l
  exact ⟨xs[i], List.getElem?_eq_getElem l2, h.2 i _ y (List.getElem?_eq_getElem l2) e⟩
/-- a list of claims, a list of rows -/
def ClL (H : Hp) (L : Addr) (cls : List (List Int)) : Prop := ∃ vs, H L = some (.lst vs) ∧ All2 (TupI H) vs cls
def RwL (H : Hp) (L : Addr) (rows : List Rw) : Prop := ∃ vs, H L = some (.lst vs) ∧ All2 (RowAt H) vs rows
theorem ClL.ke {L : Addr} {cls : List (List Int)} (h : ClL H L cls) (k : Ke F H H') (n : ¬ F L) : ClL H' L cls := by
  obtain ⟨vs, h1, h2⟩ := h
  exact ⟨vs, k.lst h1 n, h2.imp fun x y r => r.ke k⟩
theorem RwL.ke {L : Addr} {rows : List Rw} (h : RwL H L rows) (k : Ke F H H') (n : ¬ F L) : RwL H' L rows := by
  obtain ⟨vs, h1, h2⟩ := h
  exact ⟨vs, k.lst h1 n, h2.imp fun x y r => r.ke k⟩
theorem bk_all {v : V} {css : List (List Int)} (h : Bk H v css) : ∃ a vs, v = .ref a ∧ H a = some (.tup vs) ∧ All2 (TupI H) vs css := by
  obtain ⟨a, vs, e, h, l, t⟩ := h
  exact ⟨a, vs, e, h, l, t⟩
/-- the claim of a row behind rows with the claims cls -/
def RowCl (css cls : List (List Int)) : Rw → List Int → Prop
  | .book n, c => css[n]? = some c
  | .cut i j k, c => ∃ x y, cls[i]? = some x ∧ cls[j]? = some y ∧ Comes x y k c
/-- a ladder by the book, with its claims -/
def Lad (css : List (List Int)) (rows : List Rw) (cls : List (List Int)) : Prop := rows.length = cls.length ∧ ∀ (i : Nat) (r : Rw) (c : List Int), rows[i]? = some r → cls[i]? = some c → RowCl css (cls.take i) r c
theorem Lad.nil (css : List (List Int)) : Lad css [] [] := ⟨rfl, fun i r c h => by cases h⟩
theorem Lad.snoc {css cls : List (List Int)} {rows : List Rw} {r : Rw} {c : List Int} (h : Lad css rows cls) (hr : RowCl css cls r c) : Lad css (rows ++ [r]) (cls ++ [c]) := by
  refine ⟨by rw [List.length_append, List.length_append, h.1]; rfl, fun i r' c' h1 h2 => ?_⟩
  by_cases hi : i < rows.length
  · rw [List.getElem?_append_left hi] at h1
    rw [List.getElem?_append_left (by rw [← h.1]; exact hi)] at h2
    rw [List.take_append_of_le_length (by have := h.1; omega)]
    exact h.2 i r' c' h1 h2
  · have e : i = rows.length := by
      have := (List.getElem?_eq_some_iff.mp h1).1
      rw [List.length_append, List.length_singleton] at this
      omega
    subst e
    rw [List.getElem?_append_right (Nat.le_refl _), Nat.sub_self] at h1
    rw [List.getElem?_append_right (by rw [h.1]; exact Nat.le_refl _), show rows.length - cls.length = 0 by rw [h.1]; exact Nat.sub_self _] at h2
    cases h1
    cases h2
    rw [h.1, List.take_append_of_le_length (Nat.le_refl _), List.take_length]
    exact hr
theorem Lad.take {css cls : List (List Int)} {rows : List Rw} (h : Lad css rows cls) (n : Nat) : Lad css (rows.take n) (cls.take n) := by
  refine ⟨by rw [List.length_take, List.length_take, h.1], fun i r c h1 h2 => ?_⟩
  rw [List.getElem?_take] at h1 h2
  by_cases l : i < n
  · rw [if_pos l] at h1 h2
    rw [List.take_take, Nat.min_eq_left (by omega)]
    exact h.2 i r c h1 h2
  · rw [if_neg l] at h1
    cases h1
/-- what any two tellings of a row's claim tell is one -/
theorem RowCl.one {css cls : List (List Int)} {r : Rw} {c d : List Int} (a : RowCl css cls r c) (b : RowCl css cls r d) : c = d := by
  cases r with
  | book n => exact Option.some.inj (a.symm.trans b)
  | cut i j k =>
    obtain ⟨x, y, h1, h2, h3⟩ := a
    obtain ⟨x', y', h1', h2', h3'⟩ := b
    cases h1.symm.trans h1'
    cases h2.symm.trans h2'
    exact h3.one h3'
theorem RowCl.parts {css cls : List (List Int)} {i j : Nat} {k : Int} {c : List Int} (a : RowCl css cls (.cut i j k) c) : i < cls.length ∧ j < cls.length := by
  obtain ⟨x, y, h1, h2, _⟩ := a
  exact ⟨(List.getElem?_eq_some_iff.mp h1).1, (List.getElem?_eq_some_iff.mp h2).1⟩
theorem len_sub : ∀ (l m : List Int), l.Nodup → (∀ x ∈ l, x ∈ m) → l.length ≤ m.length
  | [], _, _, _ => Nat.zero_le _
  | x :: r, m, nd, h => by
    obtain ⟨h1, h2⟩ := List.nodup_cons.mp nd
    have ih := len_sub r (m.erase x) h2 fun y hy => (List.mem_erase_of_ne (fun e => h1 (by rw [← e]; exact hy))).mpr (h y (List.mem_cons_of_mem _ hy))
    have e := List.length_erase_of_mem (h x List.mem_cons_self)
    have p := List.length_pos_of_mem (h x List.mem_cons_self)
    rw [List.length_cons]
    omega
/-- rising, from -8 to 8, not 0, none opposite: a claim -/
theorem cl_mk {ns : List Int} (up : ns.Pairwise (· < ·)) (says : ∀ k ∈ ns, k ≠ 0 ∧ -8 ≤ k ∧ k ≤ 8) (opp : ∀ k ∈ ns, -k ∉ ns) : IsCl ns := by
  refine ⟨up, says, opp, ?_⟩
  have nd : (ns.map fun s => (s.natAbs : Int)).Nodup := List.pairwise_map.mpr (up.imp_of_mem fun {a b} ha hb hab e => by
    have : a = b ∨ a = -b := by omega
    rcases this with z | z
    · omega
    · have e2 : -b = a := by omega
      exact opp b hb (by rw [e2]; exact ha))
  have := len_sub _ [1, 2, 3, 4, 5, 6, 7, 8] nd fun x hx => by
    obtain ⟨s, hs, rfl⟩ := List.mem_map.mp hx
    have := says s hs
    simp only [List.mem_cons, List.not_mem_nil, or_false]
    omega
  rw [List.length_map] at this
  exact this
theorem cl_comes {cs ds ns : List Int} {k : Int} (hc : IsCl cs) (hd : IsCl ds) (h : Comes cs ds k ns) : IsCl ns := by
  obtain ⟨_, _, _, no, up, me⟩ := h
  refine cl_mk up (fun j hj => ?_) fun j hj hn => no j ((me j).mp hj) ((me (-j)).mp hn)
  rcases ((me j).mp hj).1 with z | z
  · exact hc.says j z
  · exact hd.says j z
theorem RowCl.isCl {css cls : List (List Int)} {r : Rw} {c : List Int} (hb : ∀ c ∈ css, IsCl c) (hc : ∀ c ∈ cls, IsCl c) (h : RowCl css cls r c) : IsCl c := by
  cases r with
  | book n => exact hb c (List.mem_of_getElem? h)
  | cut i j k =>
    obtain ⟨x, y, h1, h2, h3⟩ := h
    exact cl_comes (hc x (List.mem_of_getElem? h1)) (hc y (List.mem_of_getElem? h2)) h3
theorem Lad.isCl {css cls : List (List Int)} {rows : List Rw} (hb : ∀ c ∈ css, IsCl c) (h : Lad css rows cls) : ∀ c ∈ cls, IsCl c := by
  have key : ∀ n, n ≤ cls.length → ∀ c ∈ cls.take n, IsCl c := by
    intro n
    induction n with
    | zero => exact fun _ c hc => by simp at hc
    | succ n ih =>
      intro hn c hc
      rw [List.take_add_one] at hc
      rcases List.mem_append.mp hc with hc | hc
      · exact ih (by omega) c hc
      · have ln : n < cls.length := by omega
        have lr : n < rows.length := by rw [h.1]; exact ln
        rw [List.getElem?_eq_getElem ln] at hc
        obtain rfl : c = cls[n] := List.mem_singleton.mp hc
        exact (h.2 n rows[n] cls[n] (List.getElem?_eq_getElem lr) (List.getElem?_eq_getElem ln)).isCl hb (ih (by omega))
  have := key cls.length (Nat.le_refl _)
  rwa [List.take_length] at this
/-! ### min, max of a tuple of two whole numbers -/
section
variable {X : Cx}
def rT2 (K : PySem.W.Frag) (f : Int → Int → Int) : List V → Hp → VK → Prop := fun vs H Q => ∃ (a : Addr) (i j : Int), vs = [V.ref a] ∧ SqT K H a [.int i, .int j] ∧ Q (.int (f i j)) H
theorem two_of {its : List Value} {i j : Int} (r : Vals [V.int i, V.int j] its) : IntsAre its [i, j] := by
  obtain ⟨t, u, rfl⟩ := Vals.int2 r
  exact .cons _ _ (.cons _ _ .nil)
theorem cr_minT (hc : X.calm = true) (hu : X.A.units + 70 < cLine) : CallR X (.builtin "min") (rT2 X.K fun i j => if j < i then j else i) := by
  intro pins s σ H vs us Q I r h
  obtain ⟨a, i, j, rfl, hs, q⟩ := h
  obtain ⟨its, rv, hl, _⟩ := I.tuple hs
  rw [Vals.ref1 r]
  refine PySem.W.min_tuple_datum (α := Int) (x := i) (xs := [j]) (I.ok.hd hc) hl (PySem.W.HoldAll.of_ints (two_of rv)) (by show X.A.units + 1 + 0 < cLine; omega) fun n v h' tk hv hh hk => ?_
  have e : PySem.W.minOf i [j] = if j < i then j else i := by
    show (if decide (j < i) = true then j else i) = _
    by_cases z : j < i
    · rw [if_pos z, if_pos (decide_eq_true z)]
    · rw [if_neg z, if_neg (by rw [decide_eq_false z]; exact Bool.false_ne_true)]
  rw [e] at hh
  obtain ⟨as, hh⟩ := hh
  cases hh
  exact ⟨.int _, H, I.kept hk, ⟨_, rfl⟩, q⟩
theorem cr_maxT (hc : X.calm = true) (hu : X.A.units + 70 < cLine) : CallR X (.builtin "max") (rT2 X.K fun i j => if i < j then j else i) := by
  intro pins s σ H vs us Q I r h
  obtain ⟨a, i, j, rfl, hs, q⟩ := h
  obtain ⟨its, rv, hl, _⟩ := I.tuple hs
  rw [Vals.ref1 r]
  refine PySem.W.max_tuple_datum (α := Int) (x := i) (xs := [j]) (I.ok.hd hc) hl (PySem.W.HoldAll.of_ints (two_of rv)) (by show X.A.units + 1 + 0 < cLine; omega) fun n v h' tk hv hh hk => ?_
  have e : PySem.W.maxOf i [j] = if i < j then j else i := by
    show (if decide (i < j) = true then j else i) = _
    by_cases z : i < j
    · rw [if_pos z, if_pos (decide_eq_true z)]
    · rw [if_neg z, if_neg (by rw [decide_eq_false z]; exact Bool.false_ne_true)]
  rw [e] at hh
  obtain ⟨as, hh⟩ := hh
  cases hh
  exact ⟨.int _, H, I.kept hk, ⟨_, rfl⟩, q⟩
end
end Lr
namespace PySem
/-! ### enumerate(a tuple) -/
set_option maxHeartbeats 2000000 in
theorem en_new (t : Addr) (its : Array Value) : Meets (Builtin.«enumerate.__new__» ⟨[.type "enumerate", .ref t], []⟩) (fun _ R s => s.heap.IsTuple t its ∧
    R (.ok (.ret (.ref (s.heap.push { cls := .type "tuple_iterator", data := .fields #[.ref t, .int 0 0] }).objs.size))) { s with heap := (s.heap.push { cls := .type "tuple_iterator", data := .fields #[.ref t, .int 0 0] }).push { cls := .type "enumerate", data := .fields #[.none, .bool false, .ref s.heap.objs.size, rawInt 0, .none, .none] } }) :=
  .of_wp fun prog w A R s z => by
    obtain ⟨hp, g, d, tk, os⟩ := s
    obtain ⟨ht, z⟩ := z
    have hsub := sub_enumerate
    have go : ∀ {A' : Around} {E : Value → Shared → Prop} {Q : Value → Shared → Prop}, Q (.ref hp.objs.size) ⟨hp.push { cls := .type "tuple_iterator", data := .fields #[.ref t, .int 0 0] }, g, d, tk, os⟩ → wpAny (model prog w) A' (pyIter (.ref t)) Q E ⟨hp, g, d, tk, os⟩ := fun q => wpAny_pyIter_tuple (s := ⟨hp, g, d, tk, os⟩) ht q
    wp_walk using go
    refine wpAny_stack_any fun st => wpAny_pure ?_
    split
    · rename_i c _ _ _ _ _
      cases (c == Value.type "enumerate") <;> (wp_walk using go; exact ⟨_, rfl, z⟩)
    · wp_walk using go; exact ⟨_, rfl, z⟩
theorem en_call {prog : Program} {w : World} {A : Around} {E : Value → Shared → Prop} {s : Shared} {t : Addr} {its : Array Value} {Q : Value → Shared → Prop} (ht : s.heap.IsTuple t its)
    (h : ∀ h', IsEnum h' (s.heap.objs.size + 1) s.heap.objs.size 0 .none → h'.IsTupleIter s.heap.objs.size t 0 → (∀ b o, s.heap.get? b = some o → h'.get? b = some o) → Q (.ref (s.heap.objs.size + 1)) { s with heap := h' }) :
    wpAny (model prog w) A (call (.type "enumerate") [.ref t]) Q E s := by
  refine callType_new F.called_enumerate (by decide) (F.typeCall_enumerate_1 _) (F.newCall_enumerate_1 _) (fun obj => F.args_object_init_2 obj _) F.entry_enumerate_new (en_new t its) ⟨ht, ?_⟩
  have hz : (s.heap.push { cls := .type "tuple_iterator", data := .fields #[.ref t, .int 0 0] }).objs.size = s.heap.objs.size + 1 := Heap.size_push ..
  show _ ∧ _
  rw [hz]
  have e1 := Heap.get?_push_size (s.heap.push { cls := .type "tuple_iterator", data := .fields #[.ref t, .int 0 0] }) (o := { cls := .type "enumerate", data := .fields #[.none, .bool false, .ref s.heap.objs.size, rawInt 0, .none, .none] }) rfl
  rw [hz] at e1
  exact ⟨⟨_, e1, rfl⟩, h _ e1 ⟨_, Heap.get?_push_of_some _ (Heap.get?_push_size _ rfl), rfl, rfl⟩ fun b o x => Heap.get?_push_of_some _ (Heap.get?_push_of_some _ x)⟩
end PySem
namespace En
open PySem PySem.Spec PyProof.Rows L2
theorem apart {h : Heap} {a e it : Addr} {vs : Array Value} {i : Nat} {old : Value} {c : Int} (p : h.IsTuple a vs) (hit : h.IsTupleIter it a i) (he : IsEnum h e it c old) : a ≠ it ∧ a ≠ e := by
  obtain ⟨o, e1, c1, _⟩ := p
  obtain ⟨o2, e2, c2, _⟩ := hit
  refine ⟨fun z => ?_, fun z => ?_⟩
  · rw [z, e2] at e1
    cases e1
    rw [c2] at c1
    simp at c1
  · have he : h.get? e = some _ := he
    rw [z, he] at e1
    cases e1
    simp at c1
/-- the tuple at a, each item in a new pair -/
def ItE (K : PySem.W.Frag) (a : Addr) : It :=
  ⟨fun i H => ∃ (xs : List V) (x : V), SqT K H a xs ∧ xs[i]? = some x, fun i H v H' => ∃ T x, v = .ref T ∧ H T = none ∧ H' = upd H T (.tup [.int (i : Nat), x]) ∧ ∀ xs, SqT K H a xs → xs[i]? = some x, fun i H => ∃ xs : List V, SqT K H a xs ∧ xs.length = i⟩
theorem turn {P : Program} {w : World} {K : PySem.W.Frag} {elts : List Expr} {kk : Nat} {tpos : Pos} (a e it : Addr) :
    Turn P w K (.Tuple elts kk tpos) (ItE K a) [e, it] e (fun i h => (∃ old, IsEnum h e it ((i : Nat) : Int) old) ∧ h.IsTupleIter it a i ∧ e ≠ it) where
  mem := by simp
  obj := fun i h st b hb => by
    obtain ⟨⟨old, he⟩, ⟨o, ho, _, hd⟩, _⟩ := st
    simp only [List.mem_cons, List.not_mem_nil, or_false] at hb
    rcases hb with rfl | rfl
    · exact ⟨_, he, fun v q => nomatch q⟩
    · exact ⟨o, ho, fun v q => by rw [hd] at q; cases q⟩
  keep := fun i h h' st k => let ⟨⟨old, he⟩, hi, ne⟩ := st; ⟨⟨old, k e (by simp) _ he⟩, hi.at fun o q => k it (by simp) o q, ne⟩
  item := by
    intro X hP hw hK hc i pins s σ H E I hf st hg
    subst hP hw hK
    obtain ⟨⟨old, he⟩, hit, ne⟩ := st
    obtain ⟨xs, x, hq, hx⟩ := hg
    obtain ⟨its, rv, p, hz⟩ := I.tuple hq
    have p : s.heap.IsTuple a its.toArray := p
    obtain ⟨u, hu, ru⟩ := rv.get hx
    obtain ⟨n1, n2⟩ := apart p hit he
    have le := Heap.lt_size he
    have li : it < s.heap.objs.size := by obtain ⟨_, q, _⟩ := hit; exact Heap.lt_size q
    have lt : i < its.toArray.size := by
      have := (List.getElem?_eq_some_iff.mp hu).1
      simpa using this
    refine wpAny_pyNext_enum_itemD (Draws.tuple (A := X.A.in1) (I.ok.hd hc) it a n1 its.toArray) he ⟨hit, p⟩ lt ne (by simp [ne, Ne.symm n2]) fun x' h1 tk q1 q2 q3 q4 q5 q6 => ?_
    obtain rfl : x' = u := by
      have q1 : its.toArray[i]? = some x' := q1
      rw [List.getElem?_toArray, hu] at q1
      exact (Option.some.inj q1).symm
    refine ⟨_, rfl, wpAny_letOwnedTupleGo_enum (s := { s with heap := h1, toks := tk + 1 }) q2 fun h2 he2 sb => ?_⟩
    have hT : h2.get? s.heap.objs.size = some { cls := .type "tuple", data := .seq #[.int i tk, x'] } := (sb.2 _ (Nat.ne_of_gt le)).trans q4
    have I1 : Inv X pins σ (upd H s.heap.objs.size (.tup [.int (i : Nat), x])) { s with heap := h2, toks := tk + 1 } :=
      I.turnedNew (ch := [e, it]) (fun b ob hb q => (sb.2 b (fun z => hb (by simp [z]))).trans (q6 b ob (fun z => hb (by simp [z])) (fun z => hb (by simp [z])) q)) hf (Nat.le_refl _)
        ⟨by show 2 ≤ sizeLine; decide, [.int i tk, x'], .cons ⟨_, rfl⟩ (.cons ru .nil), ⟨_, hT, rfl, _, rfl⟩⟩
    refine ⟨.ref s.heap.objs.size, _, I1, rfl, ⟨_, x, rfl, I.hok.fresh (Nat.le_refl _), rfl, fun ys hy => by rw [I.tuple_inj hy hq]; exact hx⟩, ⟨⟨x', ?_⟩, q3.1.at fun o q => (sb.2 it (Ne.symm ne)).trans q, ne⟩, fun b hb => ?_⟩
    · rw [show ((i + 1 : Nat) : Int) = (i : Int) + 1 by omega]
      exact he2
    · have lb : b < s.heap.objs.size := by
        have hb' : b = e ∨ b = it := by simpa using hb
        rcases hb' with z | z <;> rw [z] <;> assumption
      rw [upd_ne (Nat.ne_of_lt lb)]
      exact (hf b hb).1
  done := by
    intro X hP hw hK hc i pins s σ H E I hf st hg
    subst hP hw hK
    obtain ⟨⟨old, he⟩, hit, ne⟩ := st
    obtain ⟨xs, hq, hx⟩ := hg
    obtain ⟨its, rv, p, hz⟩ := I.tuple hq
    have p : s.heap.IsTuple a its.toArray := p
    obtain ⟨n1, n2⟩ := apart p hit he
    obtain ⟨f0, f1, f2, f3, f4, f5⟩ := hf it (by simp)
    have e1 : its.toArray.size = i := by
      have := rv.length
      rw [List.size_toArray]
      omega
    exact wpAny_pyNext_enum_endD (Draws.tuple (A := X.A.in1) (I.ok.hd hc) it a n1 its.toArray) he ⟨by rw [e1]; exact hit, p⟩ fun h1 eb => ⟨rfl, I.turned (t' := s.toks) (fun b o hb q => eb b o hb q) f0 f1 f3 f4 f5⟩
  self := fun A i s Q E st h => let ⟨⟨_, he⟩, _⟩ := st; wpAny_pyIter_enum he h
def iEn (K : PySem.W.Frag) (ta : TA) : TI := fun σ H R => ta σ H fun vs H1 => ∃ a xs, vs = [.ref a] ∧ SqT K H1 a xs ∧ R (ItE K a) H1
end En
theorem L2.pi_enumT {X : L2.Cx} {e : PySem.Expr} {ta : L2.TA} {p pos tpos : PySem.Pos} {elts : List PySem.Expr} {kk : Nat} (hg : L2.Gl X "enumerate") (hm : X.mg "enumerate" = none) (ha : L2.PA X [e] ta) (hs : PySem.starEach [e] X.env = [(false, PySem.eval e X.env)] := by rfl) :
    L2.PI X (.Tuple elts kk tpos) (.Call (.Name "enumerate" p) [e] [] pos) (En.iEn X.K ta) := by
  open PySem PySem.Spec PyProof.Rows L2 in
  refine ⟨fun pins s σ H R I h => Call_ (ld_blt I hg hm boot_enumerate (PyProof.Rows.callWith_type1 (thn (ha.run pos pins s σ H _ I h) fun us s1 ⟨vs, H1, I1, r1, a, xs, ex, hq, q⟩ => ?_) hs rfl))⟩
  subst ex
  cases r1 with
  | cons r rr =>
    cases rr
    cases r
    obtain ⟨its, rv, pt, hz⟩ := I1.tuple hq
    refine PySem.en_call (its := its.toArray) pt fun h1 he hit hk => PySem.wpAny_pyIter_enum he ?_
    refine ⟨s1.heap.objs.size + 1, [s1.heap.objs.size + 1, s1.heap.objs.size], _, _, H1, rfl, I1.kept (t' := s1.toks) hk, En.turn a (s1.heap.objs.size + 1) s1.heap.objs.size, ⟨⟨.none, he⟩, hit, Nat.succ_ne_self _⟩, fun b hb => ?_, q⟩
    have le : s1.heap.objs.size ≤ b := by
      have hb' : b = s1.heap.objs.size + 1 ∨ b = s1.heap.objs.size := by simpa using hb
      rcases hb' with z | z <;> rw [z]
      · exact Nat.le_succ _
      · exact Nat.le_refl _
    exact I1.fpOk le (I1.hok.fresh le)
namespace En
open PySem PySem.Spec PyProof.Rows L2
theorem for_en {K : PySem.W.Frag} {a : Addr} {xs : List V} {g : TG} {tb : TS} {D : Ends} {σ : L2.St} {H : Hp} (Pv : Nat → L2.St → Hp → Prop) (h0 : Pv 0 σ H) (hl : ∀ i σ H, i ≤ xs.length → Pv i σ H → SqT K H a xs)
    (hs : ∀ i x σ H T, xs[i]? = some x → Pv i σ H → H T = none → g (.ref T) σ (upd H T (.tup [.int (i : Nat), x])) fun σ2 H2 => tb { D with nx := Pv (i + 1), ct := Pv (i + 1), bk := D.nx } σ2 H2) (hd : ∀ σ H, Pv xs.length σ H → D.nx σ H) :
    ∃ W : Nat → Nat → L2.St → Hp → Prop, (∃ m, W 0 m σ H) ∧ ∀ i m σ H, W i m σ H →
      ((ItE K a).stop i H ∧ D.nx σ H) ∨ ((ItE K a).go i H ∧ ∃ N : L2.St → Hp → Prop, (∀ σ' H', N σ' H' → ∃ m', m' < m ∧ W (i + 1) m' σ' H') ∧ ∀ x H', (ItE K a).yld i H x H' → g x σ H' fun σ2 H2 => tb { D with nx := N, ct := N, bk := D.nx } σ2 H2) := by
  refine ⟨fun i m σ H => i + m = xs.length ∧ Pv i σ H, ⟨xs.length, Nat.zero_add _, h0⟩, fun i m σ H ⟨e, p⟩ => ?_⟩
  have sq := hl i σ H (by omega) p
  cases m with
  | zero =>
    obtain rfl : i = xs.length := by omega
    exact .inl ⟨⟨xs, sq, rfl⟩, hd σ H p⟩
  | succ m =>
    have hx := List.getElem?_eq_getElem (show i < xs.length by omega)
    refine .inr ⟨⟨xs, _, sq, hx⟩, Pv (i + 1), fun σ' H' q => ⟨m, Nat.lt_succ_self m, by omega, q⟩, ?_⟩
    rintro y H' ⟨T, x, rfl, nT, rfl, hy⟩
    exact hs i x σ H T (hy xs sq) p nT
theorem lc_en {K : PySem.W.Frag} {a : Addr} {xs : List V} {g : TG} {tt : TT} {te : TE} {vs : List Nat} {σ : L2.St} {H1 : Hp} {D : Addr} {Qd : Hp → Prop} (Pv : Nat → Hp → Prop) (h0 : Pv 0 (upd H1 D (.lst []))) (hl : ∀ i H, i ≤ xs.length → Pv i H → SqT K H a xs)
    (hs : ∀ i x H T, xs[i]? = some x → Pv i H → H T = none → g (.ref T) (wipe σ vs) (upd H T (.tup [.int (i : Nat), x])) fun σ2 H2 => wipe σ2 vs = wipe σ vs ∧ tt σ2 H2 fun b H3 => if b = true then te σ2 H3 fun y H4 => ∃ acc, H4 D = some (.lst acc) ∧ acc.length < sizeLine ∧ Pv (i + 1) (upd H4 D (.lst (acc ++ [y]))) else Pv (i + 1) H3) (hd : ∀ H, Pv xs.length H → Qd H) :
    ∃ W : Nat → Nat → Hp → Prop, (∃ m, W 0 m (upd H1 D (.lst []))) ∧ ∀ i m H, W i m H →
      ((ItE K a).stop i H ∧ Qd H) ∨ ((ItE K a).go i H ∧ ∃ Nx : Hp → Prop, (∀ H', Nx H' → ∃ m', m' < m ∧ W (i + 1) m' H') ∧ ∀ x H', (ItE K a).yld i H x H' → g x (wipe σ vs) H' fun σ2 H2 => wipe σ2 vs = wipe σ vs ∧ tt σ2 H2 fun b H3 =>
        if b = true then te σ2 H3 fun y H4 => ∃ acc, H4 D = some (.lst acc) ∧ acc.length < sizeLine ∧ Nx (upd H4 D (.lst (acc ++ [y]))) else Nx H3) := by
  refine ⟨fun i m H => i + m = xs.length ∧ Pv i H, ⟨xs.length, Nat.zero_add _, h0⟩, fun i m H ⟨e, p⟩ => ?_⟩
  have sq := hl i H (by omega) p
  cases m with
  | zero =>
    obtain rfl : i = xs.length := by omega
    exact .inl ⟨⟨xs, sq, rfl⟩, hd H p⟩
  | succ m =>
    have hx := List.getElem?_eq_getElem (show i < xs.length by omega)
    refine .inr ⟨⟨xs, _, sq, hx⟩, Pv (i + 1), fun H' q => ⟨m, Nat.lt_succ_self m, by omega, q⟩, ?_⟩
    rintro y H' ⟨T, x, rfl, nT, rfl, hy⟩
    exact hs i x H T (hy xs sq) p nT
end En
namespace L2
open PySem PySem.Spec PyProof.Rows
theorem pg_tupB {X : Cx} {K : PySem.W.Frag} {es : List Expr} {k : Nat} {t : TGs} {n : Nat} {pos : Pos} (hK : X.K = K) (hc : X.calm = true) (h : PGs X es t) (hn : (assignEach es X.env).length = n := by rfl) (hst : (assignEach es X.env).findIdx? (·.1) = none := by rfl) : PG X (.Tuple es k pos) (gTup K n t) := by
  subst hK
  exact pg_tup hc h hn hst
end L2
namespace Sl
end Sl
namespace En
end En
namespace Wd
open PySem PySem.Spec PyProof.Rows L2 GxR Nw Dr Kp Se Sl En
structure Zw (mg : Str → Option Value) : Prop where
  z_len : mg "len" = none
  z_all : mg "all" = none
  z_tuple : mg "tuple" = none
  z_range : mg "range" = none
  z_enumerate : mg "enumerate" = none
abbrev sSst : Stmt := topS 45
abbrev nSst : List Str := ["feed", "k"]
theorem scSst : FnScope nSst ["feed"] (defScope sSst) := ⟨rfl, rfl, rfl, by decide +kernel, rfl, by decide +kernel, by decide +kernel⟩
abbrev sFai : Stmt := topS 29
abbrev nFai : List Str := ["book", "setting", "number", "claim"]
theorem scFai : FnScope nFai ["book", "setting"] (defScope sFai) := ⟨rfl, rfl, rfl, by decide +kernel, rfl, by decide +kernel, by decide +kernel⟩
theorem ints_flat (cs : List Int) : (cs.map V.int).all flatV = true := by
  rw [List.all_map, List.all_eq_true]
  exact fun _ _ => rfl
theorem at_int {ks : List Int} {i : Nat} {x : V} (hx : (ks.map V.int)[i]? = some x) : ∃ z, ks[i]? = some z ∧ x = V.int z := by
  rw [List.getElem?_map] at hx
  cases e : ks[i]? with
  | none =>
    rw [e] at hx
    cases hx
  | some z =>
    rw [e] at hx
    exact ⟨z, rfl, (Option.some.inj hx).symm⟩
/-- each of cs is one of ds -/
def wideB (cs ds : List Int) : Bool := cs.all fun s => inV (.int s) (ds.map V.int)
theorem take_all {α : Type} {f : α → Bool} {l : List α} {i : Nat} {x : α} (h : l[i]? = some x) (p : (l.take i).all f = true) : (f x = false → l.all f = false) ∧ (f x = true → (l.take (i + 1)).all f = true) := by
  refine ⟨fun z => List.all_eq_false.mpr ⟨x, List.mem_of_getElem? h, by rw [z]; decide⟩, fun z => ?_⟩
  rw [List.take_add_one, h, List.all_append, p]
  show (f x && true) = true
  rw [z]
  rfl
section
variable {P : Program} {w : World} {K : PySem.W.Frag} {mg : Str → Option Value} {base : Heap}
def spSst : Sp := fun vs H Q _ => ∃ (f c : Addr) (B : Nat), vs = [.ref f] ∧ Feed H f c B ∧ B ≤ 2 ^ 58 ∧ ∀ (bs : List Bool) (p : Addr) (H' : Hp), Feed H' f c (B + 8) → Ke (· = f) H H' → H' p = some (.tup (bs.map V.bl)) → bs.length = 8 → Q (.ref p) H'
theorem ok_sst {f fD : Addr} {fd fdD : FuncData} {k : Nat} (F : Fun K "_law_ssetting" "_law_ssetting" sSst f fd) (T : Zw mg) (FD : Fun K "_law_sdraw" "_law_sdraw" sDrw fD fdD) (bD : Binds K fdD ["feed", "many"] []) (gD : mg "_law_sdraw" = some (.ref fD)) (GD : FnOk P w K mg base CX0 2 fD fdD ["feed", "many"] spDrw) :
    FnOk P w K mg base CX0 (k + 3) f fd ["feed"] spSst := by
  refine F.ok scSst (fun vs H Q E h => ?_) (fun cdv A outer s H vs Q E hr h => ?_)
  · obtain ⟨f, c, B, rfl, _⟩ := h
    rfl
  · obtain ⟨f, c, B, rfl, hF, hB, q⟩ := h
    have hr2 : Room 2 _ := hr.mono (by omega)
    refine ⟨_, (pss_one (ps_ret (pe_callTy call_tuple_ofN (by rfl) T.z_tuple (by decide +kernel) (pa_cons (pe_lc (own := [("k", 1)]) (g := (gName 1)) (tt := tYes) rfl scSst.nd (pi_range1 (by rfl) T.z_range (pa_cons pe_int pa_nil)) (blkOk_by (N := nSst) (sc := defScope sSst) (by decide +kernel)) (fun _ _ _ _ _ => (pg_name (i := 1) scSst.nd rfl (.inl rfl))) (fun _ _ _ _ _ => pts_nil) (fun _ _ _ _ _ => (pe_cmpR op_eq (pe_call GD hr2 (by rfl) gD FD.kp bD .nil pass0 (pa_cons (pv 0) (pa_cons pe_int pa_nil))) pe_int (nomark _)))) pa_nil)))), ?_⟩
    refine ⟨8, rfl, by decide, by decide, fun D nD => ?_⟩
    have nDf : D ≠ f := hF.nf nD
    have nDc : D ≠ c := hF.nc nD
    refine lc_range (Pv := fun j H' => ∃ bs : List Bool, Feed H' f c (B + j) ∧ Ke (· = f) H H' ∧ H' D = some (.lst (bs.map V.bl)) ∧ bs.length = j) ?_ ?_ ?_
    · exact ⟨[], hF.same (same_new nD), .same (same_new nD), upd_same, rfl⟩
    · rintro j H1 hj ⟨bs, F1, k1, hD, lb⟩
      have hj : j < 8 := hj
      refine ⟨rfl, _, rfl, f, c, 2, _, rfl, by decide, by decide, F1, by omega, fun d H2 d0 d1 F2 b2 => ?_⟩
      have hD2 : H2 D = some (.lst (bs.map V.bl)) := (b2 D nDf).trans hD
      refine ⟨rfl, _, hD2, by rw [List.length_map]; exact small1000 (by omega), bs ++ [decide (V.int d = V.int 0)], F2.upd nDf nDc, (k1.trans (.but F1 b2)).upd nD, ?_, by rw [List.length_append, lb]; rfl⟩
      rw [upd_same, List.map_append]
      rfl
    · rintro H1 ⟨bs, F1, k1, hD, lb⟩
      refine ⟨D, _, rfl, .of hD, fun p H2 np s2 hp _ => ?_⟩
      exact q bs p H2 (F1.same s2) (k1.trans (.same s2)) hp lb
/-- the numbers below i of the claims that don't hold -/
def fails (bs : List Bool) (css : List (List Int)) (i : Nat) : List Int := ((List.range i).filter fun j => !((css.getD j []).any (sh bs))).map fun j : Nat => (j : Int)
theorem fails_succ {bs : List Bool} {css : List (List Int)} {i : Nat} {cs : List Int} (h : css[i]? = some cs) : fails bs css (i + 1) = fails bs css i ++ (if (!cs.any (sh bs)) = true then [(i : Int)] else []) := by
  have e : css.getD i [] = cs := by rw [List.getD_eq_getElem?_getD, h]; rfl
  unfold fails
  rw [List.range_succ, List.filter_append, List.map_append]
  congr 1
  cases q : (!cs.any (sh bs)) with
  | true => rw [List.filter_cons_of_pos (by rw [e]; exact q)]; rfl
  | false => rw [List.filter_cons_of_neg (by rw [e, q]; decide)]; rfl
theorem fails_len (bs : List Bool) (css : List (List Int)) (i : Nat) : (fails bs css i).length ≤ i := by
  unfold fails
  rw [List.length_map]
  exact Nat.le_trans (List.length_filter_le _ _) (by rw [List.length_range]; exact Nat.le_refl _)
theorem fails_lt {bs : List Bool} {css : List (List Int)} {i : Nat} {n : Int} (h : n ∈ fails bs css i) : 0 ≤ n ∧ n < i := by
  obtain ⟨j, hj, rfl⟩ := List.mem_map.mp h
  have := List.mem_range.mp (List.mem_filter.mp hj).1
  omega
def spFai (Ph : Addr) : Sp := fun vs H Q _ => ∃ (v u : V) (css : List (List Int)) (bs : List Bool), vs = [v, u] ∧ Bk H v css ∧ TupB H u bs ∧ bs.length = 8 ∧ (∀ cs ∈ css, Says cs) ∧ css.length ≤ 100 ∧ TabG H Ph ∧ ∀ p H', H p = none → Ke Nof H H' → H' p = some (.lst ((fails bs css css.length).map V.int)) → Q (.ref p) H'
theorem ok_fai {f fH Ph : Addr} {fd fdH : FuncData} {k : Nat} (F : Fun K "failing" "failing" sFai f fd) (T : Zw mg) (FH : Fun K "holds" "holds" sHol fH fdH) (bH : Binds K fdH ["claim", "setting"] []) (gH : mg "holds" = some (.ref fH)) (GH : FnOk P w K mg base CX0 3 fH fdH ["claim", "setting"] (spHol Ph)) :
    FnOk P w K mg base CX0 (k + 4) f fd ["book", "setting"] (spFai Ph) := by
  refine F.ok scFai (fun vs H Q E h => ?_) (fun cdv A outer s H vs Q E hr h => ?_)
  · obtain ⟨v, u, css, bs, rfl, _⟩ := h
    rfl
  · obtain ⟨v, u, css, bs, rfl, ⟨a, vs, rfl, ha, lv, hv⟩, hb, l8, sy, lc, tg, q⟩ := h
    have hr3 : Room 3 _ := hr.mono (by omega)
    refine ⟨_, (pss_one (ps_ret (pe_lc (own := [("number", 2), ("claim", 3)]) (g := _)  rfl scFai.nd (pi_enumT (by rfl) T.z_enumerate (pa_cons (pv 0) pa_nil)) (blkOk_by (N := nFai) (sc := defScope sFai) (by decide +kernel)) (fun _ _ _ _ _ => (pg_tupB (K := K) (n := 2) rfl rfl (pgs_cons (pg_name (i := 2) scFai.nd rfl (.inl rfl)) (pgs_cons (pg_name (i := 3) scFai.nd rfl (.inl rfl)) pgs_nil)))) (fun _ _ _ _ _ => (pts_one (pt_not (pt_val (pe_call GH hr3 (by rfl) gH FH.kp bH .nil pass0 (pa_cons (pv 3) (pa_cons (pv 1) pa_nil))))))) (fun _ _ _ _ _ => (pv 2))))), ?_⟩
    refine ⟨_, rfl, a, vs, rfl, .of ha, fun D nD => ?_⟩
    refine lc_en (xs := vs) (Pv := fun i H' => Ke Nof H H' ∧ H' D = some (.lst ((fails bs css i).map V.int))) ⟨.same (same_new nD), upd_same⟩ (fun i H' _ p => .of (p.1.tups _ _ ha)) ?_ ?_
    · rintro i x H1 T hx ⟨k1, hD⟩ nT
      have li : i < css.length := by
        have := (List.getElem?_eq_some_iff.mp hx).1
        omega
      have hz := List.getElem?_eq_getElem li
      have ti := hv i x _ hx hz
      have sz := sy _ (List.mem_of_getElem? hz)
      have fs := fails_succ (bs := bs) hz
      have fl := fails_len bs css i
      generalize css[i] = cs at ti sz fs
      have k2 : Ke Nof H (upd H1 T (.tup [.int (i : Nat), x])) := k1.trans (.same (same_new nT))
      have hD2 : (upd H1 T (.tup [.int (i : Nat), x])) D = some (.lst ((fails bs css i).map V.int)) := same_new nT _ _ hD
      refine ⟨T, _, rfl, .of upd_same, rfl, _, _, rfl, _, _, rfl, rfl, rfl, _, rfl, _, rfl, x, u, cs, bs, rfl, ti.ke k2, hb.ke k2, l8, sz, k2.tabs _ tg, fun H3 k3 => ⟨_, rfl, ?_⟩⟩
      have hD3 := k3.lst hD2 fun z => z
      refine ite2 (fun z => ?_) (fun z => ?_)
      · refine ⟨_, rfl, _, hD3, by rw [List.length_map]; exact small1000 (by omega), (k2.trans k3).upd nD, ?_⟩
        rw [upd_same, fs, if_pos z, List.map_append]
        rfl
      · refine ⟨k2.trans k3, ?_⟩
        rw [fs, if_neg z, List.append_nil]
        exact hD3
    · rintro H1 ⟨k1, hD⟩
      rw [lv] at hD
      exact q D H1 nD k1 hD
end
end Wd
namespace Lp
open PySem PySem.Spec PyProof.Rows L2 GxR Nw Dr Kp Se Ct Lr
structure Zp (mg : Str → Option Value) : Prop where
  z_len : mg "len" = none
  z_isinstance : mg "isinstance" = none
  z_tuple : mg "tuple" = none
  z_list : mg "list" = none
  z_max : mg "max" = none
theorem TupI.wr {H : Hp} {D : Addr} {x : V} {ns : List Int} {ys : List V} {o : HO} (h : TupI H x ns) (hD : H D = some (.lst ys)) : TupI (upd H D o) x ns := by
  obtain ⟨a, e, h⟩ := h
  refine ⟨a, e, ?_⟩
  rw [upd_ne (fun z => by rw [z, hD] at h; cases h)]
  exact h
theorem RowAt.wr {H : Hp} {D : Addr} {x : V} {r : Rw} {ys : List V} {o : HO} (h : RowAt H x r) (hD : H D = some (.lst ys)) : RowAt (upd H D o) x r := by
  obtain ⟨a, e, h⟩ := h
  refine ⟨a, e, ?_⟩
  rw [upd_ne (fun z => by rw [z, hD] at h; cases h)]
  exact h
theorem cl_snoc {H : Hp} {D : Addr} {vs : List V} {cls : List (List Int)} {x : V} {c : List Int} (hD : H D = some (.lst vs)) (h : All2 (TupI H) vs cls) (hx : TupI H x c) : ClL (upd H D (.lst (vs ++ [x]))) D (cls ++ [c]) :=
  ⟨_, upd_same, (h.imp fun _ _ r => TupI.wr r hD).snoc (TupI.wr hx hD)⟩
theorem take_snoc {α : Type} {l : List α} {i : Nat} {x : α} (h : l[i]? = some x) : l.take (i + 1) = l.take i ++ [x] := by
  rw [List.take_add_one, h]
  rfl
theorem cut_all {xs : List V} {n : Nat} (h : xs.length ≤ n) : cutV xs none (some (n : Int)) = xs := by
  unfold cutV
  rw [HT.sIx_none, HT.sIx_nat, List.drop_zero, Nat.sub_zero, Nat.min_eq_right h, List.take_length]
section
variable {P : Program} {w : World} {K : PySem.W.Frag} {mg : Str → Option Value} {base : Heap}
abbrev sNum : Stmt := topS 17
theorem scNum : FnScope ["thing", "many"] ["thing", "many"] (defScope sNum) := ⟨rfl, rfl, rfl, by decide +kernel, rfl, by decide +kernel, by decide +kernel⟩
def spNum : Sp := fun vs H Q _ => ∃ n m : Int, vs = [.int n, .int m] ∧ Q (.bl (decide (0 ≤ n) && decide (n < m))) H
theorem ok_num {f fW : Addr} {fd fdW : FuncData} {k : Nat} (F : Fun K "is_number_of" "is_number_of" sNum f fd) (FW : Fun K "is_whole" "is_whole" sWho fW fdW) (bW : Binds K fdW ["thing"] []) (gW : mg "is_whole" = some (.ref fW)) (GW : FnOk P w K mg base CX0 1 fW fdW ["thing"] spWho) :
    FnOk P w K mg base CX0 (k + 2) f fd ["thing", "many"] spNum := by
  refine F.ok scNum (fun vs H Q E h => ?_) (fun cdv A outer s H vs Q E hr h => ?_)
  · obtain ⟨n, m, rfl, _⟩ := h
    rfl
  · obtain ⟨n, m, rfl, q⟩ := h
    have hr1 : Room 1 _ := hr.mono (by omega)
    refine ⟨_, (pss_one (ps_ret (pe_and (pe_call GW hr1 (by rfl) gW FW.kp bW .nil pass0 (pa_cons (pv 0) pa_nil)) (pe_one (pe_chain op_le op_lt pe_int (pv 0) (pv 1)))))), ?_⟩
    refine ⟨_, rfl, n, rfl, _, rfl, ?_⟩
    refine ⟨_, rfl, 0, _, rfl, rfl, decide (0 ≤ n), rfl, ?_⟩
    cases e1 : decide (0 ≤ n) with
    | false =>
      rw [e1] at q
      exact q
    | true =>
      rw [e1] at q
      exact ⟨_, rfl, _, _, rfl, rfl, q⟩
abbrev sRow : Stmt := topS 18
theorem scRow : FnScope ["book", "claims", "row"] ["book", "claims", "row"] (defScope sRow) := ⟨rfl, rfl, rfl, by decide +kernel, rfl, by decide +kernel, by decide +kernel⟩
def spRow (Po : Addr) : Sp := fun vs H Q _ => ∃ (b v : V) (L : Addr) (css cls : List (List Int)) (r : Rw), vs = [b, .ref L, v] ∧ Bk H b css ∧ ClL H L cls ∧ RowAt H v r ∧ (∀ c ∈ css, IsCl c) ∧ (∀ c ∈ cls, IsCl c) ∧ TabG H Po ∧
  (∀ H', Ke Nof H H' → (∀ c, ¬ RowCl css cls r c) → Q .non H') ∧ ∀ (c : List Int) (p : Addr) (H' : Hp), Ke Nof H H' → RowCl css cls r c → H' p = some (.tup (c.map V.int)) → Q (.ref p) H'
theorem num_at {α : Type} {l : List α} {n : Nat} (h : (decide ((0 : Int) ≤ (n : Int)) && decide ((n : Int) < (l.length : Int))) = true) : n < l.length := by
  rw [Bool.and_eq_true] at h
  have := of_decide_eq_true h.2
  omega
theorem num_no {α : Type} {l : List α} {n : Nat} (h : ¬ (decide ((0 : Int) ≤ (n : Int)) && decide ((n : Int) < (l.length : Int))) = true) : l.length ≤ n := by
  rw [Bool.and_eq_true] at h
  by_cases z : n < l.length
  · exact absurd ⟨decide_eq_true (by omega), decide_eq_true (by omega)⟩ h
  · omega
theorem ok_row {f fN fC Po : Addr} {fd fdN fdC : FuncData} {k : Nat} (F : Fun K "claim_of_row" "claim_of_row" sRow f fd) (T : Zp mg) (FN : Fun K "is_number_of" "is_number_of" sNum fN fdN) (bN : Binds K fdN ["thing", "many"] []) (gN : mg "is_number_of" = some (.ref fN)) (GN : FnOk P w K mg base CX0 2 fN fdN ["thing", "many"] spNum)
    (FC : Fun K "cut_or_none" "cut_or_none" sCon fC fdC) (bC : Binds K fdC ["one", "other", "k"] []) (gC : mg "cut_or_none" = some (.ref fC)) (GC : FnOk P w K mg base CX0 4 fC fdC ["one", "other", "k"] (spCon Po)) :
    FnOk P w K mg base CX0 (k + 5) f fd ["book", "claims", "row"] (spRow Po) := by
  refine F.ok scRow (fun vs H Q E h => ?_) (fun cdv A outer s H vs Q E hr h => ?_)
  · obtain ⟨b, v, L, css, cls, r, rfl, _⟩ := h
    rfl
  · obtain ⟨b, v, L, css, cls, r, rfl, hb, ⟨lvs, hL, aL⟩, ⟨a, rfl, ha⟩, ib, ic, tg, q1, q2⟩ := h
    have hr2 : Room 2 _ := hr.mono (by omega)
    have hr4 : Room 4 _ := hr.mono (by omega)
    refine ⟨_, (pss_cons (ps_if (pt_not (pt_val (pe_callB call_isi (by rfl) T.z_isinstance (by decide +kernel) (pa_cons (pv 2) (pa_cons (pe_bltn (v := .ty "tuple") (u := .type "tuple") (by rfl) T.z_tuple (by decide +kernel) rfl) pa_nil))))) pss_never pss_nil)
      (pss_cons (ps_if (PW.pt (pw_and (pt_cmpR op_eq (pe_callB call_len_seq (by rfl) T.z_len (by decide +kernel) (pa_cons (pv 2) pa_nil)) pe_int (nomark _)) (pw_and1 (pt_cmpR op_eq (pe_ix ix_tup (pv 2) pe_int (fun _ _ => rfl)) pe_str (nomark _))))) (pss_one (ps_ret (pe_ifExp (pt_val (pe_call GN hr2 (by rfl) gN FN.kp bN .nil pass0 (pa_cons (pe_ix ix_tup (pv 2) pe_int (fun _ _ => rfl)) (pa_cons (pe_callB call_len_seq (by rfl) T.z_len (by decide +kernel) (pa_cons (pv 0) pa_nil)) pa_nil)))) (pe_ix ix_tup (pv 0) (pe_ix ix_tup (pv 2) pe_int (fun _ _ => rfl)) (fun _ _ => rfl)) pe_non))) pss_nil)
      (pss_cons (ps_if (PW.pt (pw_and (pt_cmpR op_eq (pe_callB call_len_seq (by rfl) T.z_len (by decide +kernel) (pa_cons (pv 2) pa_nil)) pe_int (nomark _)) (pw_and1 (pt_cmpR op_eq (pe_ix ix_tup (pv 2) pe_int (fun _ _ => rfl)) pe_str (nomark _))))) (pss_one (ps_if (PW.pt (pw_and (pt_val (pe_call GN hr2 (by rfl) gN FN.kp bN .nil pass0 (pa_cons (pe_ix ix_tup (pv 2) pe_int (fun _ _ => rfl)) (pa_cons (pe_callB call_len_seq (by rfl) T.z_len (by decide +kernel) (pa_cons (pv 1) pa_nil)) pa_nil)))) (pw_and1 (pt_val (pe_call GN hr2 (by rfl) gN FN.kp bN .nil pass0 (pa_cons (pe_ix ix_tup (pv 2) pe_int (fun _ _ => rfl)) (pa_cons (pe_callB call_len_seq (by rfl) T.z_len (by decide +kernel) (pa_cons (pv 1) pa_nil)) pa_nil))))))) (pss_one (ps_ret (pe_call GC hr4 (by rfl) gC FC.kp bC .nil pass0 (pa_cons (pe_ix ix_list (pv 1) (pe_ix ix_tup (pv 2) pe_int (fun _ _ => rfl)) (fun _ _ => rfl)) (pa_cons (pe_ix ix_list (pv 1) (pe_ix ix_tup (pv 2) pe_int (fun _ _ => rfl)) (fun _ _ => rfl)) (pa_cons (pe_ix ix_tup (pv 2) pe_int (fun _ _ => rfl)) pa_nil)))))) pss_nil)) pss_nil)
      (pss_one (ps_ret pe_non))))), ?_⟩
    obtain ⟨b, bvs, rfl, hbt, aB⟩ := bk_all hb
    refine ⟨_, rfl, .ref a, .ty "tuple", .type "tuple", .type "tuple", true, rfl, .ty _, .base (.tup ha), kit_ty (by decide +kernel), _, rfl, ?_⟩
    cases r with
    | book n =>
      refine ⟨_, rfl, a, _, rfl, .inr (.of ha), rfl, true, rfl, ?_⟩
      refine ⟨_, rfl, a, _, 0, .str "book", rfl, rfl, .of ha, rfl, rfl, true, by simp, ?_⟩
      refine ⟨_, rfl, a, _, 1, .int (n : Nat), rfl, rfl, .of ha, rfl, _, rfl, b, _, rfl, .inr (.of hbt), _, _, rfl, _, rfl, ite2 (fun y => ?_) (fun y => ?_)⟩
      · have lt := num_at y
        obtain ⟨c, hc, p, e, hp⟩ := aB.at (List.getElem?_eq_getElem lt)
        refine ⟨_, rfl, _, rfl, a, _, 1, .int (n : Nat), rfl, rfl, .of ha, rfl, b, bvs, _, .ref p, rfl, rfl, .of hbt, at_of (j := n) rfl (by rw [List.getElem?_eq_getElem lt, e]), ?_⟩
        exact q2 c p H (.refl _ _) hc hp
      · have ge := num_no y
        refine q1 H (.refl _ _) fun c hc => ?_
        have := (List.getElem?_eq_some_iff.mp hc).1
        have := aB.1
        omega
    | cut i j k =>
      refine ⟨_, rfl, a, _, rfl, .inr (.of ha), rfl, false, rfl, ?_⟩
      refine ⟨_, rfl, a, _, rfl, .inr (.of ha), rfl, true, rfl, ?_⟩
      refine ⟨_, rfl, a, _, 0, .str "cut", rfl, rfl, .of ha, rfl, rfl, true, by simp, ?_⟩
      refine ⟨_, rfl, a, _, 1, .int (i : Nat), rfl, rfl, .of ha, rfl, _, rfl, L, _, rfl, .inl (.of hL), _, _, rfl, _, rfl, ite2 (fun y => ?_) (fun y => ?_)⟩
      · have li := num_at y
        refine ⟨_, rfl, a, _, 2, .int (j : Nat), rfl, rfl, .of ha, rfl, _, rfl, L, _, rfl, .inl (.of hL), _, _, rfl, _, rfl, ite2 (fun y => ?_) (fun y => ?_)⟩
        · have lj := num_at y
          obtain ⟨ci, hci, ti⟩ := aL.at (List.getElem?_eq_getElem li)
          obtain ⟨cj, hcj, tj⟩ := aL.at (List.getElem?_eq_getElem lj)
          have i1 := ic ci (List.mem_of_getElem? hci)
          have i2 := ic cj (List.mem_of_getElem? hcj)
          have z1 := i1.len
          have z2 := i2.len
          refine ⟨_, rfl, _, rfl, a, _, 1, .int (i : Nat), rfl, rfl, .of ha, rfl, L, lvs, _, lvs[i], rfl, rfl, .of hL, at_of (j := i) rfl (List.getElem?_eq_getElem li), ?_⟩
          refine ⟨_, rfl, _, rfl, a, _, 2, .int (j : Nat), rfl, rfl, .of ha, rfl, L, lvs, _, lvs[j], rfl, rfl, .of hL, at_of (j := j) rfl (List.getElem?_eq_getElem lj), ?_⟩
          refine ⟨_, rfl, a, _, 3, .int k, rfl, rfl, .of ha, rfl, lvs[i], lvs[j], k, ci, cj, rfl, ti, tj, by omega, by omega, tg, fun H' ke no => ?_, fun ns p H' ke m o up me hp => ?_⟩
          · refine q1 H' ke fun c hc => ?_
            obtain ⟨x, y', h1, h2, h3⟩ := hc
            cases hci.symm.trans h1
            cases hcj.symm.trans h2
            exact h3.no (nocome_of i1 i2 no)
          · exact q2 ns p H' ke ⟨ci, cj, hci, hcj, comes_of i1 i2 m o up me⟩ hp
        · have ge := num_no y
          exact q1 H (.refl _ _) fun c hc => by
            have := hc.parts
            have := aL.1
            omega
      · have ge := num_no y
        exact q1 H (.refl _ _) fun c hc => by
          have := hc.parts
          have := aL.1
          omega
/-! ### ladders -/
/-- a book and a ladder by it -/
structure BL (H : Hp) (b : V) (L : Addr) (css : List (List Int)) (rows : List Rw) (cls : List (List Int)) : Prop where
  bk : Bk H b css
  rw : RwL H L rows
  ld : Lad css rows cls
  ib : ∀ c ∈ css, IsCl c
  le : rows.length ≤ 200
theorem BL.ke {F : Addr → Prop} {H H' : Hp} {b : V} {L : Addr} {css cls : List (List Int)} {rows : List Rw} (x : BL H b L css rows cls) (k : Ke F H H') (n : ¬ F L) : BL H' b L css rows cls := ⟨x.bk.ke k, x.rw.ke k n, x.ld, x.ib, x.le⟩
theorem BL.ic {H : Hp} {b : V} {L : Addr} {css cls : List (List Int)} {rows : List Rw} (x : BL H b L css rows cls) : ∀ c ∈ cls, IsCl c := x.ld.isCl x.ib
abbrev sAhe : Stmt := topS 19
theorem scAhe : FnScope ["book", "thing", "claims", "row", "claim"] ["book", "thing"] (defScope sAhe) := ⟨rfl, rfl, rfl, by decide +kernel, rfl, by decide +kernel, by decide +kernel⟩
def spAhe (Po : Addr) : Sp := fun vs H Q _ => ∃ (b : V) (L : Addr) (css cls : List (List Int)) (rows : List Rw), vs = [b, .ref L] ∧ BL H b L css rows cls ∧ TabG H Po ∧ ∀ p H', H p = none → Ke Nof H H' → ClL H' p cls → Q (.ref p) H'
theorem ok_ahe {f fR Po : Addr} {fd fdR : FuncData} {k : Nat} {tk : Tok} (F : Fun K "claims_ahead_of_fault" "claims_ahead_of_fault" sAhe f fd) (T : Zp mg) (M2 : mg "MOST_ROWS" = some (.int 200 tk)) (FR : Fun K "claim_of_row" "claim_of_row" sRow fR fdR) (bR : Binds K fdR ["book", "claims", "row"] []) (gR : mg "claim_of_row" = some (.ref fR)) (GR : FnOk P w K mg base CX0 5 fR fdR ["book", "claims", "row"] (spRow Po)) :
    FnOk P w K mg base CX0 (k + 6) f fd ["book", "thing"] (spAhe Po) := by
  refine F.ok scAhe (fun vs H Q E h => ?_) (fun cdv A outer s H vs Q E hr h => ?_)
  · obtain ⟨b, L, css, cls, rows, rfl, _⟩ := h
    rfl
  · obtain ⟨b, L, css, cls, rows, rfl, x, tg, q⟩ := h
    have hr5 : Room 5 _ := hr.mono (by omega)
    refine ⟨_, (Evl.pss_cut (ps_set (i := 2) scAhe.nd rfl (.inl rfl) (pe_lstN pa_nil))
      (pss_cons (ps_if (pt_not (pt_val (pe_callB call_isi (by rfl) T.z_isinstance (by decide +kernel) (pa_cons (pv 1) (pa_cons (pe_bltn (v := .ty "list") (u := .type "list") (by rfl) T.z_list (by decide +kernel) rfl) pa_nil))))) pss_never pss_nil)
      (pss_cons (ps_for PassesOwn.never rfl (pi_list (pe_slice sl_listN (pv 1) po_none (po_some (pe_glob (v := .int 200) rfl M2 ⟨_, rfl⟩)))) (pg_name (i := 3) scAhe.nd rfl (.inl rfl)) (pss_cons (ps_set (i := 4) scAhe.nd rfl (.inl rfl) (pe_call GR hr5 (by rfl) gR FR.kp bR .nil pass0 (pa_cons (pv 0) (pa_cons (pv 2) (pa_cons (pv 3) pa_nil)))))
      (pss_cons (ps_if (pt_cmpR op_isN (pv 4) pe_non (nomark _)) pss_never pss_nil)
      (pss_one (ps_expr (pe_bm PySem.F.plainAttrs_list PySem.F.slot_list_append PySem.F.type_list_append mt_append (pv 2) (pa_cons (pv 4) pa_nil)))))))
      (pss_one (ps_ret (pv 2)))))), ?_⟩
    refine Evl.q_cut (M := fun σ' H' => ∃ D : Addr, σ' = [some b, some (.ref L), some (.ref D), none, none] ∧ H D = none ∧ Same H H' ∧ H' D = some (.lst [])) ?_ ?_
    · exact ⟨Nat.zero_le _, fun D H1 nD s1 hD _ => ⟨D, rfl, nD, s1, hD⟩⟩
    rintro σ' H1 ⟨D, rfl, nD, s1, hD⟩
    have x1 := x.ke (Ke.same (F := Nof) s1) (fun z => z)
    obtain ⟨rvs, hLr, aR⟩ := x1.rw
    have l2 := x.le
    have l3 := x.ld.1
    refine ⟨_, rfl, .ref L, .ty "list", .type "list", .type "list", true, rfl, .ty _, .base (.lst hLr), kit_ty (by decide +kernel), _, rfl, ?_⟩
    refine ⟨_, rfl, _, rfl, L, _, rfl, .of hLr, fun S H2 nS s2 hS _ => ?_⟩
    have ec : cutV rvs none (some 200) = rvs := cut_all (n := 200) (by rw [aR.1]; exact l2)
    rw [ec] at hS
    have nSD : S ≠ D := Ne.symm (ne_of_none hD nS)
    have k02 : Ke Nof H H2 := (Ke.same s1).trans (.same s2)
    refine ⟨S, rfl, ⟨_, .of hS⟩, for_list (K := K) (a := S) (xs := rvs) (Pv := fun i σ H' => ∃ y3 y4 : Option V, σ = [some b, some (.ref L), some (.ref D), y3, y4] ∧ Ke Nof H H' ∧ H' S = some (.lst rvs) ∧ ClL H' D (cls.take i)) ?_ (fun i σ H' _ p => ?_) ?_ ?_⟩
    · exact ⟨none, none, rfl, k02, hS, [], s2 _ _ hD, .nil⟩
    · obtain ⟨_, _, _, _, h, _⟩ := p
      exact .of h
    · rintro i v σ H3 hv ⟨y3, y4, rfl, k3, hS3, dvs, hD3, aD⟩
      obtain ⟨r, hr', -⟩ := aR.at hv
      have lr := (List.getElem?_eq_some_iff.mp hr').1
      have lc : i < cls.length := by omega
      have rc := x.ld.2 i r cls[i] hr' (List.getElem?_eq_getElem lc)
      have rowv : RowAt H3 v r := by
        obtain ⟨vs0, hL0, a0⟩ := x.rw
        have e0 := s1 _ _ hL0
        rw [hLr] at e0
        cases e0
        exact (a0.2 i v r hv hr').ke k3
      refine ⟨_, rfl, _, rfl, _, rfl, b, v, D, css, cls.take i, r, rfl, x.bk.ke k3, ⟨dvs, hD3, aD⟩, rowv, x.ib, fun c hc => x.ic c (List.mem_of_mem_take hc), k3.tabs _ tg, fun H4 k4 no => (no _ rc).elim, fun c p H4 k4 rc' hp => ?_⟩
      obtain rfl := rc.one rc'
      refine ⟨_, rfl, rfl, false, rfl, ?_⟩
      have hD4 := k4.lst hD3 fun z => z
      have hS4 := k4.lst hS3 fun z => z
      refine ⟨_, rfl, .inl ⟨rfl, _, .of hD4⟩, _, rfl, D, _, _, rfl, rfl, hD4, ?_, ?_⟩
      · rw [aD.1, List.length_take]
        exact small1000 (by omega)
      · refine ⟨_, _, rfl, (k3.trans k4).upd nD, by rw [upd_ne nSD]; exact hS4, ?_⟩
        rw [take_snoc (List.getElem?_eq_getElem lc)]
        exact cl_snoc hD4 (aD.imp fun _ _ t => t.ke k4) ⟨p, rfl, hp⟩
    · rintro σ H3 ⟨y3, y4, rfl, k3, _, hD3⟩
      refine ⟨_, rfl, ?_⟩
      rw [aR.1, l3, List.take_length] at hD3
      exact q D H3 nD k3 hD3
abbrev sClo : Stmt := topS 21
theorem scClo : FnScope ["book", "ladder", "claims"] ["book", "ladder"] (defScope sClo) := ⟨rfl, rfl, rfl, by decide +kernel, rfl, by decide +kernel, by decide +kernel⟩
/-- of a ladder with a row at least -/
def spClo (Po : Addr) : Sp := fun vs H Q _ => ∃ (b : V) (L : Addr) (css cls : List (List Int)) (rows : List Rw), vs = [b, .ref L] ∧ BL H b L css rows cls ∧ 0 < rows.length ∧ TabG H Po ∧ ∀ p H', H p = none → Ke Nof H H' → ClL H' p cls → Q (.ref p) H'
theorem ok_clo {f fA Po : Addr} {fd fdA : FuncData} {k : Nat} (F : Fun K "claims_of" "claims_of" sClo f fd) (T : Zp mg) (FA : Fun K "claims_ahead_of_fault" "claims_ahead_of_fault" sAhe fA fdA) (bA : Binds K fdA ["book", "thing"] []) (gA : mg "claims_ahead_of_fault" = some (.ref fA)) (GA : FnOk P w K mg base CX0 6 fA fdA ["book", "thing"] (spAhe Po)) :
    FnOk P w K mg base CX0 (k + 7) f fd ["book", "ladder"] (spClo Po) := by
  refine F.ok scClo (fun vs H Q E h => ?_) (fun cdv A outer s H vs Q E hr h => ?_)
  · obtain ⟨b, L, css, cls, rows, rfl, _⟩ := h
    rfl
  · obtain ⟨b, L, css, cls, rows, rfl, x, l0, tg, q⟩ := h
    have hr6 : Room 6 _ := hr.mono (by omega)
    refine ⟨_, (pss_cons (ps_set (i := 2) scClo.nd rfl (.inl rfl) (pe_call GA hr6 (by rfl) gA FA.kp bA .nil pass0 (pa_cons (pv 0) (pa_cons (pv 1) pa_nil))))
      (pss_cons (ps_if (PW.pt (pw_or (pt_cmpR op_eq (pe_callB call_len_seq (by rfl) T.z_len (by decide +kernel) (pa_cons (pv 2) pa_nil)) pe_int (nomark _)) (pw_or1 (pt_cmpR op_lt (pe_callB call_len_seq (by rfl) T.z_len (by decide +kernel) (pa_cons (pv 2) pa_nil)) (pe_callB call_len_seq (by rfl) T.z_len (by decide +kernel) (pa_cons (pv 1) pa_nil)) (nomark _))))) pss_never pss_nil)
      (pss_one (ps_ret (pv 2))))), ?_⟩
    refine ⟨_, rfl, _, rfl, b, L, css, cls, rows, rfl, x, tg, fun p H1 np k1 hp => ?_⟩
    obtain ⟨pvs, hp1, aP⟩ := id hp
    obtain ⟨rvs, hLr, aR⟩ := (x.ke k1 fun z => z).rw
    have l3 := x.ld.1
    have e1 : (pvs.length : Int) = (rvs.length : Int) := by
      have := aP.1
      have := aR.1
      omega
    refine ⟨_, rfl, p, _, rfl, .inl (.of hp1), rfl, false, ?_, ?_⟩
    · have := aP.1
      rw [decide_eq_false]
      intro z
      have := V.int.inj z
      omega
    refine ⟨_, rfl, p, _, rfl, .inl (.of hp1), _, rfl, L, _, rfl, .inl (.of hLr), _, _, rfl, rfl, false, ?_, ?_⟩
    · show V.bl (decide ((pvs.length : Int) < (rvs.length : Int))) = V.bl false
      rw [decide_eq_false (by omega)]
    exact ⟨_, rfl, q p H1 np k1 hp⟩
abbrev sIsl : Stmt := topS 20
theorem scIsl : FnScope ["book", "thing", "claims"] ["book", "thing"] (defScope sIsl) := ⟨rfl, rfl, rfl, by decide +kernel, rfl, by decide +kernel, by decide +kernel⟩
def spIsl (Po : Addr) : Sp := fun vs H Q _ => ∃ (b : V) (L : Addr) (css cls : List (List Int)) (rows : List Rw), vs = [b, .ref L] ∧ BL H b L css rows cls ∧ 0 < rows.length ∧ TabG H Po ∧ ∀ H', Ke Nof H H' → Q (.bl true) H'
theorem ok_isl {f fA Po : Addr} {fd fdA : FuncData} {k : Nat} (F : Fun K "is_ladder" "is_ladder" sIsl f fd) (T : Zp mg) (FA : Fun K "claims_ahead_of_fault" "claims_ahead_of_fault" sAhe fA fdA) (bA : Binds K fdA ["book", "thing"] []) (gA : mg "claims_ahead_of_fault" = some (.ref fA)) (GA : FnOk P w K mg base CX0 6 fA fdA ["book", "thing"] (spAhe Po)) :
    FnOk P w K mg base CX0 (k + 7) f fd ["book", "thing"] (spIsl Po) := by
  refine F.ok scIsl (fun vs H Q E h => ?_) (fun cdv A outer s H vs Q E hr h => ?_)
  · obtain ⟨b, L, css, cls, rows, rfl, _⟩ := h
    rfl
  · obtain ⟨b, L, css, cls, rows, rfl, x, l0, tg, q⟩ := h
    have hr6 : Room 6 _ := hr.mono (by omega)
    refine ⟨_, (pss_cons (ps_set (i := 2) scIsl.nd rfl (.inl rfl) (pe_call GA hr6 (by rfl) gA FA.kp bA .nil pass0 (pa_cons (pv 0) (pa_cons (pv 1) pa_nil))))
      (pss_one (ps_ret (pe_and (pe_cmpR op_gt (pe_callB call_len_seq (by rfl) T.z_len (by decide +kernel) (pa_cons (pv 2) pa_nil)) pe_int (nomark _)) (pe_one (pe_cmpR op_eq (pe_callB call_len_seq (by rfl) T.z_len (by decide +kernel) (pa_cons (pv 2) pa_nil)) (pe_callB call_len_seq (by rfl) T.z_len (by decide +kernel) (pa_cons (pv 1) pa_nil)) (nomark _))))))), ?_⟩
    refine ⟨_, rfl, _, rfl, b, L, css, cls, rows, rfl, x, tg, fun p H1 np k1 hp => ?_⟩
    obtain ⟨pvs, hp1, aP⟩ := id hp
    obtain ⟨rvs, hLr, aR⟩ := (x.ke k1 fun z => z).rw
    have l3 := x.ld.1
    have a1 := aP.1
    have a2 := aR.1
    refine ⟨_, rfl, p, _, rfl, .inl (.of hp1), _, _, rfl, rfl, true, ?_, ?_⟩
    · show V.bl (decide ((0 : Int) < (pvs.length : Int))) = V.bl true
      rw [decide_eq_true (by omega)]
    refine ⟨_, rfl, p, _, rfl, .inl (.of hp1), _, rfl, L, _, rfl, .inl (.of hLr), rfl, ?_⟩
    rw [decide_eq_true (by rw [show pvs.length = rvs.length by omega])]
    exact q H1 k1
abbrev sChk : Stmt := topS 22
theorem scChk : FnScope ["book", "ladder"] ["book", "ladder"] (defScope sChk) := ⟨rfl, rfl, rfl, by decide +kernel, rfl, by decide +kernel, by decide +kernel⟩
def spChk (Po : Addr) : Sp := fun vs H Q _ => ∃ (b : V) (L : Addr) (css cls : List (List Int)) (rows : List Rw), vs = [b, .ref L] ∧ BL H b L css rows cls ∧ 0 < rows.length ∧ TabG H Po ∧ ∀ H', Ke Nof H H' → Q .non H'
theorem ok_chk {f fL Po : Addr} {fd fdL : FuncData} {k : Nat} (F : Fun K "check_ladder" "check_ladder" sChk f fd) (FL : Fun K "claims_of" "claims_of" sClo fL fdL) (bL : Binds K fdL ["book", "ladder"] []) (gL : mg "claims_of" = some (.ref fL)) (GL : FnOk P w K mg base CX0 7 fL fdL ["book", "ladder"] (spClo Po)) :
    FnOk P w K mg base CX0 (k + 8) f fd ["book", "ladder"] (spChk Po) := by
  refine F.ok scChk (fun vs H Q E h => ?_) (fun cdv A outer s H vs Q E hr h => ?_)
  · obtain ⟨b, L, css, cls, rows, rfl, _⟩ := h
    rfl
  · obtain ⟨b, L, css, cls, rows, rfl, x, l0, tg, q⟩ := h
    have hr7 : Room 7 _ := hr.mono (by omega)
    refine ⟨_, (pss_one (ps_expr (pe_call GL hr7 (by rfl) gL FL.kp bL .nil pass0 (pa_cons (pv 0) (pa_cons (pv 1) pa_nil))))), ?_⟩
    exact ⟨_, rfl, _, rfl, b, L, css, cls, rows, rfl, x, l0, tg, fun p H1 np k1 hp => q H1 k1⟩
/-- the height of a row, of rows -/
def htOf (hs : List Int) : Rw → Int
  | .book _ => 0
  | .cut i j _ => 1 + (if hs.getD j 0 > hs.getD i 0 then hs.getD j 0 else hs.getD i 0)
def hts (rows : List Rw) : List Int := rows.foldl (fun hs r => hs ++ [htOf hs r]) []
theorem hts_snoc (rows : List Rw) (r : Rw) : hts (rows ++ [r]) = hts rows ++ [htOf (hts rows) r] := by
  unfold hts
  rw [List.foldl_append]
  rfl
theorem hts_len (rows : List Rw) : (hts rows).length = rows.length := by
  have key : ∀ (l : List Rw) (hs : List Int), (l.foldl (fun hs r => hs ++ [htOf hs r]) hs).length = hs.length + l.length := by
    intro l
    induction l with
    | nil => exact fun hs => rfl
    | cons r t ih =>
      intro hs
      rw [List.foldl_cons, ih]
      simp only [List.length_append, List.length_cons, List.length_nil]
      omega
  have := key rows []
  rw [List.length_nil, Nat.zero_add] at this
  exact this
abbrev sHor : Stmt := topS 23
theorem scHor : FnScope ["row", "heights_ahead"] ["row", "heights_ahead"] (defScope sHor) := ⟨rfl, rfl, rfl, by decide +kernel, rfl, by decide +kernel, by decide +kernel⟩
def spHor : Sp := fun vs H Q _ => ∃ (v : V) (L : Addr) (r : Rw) (hs : List Int), vs = [v, .ref L] ∧ RowAt H v r ∧ H L = some (.lst (hs.map V.int)) ∧ (∀ i j k, r = .cut i j k → i < hs.length ∧ j < hs.length) ∧ Q (.int (htOf hs r)) H
theorem ok_hor {f : Addr} {fd : FuncData} {k : Nat} (F : Fun K "height_of_row" "height_of_row" sHor f fd) (T : Zp mg) : FnOk P w K mg base CX0 (k + 1) f fd ["row", "heights_ahead"] spHor := by
  refine F.ok scHor (fun vs H Q E h => ?_) (fun cdv A outer s H vs Q E hr h => ?_)
  · obtain ⟨v, L, r, hs, rfl, _⟩ := h
    rfl
  · obtain ⟨v, L, r, hs, rfl, ⟨a, rfl, ha⟩, hL, hp, q⟩ := h
    refine ⟨_, (pss_cons (ps_if (pt_cmpR op_eq (pe_ix ix_tup (pv 0) pe_int (fun _ _ => rfl)) pe_str (nomark _)) (pss_one (ps_ret pe_int)) pss_nil)
      (pss_one (ps_ret (pe_op op_add pe_int (pe_callB (call_max2 rfl) (by rfl) T.z_max (by decide +kernel) (pa_cons (pe_ix ix_list (pv 1) (pe_ix ix_tup (pv 0) pe_int (fun _ _ => rfl)) (fun _ _ => rfl)) (pa_cons (pe_ix ix_list (pv 1) (pe_ix ix_tup (pv 0) pe_int (fun _ _ => rfl)) (fun _ _ => rfl)) pa_nil))))))), ?_⟩
    cases r with
    | book n =>
      exact ⟨_, rfl, a, _, 0, .str "book", rfl, rfl, .of ha, rfl, rfl, true, by simp, q⟩
    | cut i j k =>
      obtain ⟨li, lj⟩ := hp i j k rfl
      refine ⟨_, rfl, a, _, 0, .str "cut", rfl, rfl, .of ha, rfl, rfl, false, by simp; decide, ?_⟩
      refine ⟨_, rfl, _, rfl, a, _, 1, .int (i : Nat), rfl, rfl, .of ha, rfl, L, _, _, .int hs[i], rfl, rfl, .of hL, at_of (j := i) rfl (by rw [List.getElem?_map, List.getElem?_eq_getElem li]; rfl), ?_⟩
      refine ⟨_, rfl, _, rfl, a, _, 2, .int (j : Nat), rfl, rfl, .of ha, rfl, L, _, _, .int hs[j], rfl, rfl, .of hL, at_of (j := j) rfl (by rw [List.getElem?_map, List.getElem?_eq_getElem lj]; rfl), ?_⟩
      refine ⟨_, _, rfl, _, _, rfl, rfl, ?_⟩
      have e1 : hs.getD i 0 = hs[i] := by rw [List.getD_eq_getElem?_getD, List.getElem?_eq_getElem li]; rfl
      have e2 : hs.getD j 0 = hs[j] := by rw [List.getD_eq_getElem?_getD, List.getElem?_eq_getElem lj]; rfl
      have q : Q (.int (1 + (if hs.getD j 0 > hs.getD i 0 then hs.getD j 0 else hs.getD i 0))) H := q
      rw [e1, e2] at q
      exact q
abbrev sHei : Stmt := topS 24
theorem scHei : FnScope ["book", "ladder", "told", "row"] ["book", "ladder"] (defScope sHei) := ⟨rfl, rfl, rfl, by decide +kernel, rfl, by decide +kernel, by decide +kernel⟩
def spHei (Po : Addr) : Sp := fun vs H Q _ => ∃ (b : V) (L : Addr) (css cls : List (List Int)) (rows : List Rw), vs = [b, .ref L] ∧ BL H b L css rows cls ∧ 0 < rows.length ∧ TabG H Po ∧ ∀ p H', Frs H p → Ke Nof H H' → H' p = some (.lst ((hts rows).map V.int)) → Q (.ref p) H'
theorem Lad.parts {css cls : List (List Int)} {rows : List Rw} (h : Lad css rows cls) {n i j : Nat} {k : Int} (e : rows[n]? = some (.cut i j k)) : i < n ∧ j < n := by
  have l := (List.getElem?_eq_some_iff.mp e).1
  have l2 : n < cls.length := by rw [← h.1]; exact l
  have := (h.2 n _ _ e (List.getElem?_eq_getElem l2)).parts
  rw [List.length_take] at this
  omega
theorem ok_hei {f fK fH Po : Addr} {fd fdK fdH : FuncData} {k : Nat} (F : Fun K "heights" "heights" sHei f fd) (FK : Fun K "check_ladder" "check_ladder" sChk fK fdK) (bK : Binds K fdK ["book", "ladder"] []) (gK : mg "check_ladder" = some (.ref fK)) (GK : FnOk P w K mg base CX0 8 fK fdK ["book", "ladder"] (spChk Po))
    (FH : Fun K "height_of_row" "height_of_row" sHor fH fdH) (bH : Binds K fdH ["row", "heights_ahead"] []) (gH : mg "height_of_row" = some (.ref fH)) (GH : FnOk P w K mg base CX0 1 fH fdH ["row", "heights_ahead"] spHor) :
    FnOk P w K mg base CX0 (k + 9) f fd ["book", "ladder"] (spHei Po) := by
  refine F.ok scHei (fun vs H Q E h => ?_) (fun cdv A outer s H vs Q E hr h => ?_)
  · obtain ⟨b, L, css, cls, rows, rfl, _⟩ := h
    rfl
  · obtain ⟨b, L, css, cls, rows, rfl, x, l0, tg, q⟩ := h
    have hr8 : Room 8 _ := hr.mono (by omega)
    have hr1 : Room 1 _ := hr.mono (by omega)
    refine ⟨_, (Evl.pss_cut (ps_expr (pe_call GK hr8 (by rfl) gK FK.kp bK .nil pass0 (pa_cons (pv 0) (pa_cons (pv 1) pa_nil))))
      (Evl.pss_cut (ps_set (i := 2) scHei.nd rfl (.inl rfl) (pe_lstN pa_nil))
      (pss_cons (ps_for PassesOwn.never rfl (pi_list (pv 1)) (pg_name (i := 3) scHei.nd rfl (.inl rfl)) (pss_one (ps_expr (pe_bm PySem.F.plainAttrs_list PySem.F.slot_list_append PySem.F.type_list_append mt_append (pv 2) (pa_cons (pe_call GH hr1 (by rfl) gH FH.kp bH .nil pass0 (pa_cons (pv 3) (pa_cons (pv 2) pa_nil))) pa_nil)))))
      (pss_one (ps_ret (pv 2)))))), ?_⟩
    refine Evl.q_cut (M := fun σ' H' => σ' = [some b, some (.ref L), none, none] ∧ Ke Nof H H') ?_ ?_
    · exact ⟨_, rfl, _, rfl, b, L, css, cls, rows, rfl, x, l0, tg, fun H1 k1 => ⟨rfl, k1⟩⟩
    rintro σ' H1 ⟨rfl, k1⟩
    refine Evl.q_cut (M := fun σ' H' => ∃ D : Addr, σ' = [some b, some (.ref L), some (.ref D), none] ∧ H1 D = none ∧ Same H1 H' ∧ H' D = some (.lst [])) ?_ ?_
    · exact ⟨Nat.zero_le _, fun D H2 nD s2 hD _ => ⟨D, rfl, nD, s2, hD⟩⟩
    rintro σ' H2 ⟨D, rfl, nD, s2, hD⟩
    have k2 : Ke Nof H H2 := k1.trans (.same s2)
    obtain ⟨rvs, hLr, aR⟩ := (x.ke k2 fun z => z).rw
    have nLD : D ≠ L := fun z => by
      have := (x.ke k1 fun z => z).rw
      obtain ⟨_, h1, _⟩ := this
      rw [← z, nD] at h1
      cases h1
    have l2 := x.le
    have fr : Frs H D := .ke0 k1 (.of nD)
    refine ⟨_, rfl, L, rfl, ⟨_, .of hLr⟩, for_list (K := K) (a := L) (xs := rvs) (Pv := fun i σ H' => ∃ y3 : Option V, σ = [some b, some (.ref L), some (.ref D), y3] ∧ Ke Nof H1 H' ∧ H' D = some (.lst ((hts (rows.take i)).map V.int))) ?_ (fun i σ H' _ p => ?_) ?_ ?_⟩
    · exact ⟨none, rfl, .same s2, hD⟩
    · obtain ⟨_, _, k3, _⟩ := p
      obtain ⟨vs0, h0, a0⟩ := (x.ke k1 fun z => z).rw
      have e0 := s2 _ _ h0
      rw [hLr] at e0
      cases e0
      exact .of (k3.lst h0 fun z => z)
    · rintro i v σ H3 hv ⟨y3, rfl, k3, hD3⟩
      obtain ⟨vs0, h0, a0⟩ := (x.ke k1 fun z => z).rw
      have e0 := s2 _ _ h0
      rw [hLr] at e0
      cases e0
      obtain ⟨r, hr', rv⟩ := a0.at hv
      have hl := hts_len (rows.take i)
      have lr := (List.getElem?_eq_some_iff.mp hr').1
      rw [List.length_take] at hl
      refine ⟨_, rfl, .inl ⟨rfl, _, .of hD3⟩, _, rfl, _, rfl, v, D, r, _, rfl, rv.ke k3, hD3, fun a b' k' e => ?_, ?_⟩
      · subst e
        have := Lad.parts x.ld hr'
        omega
      · refine ⟨D, _, _, rfl, rfl, hD3, by rw [List.length_map]; exact small1000 (by omega), ?_⟩
        refine ⟨_, rfl, k3.upd nD, ?_⟩
        rw [upd_same, take_snoc hr', hts_snoc, List.map_append]
        rfl
    · rintro σ H3 ⟨y3, rfl, k3, hD3⟩
      refine ⟨_, rfl, ?_⟩
      rw [aR.1, List.take_length] at hD3
      exact q D H3 fr (k1.trans k3) hD3
def isCut : Rw → Bool
  | .book _ => false
  | .cut _ _ _ => true
abbrev sHmc : Stmt := topS 25
abbrev nHmc : List Str := ["book", "ladder", "row"]
theorem scHmc : FnScope nHmc ["book", "ladder"] (defScope sHmc) := ⟨rfl, rfl, rfl, by decide +kernel, rfl, by decide +kernel, by decide +kernel⟩
def spHmc (Po : Addr) : Sp := fun vs H Q _ => ∃ (b : V) (L : Addr) (css cls : List (List Int)) (rows : List Rw), vs = [b, .ref L] ∧ BL H b L css rows cls ∧ 0 < rows.length ∧ TabG H Po ∧ ∀ H', Ke Nof H H' → Q (.int (rows.countP isCut : Nat)) H'
theorem ok_hmc {f fK Po : Addr} {fd fdK : FuncData} {k : Nat} (F : Fun K "how_many_cuts" "how_many_cuts" sHmc f fd) (T : Zp mg) (FK : Fun K "check_ladder" "check_ladder" sChk fK fdK) (bK : Binds K fdK ["book", "ladder"] []) (gK : mg "check_ladder" = some (.ref fK)) (GK : FnOk P w K mg base CX0 8 fK fdK ["book", "ladder"] (spChk Po)) :
    FnOk P w K mg base CX0 (k + 9) f fd ["book", "ladder"] (spHmc Po) := by
  refine F.ok scHmc (fun vs H Q E h => ?_) (fun cdv A outer s H vs Q E hr h => ?_)
  · obtain ⟨b, L, css, cls, rows, rfl, _⟩ := h
    rfl
  · obtain ⟨b, L, css, cls, rows, rfl, x, l0, tg, q⟩ := h
    have hr8 : Room 8 _ := hr.mono (by omega)
    refine ⟨_, (Evl.pss_cut (ps_expr (pe_call GK hr8 (by rfl) gK FK.kp bK .nil pass0 (pa_cons (pv 0) (pa_cons (pv 1) pa_nil))))
      (pss_one (ps_ret (pe_callB call_len_seq (by rfl) T.z_len (by decide +kernel) (pa_cons (pe_lc (own := [("row", 2)]) (g := (gName 2))  rfl scHmc.nd (pi_list (pv 1)) (blkOk_by (N := nHmc) (sc := defScope sHmc) (by decide +kernel)) (fun _ _ _ _ _ => (pg_name (i := 2) scHmc.nd rfl (.inl rfl))) (fun _ _ _ _ _ => (pts_one (pt_cmpR op_eq (pe_ix (ix_tupB (K := K) rfl) (pv 2) pe_int (fun _ _ => rfl)) pe_str (nomark _)))) (fun _ _ _ _ _ => (pv 2))) pa_nil))))), ?_⟩
    refine Evl.q_cut (M := fun σ' H' => σ' = [some b, some (.ref L), none] ∧ Ke Nof H H') ?_ ?_
    · exact ⟨_, rfl, _, rfl, b, L, css, cls, rows, rfl, x, l0, tg, fun H1 k1 => ⟨rfl, k1⟩⟩
    rintro σ' H1 ⟨rfl, k1⟩
    obtain ⟨rvs, hLr, aR⟩ := (x.ke k1 fun z => z).rw
    have l2 := x.le
    refine ⟨_, rfl, L, rfl, ⟨_, .of hLr⟩, fun D nD => ?_⟩
    refine lc_list (xs := rvs) (Pv := fun i H' => Same H1 H' ∧ ∃ ys, H' D = some (.lst ys) ∧ ys.length = (rows.take i).countP isCut) ⟨same_new nD, [], upd_same, rfl⟩ (fun i H' _ p => .of (p.1 _ _ hLr)) ?_ ?_
    · rintro i v H2 hv ⟨s2, ys, hD, ly⟩
      obtain ⟨r, hr', ⟨a, rfl, ha⟩⟩ := aR.at hv
      have ta := take_snoc hr'
      have lc := List.countP_le_length (p := isCut) (l := rows.take i)
      rw [List.length_take] at lc
      have ha2 := s2 _ _ ha
      cases r with
      | book n =>
        refine ⟨rfl, _, rfl, a, _, 0, .str "book", rfl, rfl, .of ha2, rfl, rfl, false, by simp; decide, ?_⟩
        refine ⟨s2, ys, hD, ?_⟩
        rw [ta, List.countP_append, ly]
        rfl
      | cut i' j' k' =>
        refine ⟨rfl, _, rfl, a, _, 0, .str "cut", rfl, rfl, .of ha2, rfl, rfl, true, by simp, ?_⟩
        refine ⟨_, rfl, _, hD, by exact small1000 (by omega), fun c o y => ?_, _, upd_same, ?_⟩
        · rw [upd_ne (ne_of_none y nD)]
          exact s2 _ _ y
        · rw [ta, List.countP_append, List.length_append, ly]
          rfl
    · rintro H2 ⟨s2, ys, hD, ly⟩
      rw [aR.1, List.take_length] at ly
      refine ⟨D, _, rfl, .inl (.of hD), ?_⟩
      rw [ly]
      exact q H2 (k1.trans (.same s2))
end
end Lp
namespace Ll
open PySem PySem.Spec PyProof.Rows L2 GxR Nw Dr Kp Se Cl Ct Lr Lp
structure Zy (mg : Str → Option Value) : Prop where
  z_len : mg "len" = none
  z_isinstance : mg "isinstance" = none
  z_tuple : mg "tuple" = none
  z_int : mg "int" = none
  z_bool : mg "bool" = none
  z_all : mg "all" = none
  z_min : mg "min" = none
  z_max : mg "max" = none
  z_range : mg "range" = none
/-- a row as data -/
def dat : Rw → PyData
  | .book n => .tuple [.str "book", .int (n : Nat)]
  | .cut i j k => .tuple [.str "cut", .int (i : Nat), .int (j : Nat), .int k]
theorem dp_row {K : PySem.W.Frag} {H : Hp} {v : V} {r : Rw} (h : RowAt H v r) : Dp K H v (dat r) := by
  obtain ⟨a, rfl, h⟩ := h
  cases r with
  | book n => exact .tup (.of h) (.cons (.str _) (.cons (.int _) .nil))
  | cut i j k => exact .tup (.of h) (.cons (.str _) (.cons (.int _) (.cons (.int _) (.cons (.int _) .nil))))
theorem dp_rows {K : PySem.W.Frag} {H : Hp} : ∀ {vs : List V} {rows : List Rw}, All2 (RowAt H) vs rows → DpAll K H vs (rows.map dat)
  | [], [], _ => .nil
  | [], r :: t, h => by cases h.1
  | v :: t, [], h => by cases h.1
  | v :: t, r :: u, h => .cons (dp_row (h.2 0 v r rfl rfl)) (dp_rows ⟨by have := h.1; simp only [List.length_cons] at this; omega, fun i x y h1 h2 => h.2 (i + 1) x y h1 h2⟩)
theorem lay_rows : ∀ rows : List Rw, PyData.canLayAll0 (rows.map dat) = true ∧ PyData.depthAll (rows.map dat) ≤ 3
  | [] => ⟨rfl, by decide⟩
  | r :: t => by
    obtain ⟨h1, h2⟩ := lay_rows t
    refine ⟨?_, ?_⟩
    · show (PyData.canLay0 (dat r) && PyData.canLayAll0 (t.map dat)) = true
      rw [h1]
      have b1 : PyData.strOk "book" = true := by decide +kernel
      have b2 : PyData.strOk "cut" = true := by decide +kernel
      cases r <;> simp [dat, PyData.canLay0, PyData.canLayAll0, b1, b2]
    · show Nat.max (PyData.depth (dat r)) (PyData.depthAll (t.map dat)) ≤ 3
      refine Nat.max_le.mpr ⟨?_, h2⟩
      cases r <;> simp [dat, PyData.depth, PyData.depthAll]
theorem shaped_rows (rows : List Rw) : SeqAt.shaped (.list (rows.map dat)) = true := by
  obtain ⟨h1, h2⟩ := lay_rows rows
  show (PyData.canLayAll0 (rows.map dat) && decide (PyData.depthAll (rows.map dat) + 1 ≤ 64)) = true
  rw [h1, decide_eq_true (by omega)]
  rfl
section
variable {P : Program} {w : World} {K : PySem.W.Frag} {mg : Str → Option Value} {base : Heap}
abbrev sSwh : Stmt := topS 38
theorem scSwh : FnScope ["thing"] ["thing"] (defScope sSwh) := ⟨rfl, rfl, rfl, by decide +kernel, rfl, by decide +kernel, by decide +kernel⟩
theorem ok_swh {f : Addr} {fd : FuncData} {k : Nat} (F : Fun K "_law_swhole" "_law_swhole" sSwh f fd) (T : Zy mg) : FnOk P w K mg base CX0 (k + 1) f fd ["thing"] spWho := by
  refine F.ok scSwh (fun vs H Q E h => ?_) (fun cdv A outer s H vs Q E hr h => ?_)
  · obtain ⟨k, rfl, _⟩ := h
    rfl
  · obtain ⟨k, rfl, q⟩ := h
    refine ⟨_, (pss_one (ps_ret (pe_and (pe_callB call_isi (by rfl) T.z_isinstance (by decide +kernel) (pa_cons (pv 0) (pa_cons (pe_bltn (v := .ty "int") (u := .type "int") (by rfl) T.z_int (by decide +kernel) rfl) pa_nil))) (pe_one (pe_not (pe_callB call_isi (by rfl) T.z_isinstance (by decide +kernel) (pa_cons (pv 0) (pa_cons (pe_bltn (v := .ty "bool") (u := .type "bool") (by rfl) T.z_bool (by decide +kernel) rfl) pa_nil)))))))), ?_⟩
    refine ⟨_, rfl, .int k, .ty "int", .type "int", .type "int", true, rfl, .ty _, .base (.int k), kit_ty (by decide +kernel), _, rfl, ?_⟩
    refine ⟨_, rfl, .int k, .ty "bool", .type "int", .type "bool", false, rfl, .ty _, .base (.int k), kit_ty (by decide +kernel), _, rfl, q⟩
abbrev sSrw : Stmt := topS 43
abbrev nSrw : List Str := ["book", "claims", "row", "part"]
theorem scSrw : FnScope nSrw ["book", "claims", "row"] (defScope sSrw) := ⟨rfl, rfl, rfl, by decide +kernel, rfl, by decide +kernel, by decide +kernel⟩
def spSrw : Sp := fun vs H Q _ => ∃ (b v : V) (L : Addr) (css cls : List (List Int)) (r : Rw), vs = [b, .ref L, v] ∧ Bk H b css ∧ ClL H L cls ∧ RowAt H v r ∧ (∀ c ∈ css, IsCl c) ∧ (∀ c ∈ cls, IsCl c) ∧
  (∀ H', Same H H' → (∀ c, ¬ RowCl css cls r c) → Q .non H') ∧ ∀ (c : List Int) (p : Addr) (H' : Hp), Same H H' → RowCl css cls r c → H' p = some (.tup (c.map V.int)) → Q (.ref p) H'
theorem Rw.tail (r : Rw) : ∃ ns : List Int, r.vs = r.vs.headD .non :: ns.map V.int ∧ ns.length ≤ 3 := by
  cases r with
  | book n => exact ⟨[(n : Nat)], rfl, by simp⟩
  | cut i j k => exact ⟨[(i : Nat), (j : Nat), k], rfl, by simp⟩
theorem cut_1 (x : V) (xs : List V) : cutV (x :: xs) (some 1) none = xs := by
  unfold cutV
  have e : (1 : Int) = ((1 : Nat) : Int) := rfl
  rw [HT.sIx_none, e, HT.sIx_nat]
  simp
theorem cut_13 (x : V) (a b c : V) : cutV [x, a, b, c] (some 1) (some 3) = [a, b] := by
  unfold cutV
  have e : (1 : Int) = ((1 : Nat) : Int) := rfl
  have e3 : (3 : Int) = ((3 : Nat) : Int) := rfl
  rw [e, e3, HT.sIx_nat, HT.sIx_nat]
  rfl
theorem ok_srw {f fW fC : Addr} {fd fdW fdC : FuncData} {k : Nat} (F : Fun K "_law_srow" "_law_srow" sSrw f fd) (T : Zy mg) (FW : Fun K "_law_swhole" "_law_swhole" sSwh fW fdW) (bW : Binds K fdW ["thing"] []) (gW : mg "_law_swhole" = some (.ref fW)) (GW : FnOk P w K mg base CX0 1 fW fdW ["thing"] spWho)
    (FC : Fun K "_law_scut" "_law_scut" sSct fC fdC) (bC : Binds K fdC ["one", "other", "k"] []) (gC : mg "_law_scut" = some (.ref fC)) (GC : FnOk P w K mg base CX0 1 fC fdC ["one", "other", "k"] spSct) :
    FnOk P w K mg base CX0 (k + 2) f fd ["book", "claims", "row"] spSrw := by
  refine F.ok scSrw (fun vs H Q E h => ?_) (fun cdv A outer s H vs Q E hr h => ?_)
  · obtain ⟨b, v, L, css, cls, r, rfl, _⟩ := h
    rfl
  · obtain ⟨b, v, L, css, cls, r, rfl, hb, ⟨lvs, hL, aL⟩, ⟨a, rfl, ha⟩, ib, ic, q1, q2⟩ := h
    have hr1 : Room 1 _ := hr.mono (by omega)
    have hu : (A.deeper (envOfC "_law_srow" (defScope sSrw) s.heap.objs.size f cdv)).units + 70 < cLine := by
      have := hr.un
      omega
    refine ⟨_, (pss_cons (ps_if (PW.pt (pw_or (pt_not (pt_val (pe_callB call_isi (by rfl) T.z_isinstance (by decide +kernel) (pa_cons (pv 2) (pa_cons (pe_bltn (v := .ty "tuple") (u := .type "tuple") (by rfl) T.z_tuple (by decide +kernel) rfl) pa_nil))))) (pw_or1 (pt_cmpR op_lt (pe_callB call_len_seq (by rfl) T.z_len (by decide +kernel) (pa_cons (pv 2) pa_nil)) pe_int (nomark _))))) pss_never pss_nil)
      (Evl.pss_cut (ps_if (pt_not (pt_val (pe_callB (cr_all rfl) (by rfl) T.z_all (by decide +kernel) (pa_cons (pe_lc (own := [("part", 3)]) (g := (gName 3)) (tt := tYes) rfl scSrw.nd (pi_tup (pe_slice sl_tupN (pv 2) (po_some pe_int) po_none)) (blkOk_by (N := nSrw) (sc := defScope sSrw) (by decide +kernel)) (fun _ _ _ _ _ => (pg_name (i := 3) scSrw.nd rfl (.inl rfl))) (fun _ _ _ _ _ => pts_nil) (fun _ _ _ _ _ => (pe_call GW hr1 (by rfl) gW FW.kp bW .nil pass0 (pa_cons (pv 3) pa_nil)))) pa_nil)))) pss_never pss_nil)
      (pss_cons (ps_if (PW.pt (pw_and (pt_cmpR op_eq (pe_ix ix_tup (pv 2) pe_int (fun _ _ => rfl)) pe_str (nomark _)) (pw_and (pt_cmpR op_eq (pe_callB call_len_seq (by rfl) T.z_len (by decide +kernel) (pa_cons (pv 2) pa_nil)) pe_int (nomark _)) (pw_and1 (pt_chain op_le op_lt pe_int (pe_ix ix_tup (pv 2) pe_int (fun _ _ => rfl)) (pe_callB call_len_seq (by rfl) T.z_len (by decide +kernel) (pa_cons (pv 0) pa_nil))))))) (pss_one (ps_ret (pe_ix ix_tup (pv 0) (pe_ix ix_tup (pv 2) pe_int (fun _ _ => rfl)) (fun _ _ => rfl)))) pss_nil)
      (pss_cons (ps_if (PW.pt (pw_or (pt_cmpR op_ne (pe_ix ix_tup (pv 2) pe_int (fun _ _ => rfl)) pe_str (nomark _)) (pw_or (pt_cmpR op_ne (pe_callB call_len_seq (by rfl) T.z_len (by decide +kernel) (pa_cons (pv 2) pa_nil)) pe_int (nomark _)) (pw_or (pt_cmpR op_lt (pe_callB (Lr.cr_minT rfl hu) (by rfl) T.z_min (by decide +kernel) (pa_cons (pe_slice sl_tupN (pv 2) (po_some pe_int) (po_some pe_int)) pa_nil)) pe_int (nomark _)) (pw_or1 (pt_cmpR op_ge (pe_callB (Lr.cr_maxT rfl hu) (by rfl) T.z_max (by decide +kernel) (pa_cons (pe_slice sl_tupN (pv 2) (po_some pe_int) (po_some pe_int)) pa_nil)) (pe_callB call_len_seq (by rfl) T.z_len (by decide +kernel) (pa_cons (pv 1) pa_nil)) (nomark _))))))) (pss_one (ps_ret pe_non)) pss_nil)
      (pss_one (ps_ret (pe_call GC hr1 (by rfl) gC FC.kp bC .nil pass0 (pa_cons (pe_ix ix_list (pv 1) (pe_ix ix_tup (pv 2) pe_int (fun _ _ => rfl)) (fun _ _ => rfl)) (pa_cons (pe_ix ix_list (pv 1) (pe_ix ix_tup (pv 2) pe_int (fun _ _ => rfl)) (fun _ _ => rfl)) (pa_cons (pe_ix ix_tup (pv 2) pe_int (fun _ _ => rfl)) pa_nil)))))))))), ?_⟩
    obtain ⟨b, bvs, rfl, hbt, aB⟩ := bk_all hb
    refine ⟨_, rfl, .ref a, .ty "tuple", .type "tuple", .type "tuple", true, rfl, .ty _, .base (.tup ha), kit_ty (by decide +kernel), _, rfl, ?_⟩
    refine ⟨_, rfl, a, _, rfl, .inr (.of ha), _, _, rfl, rfl, false, ?_, ?_⟩
    · cases r <;> rfl
    refine Evl.q_cut (M := fun σ' H' => σ' = [some (.ref b), some (.ref L), some (.ref a), none] ∧ Same H H') ?_ ?_
    · obtain ⟨ns, en, ln⟩ := Rw.tail r
      refine ⟨_, rfl, _, rfl, a, _, rfl, ha, fun p H1 s1 hp => ?_⟩
      rw [en, cut_1] at hp
      refine ⟨p, rfl, ⟨_, .of hp⟩, fun D nD => ?_⟩
      refine lc_tup (xs := ns.map V.int) (Pv := fun i H' => Same H1 H' ∧ H' D = some (.lst ((List.replicate i true).map V.bl))) ⟨same_new nD, upd_same⟩ (fun i H' _ z => .of (z.1 _ _ hp)) ?_ ?_
      · rintro i x H2 hx ⟨s2, hD⟩
        obtain ⟨z, hz, rfl⟩ := at_int hx
        have lz := (List.getElem?_eq_some_iff.mp hz).1
        refine ⟨rfl, _, rfl, z, rfl, _, hD, ?_, fun c o y => ?_, ?_⟩
        · rw [List.length_map, List.length_replicate]
          exact small1000 (by omega)
        · rw [upd_ne (ne_of_none y nD)]
          exact s2 _ _ y
        · rw [upd_same, List.replicate_succ', List.map_append]
          rfl
      · rintro H2 ⟨s2, hD⟩
        refine ⟨D, _, rfl, .of hD, _, rfl, ?_⟩
        have e : (List.replicate (ns.map V.int).length true).all id = true := by
          rw [List.all_eq_true]
          intro x hx
          rw [List.eq_of_mem_replicate hx]
          rfl
        rw [e]
        exact ⟨rfl, s1.trans s2⟩
    rintro σ' H1 ⟨rfl, s1⟩
    have ha1 := s1 _ _ ha
    have hb1 := s1 _ _ hbt
    have hL1 := s1 _ _ hL
    cases r with
    | book n =>
      refine ⟨_, rfl, a, _, 0, .str "book", rfl, rfl, .of ha1, rfl, rfl, true, by simp, ?_⟩
      refine ⟨_, rfl, a, _, rfl, .inr (.of ha1), rfl, true, rfl, ?_⟩
      refine ⟨_, rfl, a, _, 1, .int (n : Nat), rfl, rfl, .of ha1, rfl, 0, _, rfl, rfl, decide ((0 : Int) ≤ (n : Nat)), rfl, ?_⟩
      rw [decide_eq_true (by omega)]
      refine ⟨_, rfl, b, _, rfl, .inr (.of hb1), _, _, rfl, rfl, _, rfl, ite2 (fun y => ?_) (fun y => ?_)⟩
      · have lt : n < bvs.length := by
          have := of_decide_eq_true y
          omega
        obtain ⟨c, hc, p, e, hp⟩ := aB.at (List.getElem?_eq_getElem lt)
        refine ⟨_, rfl, _, rfl, a, _, 1, .int (n : Nat), rfl, rfl, .of ha1, rfl, b, bvs, _, .ref p, rfl, rfl, .of hb1, at_of (j := n) rfl (by rw [List.getElem?_eq_getElem lt, e]), ?_⟩
        exact q2 c p H1 s1 hc (s1 _ _ hp)
      · refine ⟨_, rfl, a, _, 0, .str "book", rfl, rfl, .of ha1, rfl, rfl, true, by simp; decide, ?_⟩
        refine q1 H1 s1 fun c hc => ?_
        have h1 := (List.getElem?_eq_some_iff.mp hc).1
        have h2 := aB.1
        exact y (decide_eq_true (by omega))
    | cut i j k =>
      refine ⟨_, rfl, a, _, 0, .str "cut", rfl, rfl, .of ha1, rfl, rfl, false, by simp; decide, ?_⟩
      refine ⟨_, rfl, a, _, 0, .str "cut", rfl, rfl, .of ha1, rfl, rfl, false, by simp, ?_⟩
      refine ⟨_, rfl, a, _, rfl, .inr (.of ha1), rfl, false, rfl, ?_⟩
      refine ⟨_, rfl, _, rfl, _, rfl, a, _, rfl, ha1, fun p1 H2 s2 hp1 => ?_⟩
      rw [show cutV (Rw.cut i j k).vs (some 1) (some 3) = [.int (i : Nat), .int (j : Nat)] from cut_13 _ _ _ _] at hp1
      refine ⟨p1, _, _, rfl, .of hp1, _, _, rfl, rfl, false, ?_, ?_⟩
      · show V.bl (decide ((if ((j : Nat) : Int) < ((i : Nat) : Int) then ((j : Nat) : Int) else ((i : Nat) : Int)) < 0)) = V.bl false
        rw [decide_eq_false]
        split <;> omega
      have ha2 := s2 _ _ ha1
      have hL2 := s2 _ _ hL1
      refine ⟨_, rfl, _, rfl, _, rfl, a, _, rfl, ha2, fun p2 H3 s3 hp2 => ?_⟩
      rw [show cutV (Rw.cut i j k).vs (some 1) (some 3) = [.int (i : Nat), .int (j : Nat)] from cut_13 _ _ _ _] at hp2
      have ha3 := s3 _ _ ha2
      have hL3 := s3 _ _ hL2
      have s13 := s1.trans (s2.trans s3)
      refine ⟨p2, _, _, rfl, .of hp2, _, rfl, L, _, rfl, .inl (.of hL3), _, _, rfl, rfl, _, rfl, ite2 (fun y => ?_) (fun y => ?_)⟩
      · refine q1 H3 s13 fun c hc => ?_
        have y : (lvs.length : Int) ≤ (if (i : Int) < (j : Int) then (j : Int) else (i : Int)) := of_decide_eq_true y
        have h1 := hc.parts
        have h2 := aL.1
        split at y <;> omega
      · have y : ¬ (lvs.length : Int) ≤ (if (i : Int) < (j : Int) then (j : Int) else (i : Int)) := of_decide_eq_false (Bool.eq_false_iff.mpr y)
        have li : i < lvs.length := by
          split at y <;> omega
        have lj : j < lvs.length := by
          split at y <;> omega
        obtain ⟨ci, hci, ti⟩ := aL.at (List.getElem?_eq_getElem li)
        obtain ⟨cj, hcj, tj⟩ := aL.at (List.getElem?_eq_getElem lj)
        have z1 := (ic ci (List.mem_of_getElem? hci)).len
        have z2 := (ic cj (List.mem_of_getElem? hcj)).len
        have k13 : Ke Nof H H3 := .same s13
        refine ⟨_, rfl, _, rfl, a, _, 1, .int (i : Nat), rfl, rfl, .of ha3, rfl, L, lvs, _, lvs[i], rfl, rfl, .of hL3, at_of (j := i) rfl (List.getElem?_eq_getElem li), ?_⟩
        refine ⟨_, rfl, _, rfl, a, _, 2, .int (j : Nat), rfl, rfl, .of ha3, rfl, L, lvs, _, lvs[j], rfl, rfl, .of hL3, at_of (j := j) rfl (List.getElem?_eq_getElem lj), ?_⟩
        refine ⟨_, rfl, a, _, 3, .int k, rfl, rfl, .of ha3, rfl, lvs[i], lvs[j], k, ci, cj, rfl, ti.ke k13, tj.ke k13, by omega, by omega, fun H' s' no => ?_, fun ns p H' s' a1 a2 a3 a4 up me hp => ?_⟩
        · refine q1 H' (s13.trans s') fun c hc => ?_
          obtain ⟨x, y', h1, h2, h3⟩ := hc
          cases hci.symm.trans h1
          cases hcj.symm.trans h2
          exact h3.no no
        · exact q2 ns p H' (s13.trans s') ⟨ci, cj, hci, hcj, a1, a2, a3, a4, up, me⟩ hp
end
end Ll
namespace Ll
open PySem PySem.Spec PyProof.Rows L2 GxR Nw Dr Kp Se Cl Ct Lr Lp
section
variable {P : Program} {w : World} {K : PySem.W.Frag} {mg : Str → Option Value} {base : Heap}
abbrev sSwy : Stmt := topS 46
abbrev nSwy : List Str := ["book", "claims", "i", "j", "some", "k", "row"]
theorem scSwy : FnScope nSwy ["book", "claims", "i", "j"] (defScope sSwy) := ⟨rfl, rfl, rfl, by decide +kernel, rfl, by decide +kernel, by decide +kernel⟩
/-- the ways to cut two rows -/
def spSwy : Sp := fun vs H Q _ => ∃ (b : V) (L : Addr) (i j : Nat) (css cls : List (List Int)), vs = [b, .ref L, .int (i : Nat), .int (j : Nat)] ∧ Bk H b css ∧ ClL H L cls ∧ (∀ c ∈ css, IsCl c) ∧ (∀ c ∈ cls, IsCl c) ∧
  ∀ (p : Addr) (rows : List Rw) (H' : Hp), Same H H' → RwL H' p rows → rows.length ≤ 16 → (∀ r ∈ rows, ∃ c, RowCl css cls r c) → Q (.ref p) H'
theorem RwL.same {H H' : Hp} {p : Addr} {rows : List Rw} (h : RwL H p rows) (s : Same H H') : RwL H' p rows := h.ke (Ke.same (F := Nof) s) fun z => z
theorem rw_snoc {H : Hp} {D : Addr} {vs : List V} {rows : List Rw} {x : V} {r : Rw} (hD : H D = some (.lst vs)) (h : All2 (RowAt H) vs rows) (hx : RowAt H x r) : RwL (upd H D (.lst (vs ++ [x]))) D (rows ++ [r]) :=
  ⟨_, upd_same, (h.imp fun _ _ r => RowAt.wr r hD).snoc (RowAt.wr hx hD)⟩
theorem ok_swy {f fR : Addr} {fd fdR : FuncData} {k : Nat} (F : Fun K "_law_sways" "_law_sways" sSwy f fd) (T : Zy mg) (FR : Fun K "_law_srow" "_law_srow" sSrw fR fdR) (bR : Binds K fdR ["book", "claims", "row"] []) (gR : mg "_law_srow" = some (.ref fR)) (GR : FnOk P w K mg base CX0 2 fR fdR ["book", "claims", "row"] spSrw) :
    FnOk P w K mg base CX0 (k + 3) f fd ["book", "claims", "i", "j"] spSwy := by
  refine F.ok scSwy (fun vs H Q E h => ?_) (fun cdv A outer s H vs Q E hr h => ?_)
  · obtain ⟨b, L, i, j, css, cls, rfl, _⟩ := h
    rfl
  · obtain ⟨b, L, i, j, css, cls, rfl, hb, hL, ib, ic, q⟩ := h
    have hr2 : Room 2 _ := hr.mono (by omega)
    refine ⟨_, (Evl.pss_cut (ps_setLc (i := 4) (own := [("k", 5)]) (g := (gName 5)) (tt := tYes) rfl scSwy.nd rfl rfl (sw_true rfl rfl rfl (by decide +kernel)) (pi_range2 (by rfl) T.z_range (pa_cons pe_int (pa_cons pe_int pa_nil))) (blkOk_by (N := nSwy) (sc := defScope sSwy) (by decide +kernel)) (fun _ _ _ _ _ => (pg_name (i := 5) scSwy.nd rfl (.inl rfl))) (fun _ _ _ _ _ => pts_nil) (fun _ _ _ _ _ => (pe_tupN (pa_cons pe_str (pa_cons (pv 2) (pa_cons (pv 3) (pa_cons (pv 5) pa_nil)))))))
      (Evl.pss_cut (ps_set (i := 4) scSwy.nd rfl (.inl rfl) (pe_op op_catN (pv 4) (pe_lc (own := [("k", 5)]) (g := (gName 5)) (tt := tYes) rfl scSwy.nd (pi_range2 (by rfl) T.z_range (pa_cons pe_int (pa_cons pe_int pa_nil))) (blkOk_by (N := nSwy) (sc := defScope sSwy) (by decide +kernel)) (fun _ _ _ _ _ => (pg_name (i := 5) scSwy.nd rfl (.inl rfl))) (fun _ _ _ _ _ => pts_nil) (fun _ _ _ _ _ => (pe_tupN (pa_cons pe_str (pa_cons (pv 3) (pa_cons (pv 2) (pa_cons (pv 5) pa_nil)))))))))
      (pss_one (ps_ret (pe_lc (own := [("row", 6)]) (g := (gName 6))  rfl scSwy.nd (pi_list (pv 4)) (blkOk_by (N := nSwy) (sc := defScope sSwy) (by decide +kernel)) (fun _ _ _ _ _ => (pg_name (i := 6) scSwy.nd rfl (.inl rfl))) (fun _ _ _ _ _ => (pts_one (pt_cmpR op_notN (pe_call GR hr2 (by rfl) gR FR.kp bR .nil pass0 (pa_cons (pv 0) (pa_cons (pv 1) (pa_cons (pv 6) pa_nil)))) pe_non (nomark _)))) (fun _ _ _ _ _ => (pv 6))))))), ?_⟩
    have step : ∀ (D : Addr) (H0 H2 : Hp) (rows : List Rw) (i j : Nat) (x : V) (k : Int) (vs : List V), H0 D = none → Same H0 H2 → H2 D = some (.lst vs) → All2 (RowAt H2) vs rows → rows.length ≤ 8 → ∀ (p : Addr) (H3 : Hp), Same H2 H3 → H3 p = some (.tup [.str "cut", .int (i : Nat), .int (j : Nat), .int k]) →
        H3 D = some (.lst vs) ∧ vs.length < sizeLine ∧ Same H0 (upd H3 D (.lst (vs ++ [.ref p]))) ∧ RwL (upd H3 D (.lst (vs ++ [.ref p]))) D (rows ++ [.cut i j k]) := fun D H0 H2 rows i j x k vs nD s2 hD aD l8 p H3 s3 hp => by
      have hD3 := s3 _ _ hD
      refine ⟨hD3, small1000 (by have := aD.1; omega), fun c o y => ?_, rw_snoc hD3 (aD.imp fun _ _ r => r.ke (Ke.same (F := Nof) s3)) ⟨p, rfl, hp⟩⟩
      rw [upd_ne (ne_of_none y nD)]
      exact (s2.trans s3) _ _ y
    refine Evl.q_cut (M := fun σ' H' => ∃ (D : Addr) (rows : List Rw), σ' = [some b, some (.ref L), some (.int (i : Nat)), some (.int (j : Nat)), some (.ref D), none, none] ∧ Same H H' ∧ RwL H' D rows ∧ rows.length ≤ 8) ?_ ?_
    · refine ⟨1, 9, rfl, ⟨by decide, by decide, by decide, by decide⟩, fun D nD => ?_⟩
      refine lc_range (Pv := fun t H' => Same H H' ∧ ∃ rows, RwL H' D rows ∧ rows.length = t) ⟨same_new nD, [], ⟨[], upd_same, .nil⟩, rfl⟩ ?_ ?_
      · rintro t H2 ht ⟨s2, rows, ⟨vs, hD, aD⟩, lr⟩
        have ht : t < 8 := ht
        refine ⟨rfl, _, rfl, _, rfl, _, rfl, by show 4 ≤ sizeLine; decide, fun p H3 np s3 hp _ => ?_⟩
        obtain ⟨h1, h2, h3, h4⟩ := step D H H2 rows i j .non _ vs nD s2 hD aD (by omega) p H3 s3 hp
        exact ⟨_, h1, h2, h3, _, h4, by rw [List.length_append, lr]; rfl⟩
      · rintro H2 ⟨s2, rows, hD, lr⟩
        exact ⟨D, rows, rfl, s2, hD, Nat.le_of_eq lr⟩
    rintro σ' H1 ⟨D1, rows1, rfl, s1, hD1, lr1⟩
    refine Evl.q_cut (M := fun σ' H' => ∃ (D : Addr) (rows : List Rw), σ' = [some b, some (.ref L), some (.int (i : Nat)), some (.int (j : Nat)), some (.ref D), none, none] ∧ Same H H' ∧ RwL H' D rows ∧ rows.length ≤ 16) ?_ ?_
    · refine ⟨_, rfl, 1, 9, rfl, ⟨by decide, by decide, by decide, by decide⟩, fun D nD => ?_⟩
      refine lc_range (Pv := fun t H' => Same H1 H' ∧ ∃ rows, RwL H' D rows ∧ rows.length = t) ⟨same_new nD, [], ⟨[], upd_same, .nil⟩, rfl⟩ ?_ ?_
      · rintro t H2 ht ⟨s2, rows, ⟨vs, hD, aD⟩, lr⟩
        have ht : t < 8 := ht
        refine ⟨rfl, _, rfl, _, rfl, _, rfl, by show 4 ≤ sizeLine; decide, fun p H3 np s3 hp _ => ?_⟩
        obtain ⟨h1, h2, h3, h4⟩ := step D H1 H2 rows j i .non _ vs nD s2 hD aD (by omega) p H3 s3 hp
        exact ⟨_, h1, h2, h3, _, h4, by rw [List.length_append, lr]; rfl⟩
      · rintro H2 ⟨s2, rows, ⟨vs, hD, aD⟩, lr⟩
        have lr : rows.length = 8 := lr
        obtain ⟨vs1, hd1, a1⟩ := RwL.same hD1 s2
        have l1 := a1.1
        have l2 := aD.1
        refine ⟨D1, D, _, _, rfl, rfl, hd1, hD, Nat.le_trans (by omega : _ ≤ 1000) (by decide), fun p H3 np s3 hp _ => ?_⟩
        refine ⟨p, rows1 ++ rows, rfl, s1.trans (s2.trans s3), ⟨_, hp, ?_⟩, by rw [List.length_append]; omega⟩
        exact (a1.imp fun _ _ r => r.ke (Ke.same (F := Nof) s3)).cat (aD.imp fun _ _ r => r.ke (Ke.same (F := Nof) s3))
    clear hD1 lr1
    rintro σ' H2 ⟨D2, rows2, rfl, s2, ⟨vs2, hD2, a2⟩, lr2⟩
    have hb2 := hb.ke (Ke.same (F := Nof) s2)
    have hL2 := hL.ke (Ke.same (F := Nof) s2) fun z => z
    refine ⟨_, rfl, D2, rfl, ⟨_, .of hD2⟩, fun D nD => ?_⟩
    refine lc_list (xs := vs2) (Pv := fun t H' => Same H2 H' ∧ ∃ rows, RwL H' D rows ∧ rows.length ≤ t ∧ ∀ r ∈ rows, ∃ c, RowCl css cls r c) ⟨same_new nD, [], ⟨[], upd_same, .nil⟩, Nat.le_refl _, fun r h => nomatch h⟩ (fun t H' _ z => .of (z.1 _ _ hD2)) ?_ ?_
    · rintro t v H3 hv ⟨s3, rows, ⟨vs, hD, aD⟩, lr, ok⟩
      obtain ⟨r, hr', rv⟩ := a2.at hv
      have lt := (List.getElem?_eq_some_iff.mp hr').1
      have k3 : Ke Nof H2 H3 := .same s3
      refine ⟨rfl, _, rfl, _, rfl, _, rfl, b, v, L, css, cls, r, rfl, hb2.ke k3, hL2.ke k3 fun z => z, rv.ke k3, ib, ic, fun H4 s4 no => ?_, fun c p H4 s4 rc hp => ?_⟩
      · refine ⟨rfl, false, rfl, ?_⟩
        exact ⟨s3.trans s4, rows, RwL.same ⟨vs, hD, aD⟩ s4, by omega, ok⟩
      · refine ⟨rfl, true, rfl, ?_⟩
        have hD4 := s4 _ _ hD
        refine ⟨_, rfl, _, hD4, small1000 (by have := aD.1; omega), fun c o y => ?_, rows ++ [r], ?_, by rw [List.length_append]; show rows.length + 1 ≤ t + 1; omega, fun r' hr2 => ?_⟩
        · rw [upd_ne (ne_of_none y nD)]
          exact (s3.trans s4) _ _ y
        · exact rw_snoc hD4 (aD.imp fun _ _ r => r.ke (Ke.same (F := Nof) s4)) ((rv.ke k3).ke (Ke.same (F := Nof) s4))
        · rcases List.mem_append.mp hr2 with z | z
          · exact ok r' z
          · rw [List.mem_singleton.mp z]
            exact ⟨c, rc⟩
    · rintro H3 ⟨s3, rows, hD, lr, ok⟩
      exact q D rows H3 (s2.trans s3) hD (by have := a2.1; omega) ok
end
end Ll
namespace Ll
open PySem PySem.Spec PyProof.Rows L2 GxR Nw Dr Kp Se Cl Ct Lr Lp
section
variable {P : Program} {w : World} {K : PySem.W.Frag} {mg : Str → Option Value} {base : Heap}
abbrev sSld : Stmt := topS 47
abbrev nSld : List Str := ["feed", "book", "many", "rows", "claims", "turn", "near", "i", "j", "ways", "row"]
theorem scSld : FnScope nSld ["feed", "book", "many"] (defScope sSld) := ⟨rfl, rfl, rfl, by decide +kernel, rfl, by decide +kernel, by decide +kernel⟩
/-- rows and claims as they grow -/
structure Sv (f c R C : Addr) (rows : List Rw) (cls : List (List Int)) (B : Nat) (H H' : Hp) : Prop where
  fe : Feed H' f c B
  ke : Ke (· = f) H H'
  rw : RwL H' R rows
  cl : ClL H' C cls
theorem Sv.step {f c R C : Addr} {rows : List Rw} {cls : List (List Int)} {B B' : Nat} {H H' H'' : Hp} (x : Sv f c R C rows cls B H H') (k : Ke (· = f) H' H'') (F : Feed H'' f c B') (nR : R ≠ f) (nC : C ≠ f) : Sv f c R C rows cls B' H H'' := ⟨F, x.ke.trans k, x.rw.ke k nR, x.cl.ke k nC⟩
theorem Sv.same {f c R C : Addr} {rows : List Rw} {cls : List (List Int)} {B : Nat} {H H' H'' : Hp} (x : Sv f c R C rows cls B H H') (s : Same H' H'') (nR : R ≠ f) (nC : C ≠ f) : Sv f c R C rows cls B H H'' := x.step (.same s) (x.fe.same s) nR nC
def spSld : Sp := fun vs H Q _ => ∃ (f c : Addr) (b : V) (m : Int) (B : Nat) (css : List (List Int)), vs = [.ref f, b, .int m] ∧ 1 ≤ m ∧ m ≤ 200 ∧ Bk H b css ∧ (∀ c ∈ css, IsCl c) ∧ 1 ≤ css.length ∧ css.length ≤ 16 ∧ Feed H f c B ∧ B ≤ 2 ^ 57 ∧
  ∀ (p : Addr) (rows : List Rw) (cls : List (List Int)) (H' : Hp), Feed H' f c (B + 2000) → Ke (· = f) H H' → Frs H p → RwL H' p rows → Lad css rows cls → (rows.length : Int) = m → Q (.ref p) H'
theorem one2 {α β : Type} {R : α → β → Prop} {x : α} {y : β} (r : R x y) : All2 R [x] [y] := All2.nil.snoc r
theorem ok_sld {f fD fY fR : Addr} {fd fdD fdY fdR : FuncData} {k : Nat} (F : Fun K "_law_sladder" "_law_sladder" sSld f fd) (T : Zy mg) (FD : Fun K "_law_sdraw" "_law_sdraw" sDrw fD fdD) (bD : Binds K fdD ["feed", "many"] []) (gD : mg "_law_sdraw" = some (.ref fD)) (GD : FnOk P w K mg base CX0 2 fD fdD ["feed", "many"] spDrw)
    (FY : Fun K "_law_sways" "_law_sways" sSwy fY fdY) (bY : Binds K fdY ["book", "claims", "i", "j"] []) (gY : mg "_law_sways" = some (.ref fY)) (GY : FnOk P w K mg base CX0 3 fY fdY ["book", "claims", "i", "j"] spSwy)
    (FR : Fun K "_law_srow" "_law_srow" sSrw fR fdR) (bR : Binds K fdR ["book", "claims", "row"] []) (gR : mg "_law_srow" = some (.ref fR)) (GR : FnOk P w K mg base CX0 2 fR fdR ["book", "claims", "row"] spSrw) :
    FnOk P w K mg base CX0 (k + 4) f fd ["feed", "book", "many"] spSld := by
  refine F.ok scSld (fun vs H Q E h => ?_) (fun cdv A outer s H vs Q E hr h => ?_)
  · obtain ⟨f, c, b, m, B, css, rfl, _⟩ := h
    rfl
  · obtain ⟨f, c, b, m, B, css, rfl, m1, m2, hb, ib, c1, c2, hF, hB, q⟩ := h
    have hr2 : Room 2 _ := hr.mono (by omega)
    have hr3 : Room 3 _ := hr.mono (by omega)
    refine ⟨_, (Evl.pss_cut (ps_set (i := 3) scSld.nd rfl (.inl rfl) (pe_lstN (pa_cons (pe_tupN (pa_cons pe_str (pa_cons (pe_call GD hr2 (by rfl) gD FD.kp bD .nil pass0 (pa_cons (pv 0) (pa_cons (pe_callB call_len_seq (by rfl) T.z_len (by decide +kernel) (pa_cons (pv 1) pa_nil)) pa_nil))) pa_nil))) pa_nil)))
      (Evl.pss_cut (ps_set (i := 4) scSld.nd rfl (.inl rfl) (pe_lstN (pa_cons (pe_ix ix_tup (pv 1) (pe_ix ix_tup (pe_ix ix_list (pv 3) pe_int (fun _ _ => rfl)) pe_int (fun _ _ => rfl)) (fun _ _ => rfl)) pa_nil)))
      (pss_cons (ps_for PassesOwn.never rfl (pi_range1 (by rfl) T.z_range (pa_cons (pe_op op_sub (pv 2) pe_int) pa_nil)) (pg_name (i := 5) scSld.nd rfl (.inl rfl)) (Evl.pss_cut (ps_set (i := 6) scSld.nd rfl (.inl rfl) (pe_callB (call_min2 rfl) (by rfl) T.z_min (by decide +kernel) (pa_cons (pe_callB call_len_seq (by rfl) T.z_len (by decide +kernel) (pa_cons (pv 3) pa_nil)) (pa_cons (pe_op op_add pe_int (pe_call GD hr2 (by rfl) gD FD.kp bD .nil pass0 (pa_cons (pv 0) (pa_cons pe_int pa_nil)))) pa_nil))))
      (Evl.pss_cut (ps_set (i := 7) scSld.nd rfl (.inl rfl) (pe_op op_sub (pe_op op_sub (pe_callB call_len_seq (by rfl) T.z_len (by decide +kernel) (pa_cons (pv 3) pa_nil)) pe_int) (pe_call GD hr2 (by rfl) gD FD.kp bD .nil pass0 (pa_cons (pv 0) (pa_cons (pv 6) pa_nil)))))
      (Evl.pss_cut (ps_set (i := 8) scSld.nd rfl (.inl rfl) (pe_call GD hr2 (by rfl) gD FD.kp bD .nil pass0 (pa_cons (pv 0) (pa_cons (pe_callB call_len_seq (by rfl) T.z_len (by decide +kernel) (pa_cons (pv 3) pa_nil)) pa_nil))))
      (Evl.pss_cut (ps_set (i := 9) scSld.nd rfl (.inl rfl) (pe_call GY hr3 (by rfl) gY FY.kp bY .nil pass0 (pa_cons (pv 1) (pa_cons (pv 4) (pa_cons (pv 7) (pa_cons (pv 8) pa_nil))))))
      (Evl.pss_cut (ps_set (i := 10) scSld.nd rfl (.inl rfl) (pe_tupN (pa_cons pe_str (pa_cons (pe_call GD hr2 (by rfl) gD FD.kp bD .nil pass0 (pa_cons (pv 0) (pa_cons (pe_callB call_len_seq (by rfl) T.z_len (by decide +kernel) (pa_cons (pv 1) pa_nil)) pa_nil))) pa_nil))))
      (Evl.pss_cut (ps_if (pt_cmpR (op_neD hr.units) (pv 9) (pe_lstN pa_nil) (nomark _)) (pss_one (ps_set (i := 10) scSld.nd rfl (.inl rfl) (pe_ix ix_list (pv 9) (pe_call GD hr2 (by rfl) gD FD.kp bD .nil pass0 (pa_cons (pv 0) (pa_cons (pe_callB call_len_seq (by rfl) T.z_len (by decide +kernel) (pa_cons (pv 9) pa_nil)) pa_nil))) (fun _ _ => rfl)))) pss_nil)
      (Evl.pss_cut (ps_expr (pe_bm PySem.F.plainAttrs_list PySem.F.slot_list_append PySem.F.type_list_append mt_append (pv 3) (pa_cons (pv 10) pa_nil)))
      (pss_one (ps_expr (pe_bm PySem.F.plainAttrs_list PySem.F.slot_list_append PySem.F.type_list_append mt_append (pv 4) (pa_cons (pe_call GR hr2 (by rfl) gR FR.kp bR .nil pass0 (pa_cons (pv 1) (pa_cons (pv 4) (pa_cons (pv 10) pa_nil)))) pa_nil))))))))))))
      (pss_one (ps_ret (pv 3)))))), ?_⟩
    obtain ⟨ba, bvs, rfl, hbt, aB⟩ := bk_all hb
    have lb := aB.1
    -- rows
    refine Evl.q_cut (M := fun σ' H' => ∃ (R : Addr) (n : Nat), σ' = [some (.ref f), some (.ref ba), some (.int m), some (.ref R), none, none, none, none, none, none, none] ∧ n < css.length ∧ Feed H' f c (B + 1) ∧ Ke (· = f) H H' ∧ RwL H' R [.book n] ∧ Frs H R ∧ R ≠ f ∧ R ≠ c) ?_ ?_
    · refine ⟨_, rfl, _, rfl, ba, _, rfl, .inr (.of hbt), f, c, _, B, rfl, by omega, by omega, hF, by omega, fun d H1 d0 d1 F1 b1 => ?_⟩
      refine ⟨by show 2 ≤ sizeLine; decide, fun p H2 np s2 hp _ => ?_⟩
      refine ⟨by show 1 ≤ sizeLine; decide, fun R H3 nR s3 hR _ => ?_⟩
      have k1 : Ke (· = f) H H1 := .but hF b1
      have k2 : Ke (· = f) H H2 := k1.trans (.same s2)
      have F2 := F1.same s2
      have hp3 := s3 _ _ hp
      have e : d = ((d.toNat : Nat) : Int) := (Int.toNat_of_nonneg d0).symm
      rw [e] at hp3
      exact ⟨R, d.toNat, rfl, by omega, F2.same s3, k2.trans (.same s3), ⟨_, hR, one2 ⟨p, rfl, hp3⟩⟩, .ke k2 F2 (.of nR), F2.nf nR, F2.nc nR⟩
    rintro σ' H1 ⟨R, n, rfl, ln, F1, k1, hR, frR, nRf, nRc⟩
    -- claims
    refine Evl.q_cut (M := fun σ' H' => ∃ (C : Addr) (c0 : List Int), σ' = [some (.ref f), some (.ref ba), some (.int m), some (.ref R), some (.ref C), none, none, none, none, none, none] ∧ css[n]? = some c0 ∧ Sv f c R C [.book n] [c0] (B + 1) H H' ∧ Frs H C ∧ C ≠ f ∧ C ≠ c ∧ C ≠ R) ?_ ?_
    · obtain ⟨rvs, hR1, aR⟩ := id hR
      have l1 := aR.1
      match rvs, l1 with
      | [v], _ =>
        obtain ⟨a, rfl, ha⟩ := aR.2 0 v _ rfl rfl
        have hb1 := k1.tups _ _ hbt
        have lbn : n < bvs.length := by omega
        obtain ⟨c0, hc0, p, ep, hp⟩ := aB.at (List.getElem?_eq_getElem lbn)
        refine ⟨_, rfl, _, rfl, R, _, 0, .ref a, rfl, rfl, .of hR1, rfl, a, _, 1, .int (n : Nat), rfl, rfl, .of ha, rfl, ba, bvs, _, .ref p, rfl, rfl, .of hb1, at_of (j := n) rfl (by rw [List.getElem?_eq_getElem lbn, ep]), ?_⟩
        refine ⟨by show 1 ≤ sizeLine; decide, fun C H2 nC s2 hC _ => ?_⟩
        have k2 : Ke (· = f) H1 H2 := .same s2
        refine ⟨C, c0, rfl, hc0, ⟨F1.same s2, k1.trans k2, hR.ke k2 nRf, ⟨_, hC, one2 ⟨p, rfl, (k1.trans k2).tups _ _ hp⟩⟩⟩, .ke k1 F1 (.of nC), F1.nf nC, F1.nc nC, fun z => ?_⟩
        rw [z, hR1] at nC
        cases nC
    clear hR
    rintro σ' H2 ⟨C, c0, rfl, hc0, x2, frC, nCf, nCc, nCR⟩
    have ld0 : Lad css [Rw.book n] [c0] := (Lad.nil css).snoc hc0
    refine ⟨_, rfl, _, _, rfl, rfl, m - 1, rfl, by omega, by omega, for_range (Pv := fun t σ H' => ∃ (rows : List Rw) (cls : List (List Int)) (y5 y6 y7 y8 y9 y10 : Option V), σ = [some (.ref f), some (.ref ba), some (.int m), some (.ref R), some (.ref C), y5, y6, y7, y8, y9, y10] ∧ Sv f c R C rows cls (B + 1 + 5 * t) H H' ∧ Lad css rows cls ∧ rows.length = t + 1) ?_ ?_ ?_⟩
    · exact ⟨_, _, none, none, none, none, none, none, rfl, x2, ld0, rfl⟩
    · rintro t σ H3 ht ⟨rows, cls, y5, y6, y7, y8, y9, y10, rfl, x3, ld, lr⟩
      have ht : t < (m - 1).toNat := ht
      have lcl := ld.1
      have icl := ld.isCl ib
      obtain ⟨rvs, hR3, aR⟩ := id x3.rw
      have lrv := aR.1
      -- near
      refine Evl.q_cut (M := fun σ' H' => ∃ z : Int, σ' = [some (.ref f), some (.ref ba), some (.int m), some (.ref R), some (.ref C), some (.int (0 + (t : Int))), some (.int z), y7, y8, y9, y10] ∧ Sv f c R C rows cls (B + 1 + 5 * t + 1) H H' ∧ 1 ≤ z ∧ z ≤ rows.length) ?_ ?_
      · refine ⟨_, rfl, R, _, rfl, .inl (.of hR3), _, rfl, f, c, 6, _, rfl, by decide, by decide, x3.fe, by omega, fun d H4 d0 d1 F4 b4 => ?_⟩
        refine ⟨_, _, rfl, rfl, _, _, rfl, ?_⟩
        refine ⟨_, rfl, x3.step (.but x3.fe b4) F4 nRf nCf, ?_, ?_⟩
        · split <;> omega
        · split <;> omega
      clear hR3 aR
      rintro σ' H4 ⟨z, rfl, x4, z1, z2⟩
      obtain ⟨rvs, hR4, aR⟩ := id x4.rw
      have lrv := aR.1
      -- i
      refine Evl.q_cut (M := fun σ' H' => ∃ i : Nat, σ' = [some (.ref f), some (.ref ba), some (.int m), some (.ref R), some (.ref C), some (.int (0 + (t : Int))), some (.int z), some (.int (i : Nat)), y8, y9, y10] ∧ Sv f c R C rows cls (B + 1 + 5 * t + 2) H H') ?_ ?_
      · refine ⟨_, rfl, R, _, rfl, .inl (.of hR4), _, _, rfl, rfl, _, rfl, _, rfl, f, c, _, _, rfl, by omega, by omega, x4.fe, by omega, fun d H5 d0 d1 F5 b5 => ?_⟩
        refine ⟨_, _, rfl, rfl, ?_⟩
        refine ⟨((rvs.length : Int) - 1 - d).toNat, ?_, x4.step (.but x4.fe b5) F5 nRf nCf⟩
        rw [Int.toNat_of_nonneg (by omega)]
        rfl
      clear hR4 aR
      rintro σ' H5 ⟨i, rfl, x5⟩
      obtain ⟨rvs, hR5, aR⟩ := id x5.rw
      have lrv := aR.1
      -- j
      refine Evl.q_cut (M := fun σ' H' => ∃ j : Nat, σ' = [some (.ref f), some (.ref ba), some (.int m), some (.ref R), some (.ref C), some (.int (0 + (t : Int))), some (.int z), some (.int (i : Nat)), some (.int (j : Nat)), y9, y10] ∧ Sv f c R C rows cls (B + 1 + 5 * t + 3) H H') ?_ ?_
      · refine ⟨_, rfl, _, rfl, R, _, rfl, .inl (.of hR5), f, c, _, _, rfl, by omega, by omega, x5.fe, by omega, fun d H6 d0 d1 F6 b6 => ?_⟩
        refine ⟨d.toNat, ?_, x5.step (.but x5.fe b6) F6 nRf nCf⟩
        rw [Int.toNat_of_nonneg d0]
        rfl
      clear hR5 aR
      rintro σ' H6 ⟨j, rfl, x6⟩
      -- ways
      refine Evl.q_cut (M := fun σ' H' => ∃ (W : Addr) (ws : List Rw), σ' = [some (.ref f), some (.ref ba), some (.int m), some (.ref R), some (.ref C), some (.int (0 + (t : Int))), some (.int z), some (.int (i : Nat)), some (.int (j : Nat)), some (.ref W), y10] ∧ Sv f c R C rows cls (B + 1 + 5 * t + 3) H H' ∧ RwL H' W ws ∧ ws.length ≤ 16 ∧ W ≠ f ∧ ∀ r ∈ ws, ∃ c, RowCl css cls r c) ?_ ?_
      · refine ⟨_, rfl, _, rfl, _, rfl, _, rfl, .ref ba, C, i, j, css, cls, rfl, hb.ke x6.ke, x6.cl, ib, icl, fun W ws H7 s7 hW lw ok => ?_⟩
        refine ⟨W, ws, rfl, x6.same s7 nRf nCf, hW, lw, fun z => ?_, ok⟩
        have := x6.fe.same s7
        obtain ⟨_, _, _, h1, _⟩ := this
        obtain ⟨wvs, h2, a2⟩ := hW
        rw [z, h1] at h2
        cases h2
        have h4 := a2.at (i := 1) rfl
        obtain ⟨y2, _, a', e', _⟩ := h4
        cases e'
      rintro σ' H7 ⟨W, ws, rfl, x7, hW, lw, nWf, ok⟩
      -- row
      refine Evl.q_cut (M := fun σ' H' => ∃ (v : V) (n : Nat), σ' = [some (.ref f), some (.ref ba), some (.int m), some (.ref R), some (.ref C), some (.int (0 + (t : Int))), some (.int z), some (.int (i : Nat)), some (.int (j : Nat)), some (.ref W), some v] ∧ Sv f c R C rows cls (B + 1 + 5 * t + 4) H H' ∧ RwL H' W ws ∧ n < css.length ∧ RowAt H' v (.book n)) ?_ ?_
      · refine ⟨_, rfl, _, rfl, ba, _, rfl, .inr (.of (x7.ke.tups _ _ hbt)), f, c, _, _, rfl, by omega, by omega, x7.fe, by omega, fun d H8 d0 d1 F8 b8 => ?_⟩
        refine ⟨by show 2 ≤ sizeLine; decide, fun p H9 np s9 hp _ => ?_⟩
        have k8 : Ke (· = f) H7 H8 := .but x7.fe b8
        have e : d = ((d.toNat : Nat) : Int) := (Int.toNat_of_nonneg d0).symm
        rw [e] at hp
        exact ⟨_, d.toNat, rfl, (x7.step k8 F8 nRf nCf).same s9 nRf nCf, (hW.ke k8 nWf).ke (Ke.same (F := (· = f)) s9) nWf, by omega, p, rfl, hp⟩
      clear hW
      rintro σ' H8 ⟨v, n', rfl, x8, hW, ln', rv⟩
      -- one of the ways
      refine Evl.q_cut (M := fun σ' H' => ∃ (v : V) (r : Rw) (cr : List Int), σ' = [some (.ref f), some (.ref ba), some (.int m), some (.ref R), some (.ref C), some (.int (0 + (t : Int))), some (.int z), some (.int (i : Nat)), some (.int (j : Nat)), some (.ref W), some v] ∧ Sv f c R C rows cls (B + 1 + 5 * t + 5) H H' ∧ RowAt H' v r ∧ RowCl css cls r cr) ?_ ?_
      · obtain ⟨wvs, hW8, aW⟩ := id hW
        refine ⟨_, rfl, Nat.zero_le _, fun p H9 np s9 hp _ => ?_⟩
        have x9 := x8.same s9 nRf nCf
        have hW9 := hW.ke (Ke.same (F := (· = f)) s9) nWf
        obtain ⟨wvs, hW9', aW9⟩ := id hW9
        match ws, wvs, aW9, hW9', ok, lw with
        | [], [], _, hW9', _, _ =>
          refine ⟨_, _, .lst (.of hW9') .nil, .lst (.of hp) .nil, rfl, rfl, false, rfl, ?_⟩
          refine ⟨v, .book n', css[n'], rfl, ⟨x9.fe.mono (by omega), x9.ke, x9.rw, x9.cl⟩, rv.ke (Ke.same (F := (· = f)) s9), List.getElem?_eq_getElem ln'⟩
        | [], _ :: _, aW9, _, _, _ => cases aW9.1
        | _ :: _, [], aW9, _, _, _ => cases aW9.1
        | r0 :: rt, v0 :: vt, aW9, hW9', ok, lw =>
          refine ⟨_, _, .lst (.of hW9') (dp_rows aW9), .lst (.of hp) .nil, shaped_rows (r0 :: rt), rfl, true, rfl, ?_⟩
          have lw2 := aW9.1
          refine ⟨_, rfl, _, rfl, _, rfl, W, _, rfl, .inl (.of hW9'), f, c, _, _, rfl, by rw [lw2, List.length_cons]; omega, by rw [lw2]; omega, x9.fe, by omega, fun d H10 d0 d1 F10 b10 => ?_⟩
          have k10 : Ke (· = f) H9 H10 := .but x9.fe b10
          have dl : d.toNat < (v0 :: vt).length := by omega
          obtain ⟨r, hr', rv'⟩ := aW9.at (List.getElem?_eq_getElem dl)
          obtain ⟨cr, hcr⟩ := ok r (List.mem_of_getElem? hr')
          refine ⟨W, _, d, _, rfl, rfl, .of (k10.lst hW9' nWf), at_of (j := d.toNat) (by omega) (List.getElem?_eq_getElem dl), ?_⟩
          exact ⟨_, r, cr, rfl, x9.step k10 F10 nRf nCf, rv'.ke k10, hcr⟩
      clear rv hW
      rintro σ' H9 ⟨v, r, cr, rfl, x9, rv, rc⟩
      -- rows.append(row)
      obtain ⟨rvs, hR9, aR⟩ := id x9.rw
      obtain ⟨cvs, hC9, aC⟩ := id x9.cl
      have l1 := aR.1
      have l2 := aC.1
      refine Evl.q_cut (M := fun σ' H' => σ' = [some (.ref f), some (.ref ba), some (.int m), some (.ref R), some (.ref C), some (.int (0 + (t : Int))), some (.int z), some (.int (i : Nat)), some (.int (j : Nat)), some (.ref W), some v] ∧ Sv f c R C (rows ++ [r]) cls (B + 1 + 5 * t + 5) H H' ∧ RowAt H' v r) ?_ ?_
      · refine ⟨_, rfl, .inl ⟨rfl, _, .of hR9⟩, _, rfl, R, _, _, rfl, rfl, hR9, small1000 (by omega), ?_⟩
        refine ⟨rfl, ⟨x9.fe.upd nRf nRc, x9.ke.write frR hR9, rw_snoc hR9 aR rv, ?_⟩, RowAt.wr rv hR9⟩
        exact ⟨cvs, by rw [upd_ne nCR]; exact hC9, aC.imp fun _ _ h => TupI.wr h hR9⟩
      clear hR9 hC9 aR aC l1 l2
      rintro σ' H10 ⟨rfl, x10, rv⟩
      -- claims.append(..)
      obtain ⟨cvs, hC10, aC⟩ := id x10.cl
      have l2 := aC.1
      refine ⟨_, rfl, .inl ⟨rfl, _, .of hC10⟩, _, rfl, _, rfl, _, rfl, .ref ba, v, C, css, cls, r, rfl, hb.ke x10.ke, x10.cl, rv, ib, icl, fun H11 s11 no => (no _ rc).elim, fun c' p H11 s11 rc' hp => ?_⟩
      obtain rfl := rc.one rc'
      have hC11 := s11 _ _ hC10
      have x11 := x10.same s11 nRf nCf
      refine ⟨C, _, _, rfl, rfl, hC11, small1000 (by omega), ?_⟩
      obtain ⟨rvs, hR11, aR⟩ := id x11.rw
      refine ⟨rows ++ [r], cls ++ [cr], _, _, _, _, _, _, rfl, ⟨(x11.fe.upd nCf nCc).mono (by omega), x11.ke.write frC hC11, ?_, ?_⟩, ld.snoc rc, by rw [List.length_append, lr]; rfl⟩
      · exact ⟨rvs, by rw [upd_ne (Ne.symm nCR)]; exact hR11, aR.imp fun _ _ h => RowAt.wr h hC11⟩
      · exact cl_snoc hC11 (aC.imp fun _ _ h => h.ke (Ke.same (F := Nof) s11)) ⟨p, rfl, hp⟩
    · rintro σ H3 ⟨rows, cls, y5, y6, y7, y8, y9, y10, rfl, x3, ld, lr⟩
      exact ⟨_, rfl, q R rows cls H3 (x3.fe.mono (by omega)) x3.ke frR x3.rw ld (by omega)⟩
abbrev sSca : Stmt := topS 44
theorem scSca : FnScope ["feed", "things", "book", "most"] ["feed"] (defScope sSca) := ⟨rfl, rfl, rfl, by decide +kernel, rfl, by decide +kernel, by decide +kernel⟩
/-- a book and a ladder by it, drawn -/
def spSca : Sp := fun vs H Q _ => ∃ (f c : Addr) (B : Nat), vs = [.ref f] ∧ Feed H f c B ∧ B ≤ 2 ^ 56 ∧
  ∀ (t L : Addr) (b : V) (css cls : List (List Int)) (rows : List Rw) (H' : Hp), Feed H' f c (B + 3000) → Ke (· = f) H H' → H' t = some (.tup [b, .ref L]) → L ≠ f → L ≠ c → Frs H L → BL H' b L css rows cls → 1 ≤ css.length → css.length ≤ 16 → 1 ≤ rows.length → rows.length ≤ 40 → Q (.ref t) H'
theorem not_f {H : Hp} {p f c : Addr} {B : Nat} (h : Frs H p) (F : Feed H f c B) : p ≠ f ∧ p ≠ c := by
  obtain ⟨_, _, _, h1, h2, _⟩ := F
  exact ⟨Ne.symm (h f _ h1 fun ps z => by cases z), Ne.symm (h c _ h2 fun ps z => by cases z)⟩
theorem pick {ns : List Int} {d : Int} (d0 : 0 ≤ d) (d1 : d < ns.length) : ∃ mo, mo ∈ ns ∧ atI (ns.map V.int) d = some (.int mo) := by
  have l : d.toNat < ns.length := by omega
  exact ⟨ns[d.toNat], List.getElem_mem l, at_of (j := d.toNat) (by omega) (by rw [List.getElem?_map, List.getElem?_eq_getElem l]; rfl)⟩
theorem ok_sca {f fD fT fB fL : Addr} {fd fdD fdT fdB fdL : FuncData} {k : Nat} (F : Fun K "_law_scase" "_law_scase" sSca f fd) (FD : Fun K "_law_sdraw" "_law_sdraw" sDrw fD fdD) (bD : Binds K fdD ["feed", "many"] []) (gD : mg "_law_sdraw" = some (.ref fD)) (GD : FnOk P w K mg base CX0 2 fD fdD ["feed", "many"] spDrw)
    (FT : Fun K "_law_sthings" "_law_sthings" sThg fT fdT) (bT : Binds K fdT ["feed", "least", "most"] []) (gT : mg "_law_sthings" = some (.ref fT)) (GT : FnOk P w K mg base CX0 3 fT fdT ["feed", "least", "most"] spThg)
    (FB : Fun K "_law_sbook" "_law_sbook" sBok fB fdB) (bB : Binds K fdB ["feed", "things", "most"] []) (gB : mg "_law_sbook" = some (.ref fB)) (GB : FnOk P w K mg base CX0 4 fB fdB ["feed", "things", "most"] spBok)
    (FL : Fun K "_law_sladder" "_law_sladder" sSld fL fdL) (bL : Binds K fdL ["feed", "book", "many"] []) (gL : mg "_law_sladder" = some (.ref fL)) (GL : FnOk P w K mg base CX0 4 fL fdL ["feed", "book", "many"] spSld) :
    FnOk P w K mg base CX0 (k + 5) f fd ["feed"] spSca := by
  refine F.ok scSca (fun vs H Q E h => ?_) (fun cdv A outer s H vs Q E hr h => ?_)
  · obtain ⟨f, c, B, rfl, _⟩ := h
    rfl
  · obtain ⟨f, c, B, rfl, hF, hB, q⟩ := h
    have hr2 : Room 2 _ := hr.mono (by omega)
    have hr3 : Room 3 _ := hr.mono (by omega)
    have hr4 : Room 4 _ := hr.mono (by omega)
    refine ⟨_, (Evl.pss_cut (ps_set (i := 1) scSca.nd rfl (.inl rfl) (pe_call GT hr3 (by rfl) gT FT.kp bT .nil pass0 (pa_cons (pv 0) (pa_cons pe_int (pa_cons (pe_ix ix_list (pe_lstN (pa_cons pe_int (pa_cons pe_int pa_nil))) (pe_call GD hr2 (by rfl) gD FD.kp bD .nil pass0 (pa_cons (pv 0) (pa_cons pe_int pa_nil))) (fun _ _ => rfl)) pa_nil)))))
      (Evl.pss_cut (ps_set (i := 2) scSca.nd rfl (.inl rfl) (pe_call GB hr4 (by rfl) gB FB.kp bB .nil pass0 (pa_cons (pv 0) (pa_cons (pv 1) (pa_cons (pe_ix ix_list (pe_lstN (pa_cons pe_int (pa_cons pe_int (pa_cons pe_int pa_nil)))) (pe_call GD hr2 (by rfl) gD FD.kp bD .nil pass0 (pa_cons (pv 0) (pa_cons pe_int pa_nil))) (fun _ _ => rfl)) pa_nil)))))
      (Evl.pss_cut (ps_set (i := 3) scSca.nd rfl (.inl rfl) (pe_ix ix_list (pe_lstN (pa_cons pe_int (pa_cons pe_int (pa_cons pe_int pa_nil)))) (pe_call GD hr2 (by rfl) gD FD.kp bD .nil pass0 (pa_cons (pv 0) (pa_cons pe_int pa_nil))) (fun _ _ => rfl)))
      (pss_one (ps_ret (pe_tupN (pa_cons (pv 2) (pa_cons (pe_call GL hr4 (by rfl) gL FL.kp bL .nil pass0 (pa_cons (pv 0) (pa_cons (pv 2) (pa_cons (pe_op op_add pe_int (pe_call GD hr2 (by rfl) gD FD.kp bD .nil pass0 (pa_cons (pv 0) (pa_cons (pv 3) pa_nil)))) pa_nil)))) pa_nil)))))))), ?_⟩
    -- things
    refine Evl.q_cut (M := fun σ' H' => ∃ (t : Addr) (ks : List Int), σ' = [some (.ref f), some (.ref t), none, none] ∧ Feed H' f c (B + 20) ∧ Ke (· = f) H H' ∧ H' t = some (.lst (ks.map V.int)) ∧ t ≠ f ∧ Thg ks ∧ 2 ≤ ks.length) ?_ ?_
    · refine ⟨_, rfl, by show 2 ≤ sizeLine; decide, fun p H1 np s1 hp _ => ?_⟩
      refine ⟨_, rfl, f, c, 2, B, rfl, by decide, by decide, hF.same s1, by omega, fun d H2 d0 d1 F2 b2 => ?_⟩
      have npf : p ≠ f := hF.nf np
      have hp2 := (b2 p npf).trans hp
      have k2 : Ke (· = f) H H2 := (Ke.same s1).trans (.but (hF.same s1) b2)
      obtain ⟨mo, hm, hat⟩ := pick (ns := [6, 8]) d0 d1
      have hm2 : mo = 6 ∨ mo = 8 := by simpa using hm
      refine ⟨p, _, d, .int mo, rfl, rfl, .of hp2, hat, f, c, 2, mo, _, rfl, by decide, by omega, by omega, F2, by omega, fun ks t H3 F3 k3 fr ht Tk l1 l2 => ?_⟩
      exact ⟨t, ks, rfl, F3.mono (by omega), k2.trans k3, ht, (not_f fr F2).1, Tk, by omega⟩
    rintro σ' H1 ⟨t, ks, rfl, F1, k1, ht, ntf, Tk, l2⟩
    -- book
    refine Evl.q_cut (M := fun σ' H' => ∃ (b : V) (css : List (List Int)), σ' = [some (.ref f), some (.ref t), some b, none] ∧ Feed H' f c (B + 600) ∧ Ke (· = f) H H' ∧ Bk H' b css ∧ (∀ c ∈ css, IsCl c) ∧ 1 ≤ css.length ∧ css.length ≤ 16) ?_ ?_
    · refine ⟨_, rfl, _, rfl, by show 3 ≤ sizeLine; decide, fun p H2 np s2 hp _ => ?_⟩
      refine ⟨_, rfl, f, c, 3, _, rfl, by decide, by decide, F1.same s2, by omega, fun d H3 d0 d1 F3 b3 => ?_⟩
      have npf : p ≠ f := F1.nf np
      have hp3 := (b3 p npf).trans hp
      have k3 : Ke (· = f) H1 H3 := (Ke.same s2).trans (.but (F1.same s2) b3)
      obtain ⟨mo, hm, hat⟩ := pick (ns := [9, 9, 16]) d0 d1
      have hm2 : mo = 9 ∨ mo = 16 := by simpa using hm
      refine ⟨p, _, d, .int mo, rfl, rfl, .of hp3, hat, f, c, t, mo, _, ks, rfl, by omega, by omega, k3.lst ht ntf, Tk, (fun z => by rw [z] at l2; cases l2), ntf, F3, by omega, fun css pb H4 F4 k4 _ hb hc m1 m2 => ?_⟩
      exact ⟨_, css, rfl, F4.mono (by omega), (k1.trans k3).trans k4, hb, fun c hc' => (hc c hc').1, m1, by omega⟩
    rintro σ' H2 ⟨b, css, rfl, F2, k2, hb, ib, m1, m2⟩
    -- most
    refine Evl.q_cut (M := fun σ' H' => ∃ mo : Int, σ' = [some (.ref f), some (.ref t), some b, some (.int mo)] ∧ Feed H' f c (B + 601) ∧ Ke (· = f) H2 H' ∧ 8 ≤ mo ∧ mo ≤ 40) ?_ ?_
    · refine ⟨by show 3 ≤ sizeLine; decide, fun p H3 np s3 hp _ => ?_⟩
      refine ⟨_, rfl, f, c, 3, _, rfl, by decide, by decide, F2.same s3, by omega, fun d H4 d0 d1 F4 b4 => ?_⟩
      have npf : p ≠ f := F2.nf np
      have hp4 := (b4 p npf).trans hp
      obtain ⟨mo, hm, hat⟩ := pick (ns := [8, 20, 40]) d0 d1
      have hm2 : mo = 8 ∨ mo = 20 ∨ mo = 40 := by simpa using hm
      refine ⟨p, _, d, .int mo, rfl, rfl, .of hp4, hat, mo, rfl, F4, (Ke.same s3).trans (.but (F2.same s3) b4), by omega, by omega⟩
    rintro σ' H3 ⟨mo, rfl, F3, k3, mo1, mo2⟩
    refine ⟨_, rfl, _, rfl, _, rfl, _, rfl, _, rfl, f, c, mo, _, rfl, by omega, by omega, F3, by omega, fun d H4 d0 d1 F4 b4 => ?_⟩
    have k4 : Ke (· = f) H2 H4 := k3.trans (.but F3 b4)
    refine ⟨_, _, rfl, rfl, f, c, b, _, _, css, rfl, by omega, by omega, hb.ke k4, ib, m1, m2, F4, by omega, fun L rows cls H5 F5 k5 fr hL ld lr => ?_⟩
    refine ⟨by show 2 ≤ sizeLine; decide, fun tt H6 nt s6 htt _ => ?_⟩
    have k6 : Ke (· = f) H2 H6 := (k4.trans k5).trans (.same s6)
    have nn := not_f fr F4
    exact q tt L b css cls rows H6 ((F5.same s6).mono (by omega)) (k2.trans k6) htt nn.1 nn.2 (.ke (k2.trans k4) F4 fr) ⟨hb.ke k6, hL.ke (Ke.same (F := (· = f)) s6) nn.1, ld, ib, by omega⟩ m1 m2 (by omega) (by omega)
end
end Ll
namespace Ic
open PySem PySem.Spec PyProof.Rows L2 GxR Nw Dr Kp Se Ct
/-! ### is_claim, of claims -/
structure Zi (mg : Str → Option Value) : Prop where
  z_all : mg "all" = none
  z_any : mg "any" = none
  z_zip : mg "zip" = none
  z_isinstance : mg "isinstance" = none
  z_tuple : mg "tuple" = none
/-- all(..) over zip of two tuples -/
theorem aa_zipT {K : PySem.W.Frag} {a b : Addr} {xs ys : List V} {g : TG} {tt : TT} {te : TE} {vs : List Nat} {σ : L2.St} {H1 : Hp} {stopb : Bool} {Q : VK} (hy : ys.length ≤ xs.length) (Pv : Nat → Hp → Prop) (h0 : Pv 0 H1) (hl : ∀ i H, Pv i H → SqT K H a xs ∧ SqT K H b ys)
    (hs : ∀ i x y T H, xs[i]? = some x → ys[i]? = some y → Pv i H → H T = none → g (.ref T) (wipe σ vs) (upd H T (.tup [x, y])) fun σ2 H2 => wipe σ2 vs = wipe σ vs ∧ tt σ2 H2 fun b H3 => if b = true then te σ2 H3 fun y H4 => (y = .bl stopb ∧ Q (.bl stopb) H4) ∨ (y = .bl (!stopb) ∧ Pv (i + 1) H4) else Pv (i + 1) H3) (hd : ∀ H, Pv ys.length H → Q (.bl (!stopb)) H) :
    ∃ W : Nat → Nat → Hp → Prop, (∃ m, W 0 m H1) ∧ ∀ i m H, W i m H → ((RZ.ItzT K a b).stop i H ∧ Q (.bl (!stopb)) H) ∨ ((RZ.ItzT K a b).go i H ∧ ∃ Nx : Hp → Prop, (∀ H', Nx H' → ∃ m', m' < m ∧ W (i + 1) m' H') ∧ ∀ x H', (RZ.ItzT K a b).yld i H x H' → g x (wipe σ vs) H' fun σ2 H2 => wipe σ2 vs = wipe σ vs ∧ tt σ2 H2 fun b H3 =>
      if b = true then te σ2 H3 fun y H4 => (y = .bl stopb ∧ Q (.bl stopb) H4) ∨ (y = .bl (!stopb) ∧ Nx H4) else Nx H3) := by
  refine ⟨fun i m H => i + m = ys.length ∧ Pv i H, ⟨ys.length, Nat.zero_add _, h0⟩, fun i m H ⟨e, p⟩ => ?_⟩
  obtain ⟨sa, sb⟩ := hl i H p
  cases m with
  | zero =>
    have ei : i = ys.length := by omega
    subst ei
    exact .inl ⟨⟨xs, ys, sa, sb, .inr (Nat.le_refl _)⟩, hd H p⟩
  | succ m =>
    have lt : i < ys.length := by omega
    have lx : i < xs.length := by omega
    refine .inr ⟨⟨xs, ys, xs[i], ys[i], sa, sb, List.getElem?_eq_getElem lx, List.getElem?_eq_getElem lt⟩, Pv (i + 1), fun H' q => ⟨m, Nat.lt_succ_self m, by omega, q⟩, fun v H' z => ?_⟩
    obtain ⟨T, x, y, rfl, nT, rfl, hx, hy'⟩ := z
    exact hs i x y T H (hx xs sa) (hy' ys sb) p nT
section
variable {P : Program} {w : World} {K : PySem.W.Frag} {mg : Str → Option Value} {base : Heap}
abbrev sSay : Stmt := topS 3
theorem scSay : FnScope ["thing"] ["thing"] (defScope sSay) := ⟨rfl, rfl, rfl, by decide +kernel, rfl, by decide +kernel, by decide +kernel⟩
def spSay : Sp := fun vs H Q _ => ∃ n : Int, vs = [.int n] ∧ n ≠ 0 ∧ -8 ≤ n ∧ n ≤ 8 ∧ Q (.bl true) H
theorem ok_say {f fW : Addr} {fd fdW : FuncData} {k : Nat} {tk : Tok} (F : Fun K "is_say" "is_say" sSay f fd) (M8 : mg "MOST_THINGS" = some (.int 8 tk)) (FW : Fun K "is_whole" "is_whole" sWho fW fdW) (bW : Binds K fdW ["thing"] []) (gW : mg "is_whole" = some (.ref fW)) (GW : FnOk P w K mg base CX0 1 fW fdW ["thing"] spWho) :
    FnOk P w K mg base CX0 (k + 2) f fd ["thing"] spSay := by
  refine F.ok scSay (fun vs H Q E h => ?_) (fun cdv A outer s H vs Q E hr h => ?_)
  · obtain ⟨n, rfl, _⟩ := h
    rfl
  · obtain ⟨n, rfl, h0, h1, h2, q⟩ := h
    have hr1 : Room 1 _ := hr.mono (by omega)
    refine ⟨_, (pss_one (ps_ret (pe_and (pe_call GW hr1 (by rfl) gW FW.kp bW .nil pass0 (pa_cons (pv 0) pa_nil)) (pe_and (pe_chain op_le op_le (pe_un un_neg (pe_glob (v := .int 8) rfl M8 ⟨_, rfl⟩)) (pv 0) (pe_glob (v := .int 8) rfl M8 ⟨_, rfl⟩)) (pe_one (pe_cmpR op_ne (pv 0) pe_int (nomark _))))))), ?_⟩
    refine ⟨_, rfl, n, rfl, _, rfl, ?_⟩
    refine ⟨_, rfl, _, rfl, _, _, rfl, rfl, decide (-8 ≤ n), rfl, ?_⟩
    rw [decide_eq_true h1]
    refine ⟨_, _, rfl, rfl, true, ?_, ?_⟩
    · show V.bl (decide (n ≤ 8)) = V.bl true
      rw [decide_eq_true h2]
    refine ⟨_, rfl, rfl, ?_⟩
    rw [decide_eq_false (fun z => h0 (V.int.inj z))]
    exact q
abbrev sRis : Stmt := topS 4
abbrev nRis : List Str := ["says", "one", "other"]
theorem scRis : FnScope nRis ["says"] (defScope sRis) := ⟨rfl, rfl, rfl, by decide +kernel, rfl, by decide +kernel, by decide +kernel⟩
def spRis (Pr : Addr) : Sp := fun vs H Q _ => ∃ (v : V) (ns : List Int), vs = [v] ∧ TupI H v ns ∧ ns.Pairwise (· < ·) ∧ TabG H Pr ∧ ∀ H', Ke Nof H H' → Q (.bl true) H'
theorem cut_tail (ns : List Int) : cutV (ns.map V.int) (some 1) none = (ns.drop 1).map V.int := by
  unfold cutV
  have e : (1 : Int) = ((1 : Nat) : Int) := rfl
  rw [HT.sIx_none, e, HT.sIx_nat, ← List.map_drop]
  cases ns with
  | nil => rfl
  | cons x r =>
    rw [Nat.min_eq_left (by simp)]
    exact List.take_of_length_le (by simp)
theorem up_at {ns : List Int} (h : ns.Pairwise (· < ·)) {i : Nat} {x y : Int} (hx : ns[i]? = some x) (hy : (ns.drop 1)[i]? = some y) : x < y := by
  rw [List.getElem?_drop] at hy
  obtain ⟨l1, e1⟩ := List.getElem?_eq_some_iff.mp hx
  obtain ⟨l2, e2⟩ := List.getElem?_eq_some_iff.mp hy
  rw [← e1, ← e2]
  exact List.pairwise_iff_getElem.mp h i (1 + i) l1 l2 (by omega)
theorem ok_ris {f c Pr : Addr} {fd : FuncData} {k : Nat} (F : FunC K "is_rising" "is_rising" sRis f c fd) (T : Zi mg) (TB : TabB base mg c Pr) : FnOk P w K mg base CX0 (k + 3) f fd ["says"] (spRis Pr) := by
  refine F.ok scRis (fun vs H Q E h => ?_) (fun A outer s H vs Q E hr h => ?_)
  · obtain ⟨v, ns, rfl, _⟩ := h
    rfl
  · obtain ⟨v, ns, rfl, ⟨a, rfl, ha⟩, up, tg, q⟩ := h
    refine ⟨_, (pss_one (ps_ret (Gx.pe_all hr (by rfl) T.z_all rfl scRis.nd TB rfl (RZ.pi_zipA (by rfl) T.z_zip (pa_cons (pv 0) (pa_cons (pe_slice sl_tupN (pv 0) (po_some pe_int) po_none) pa_nil))) (own := [("one", 1), ("other", 2)]) (tt := tYes) (blkOk_by (N := nRis) (sc := defScope sRis) (by decide +kernel)) ⟨rfl, by decide +kernel, rfl⟩ (fun _ _ _ _ _ _ _ => pg_tupB (K := K) (n := 2) rfl rfl (pgs_cons (pg_name (i := 1) scRis.nd rfl (.inl rfl)) (pgs_cons (pg_name (i := 2) scRis.nd rfl (.inl rfl)) pgs_nil))) (fun _ _ _ _ _ _ _ => pts_nil) (fun _ _ _ _ _ _ _ => (pe_cmpR op_lt (pv 1) (pv 2) (nomark _)))))), ?_⟩
    refine ⟨_, rfl, _, rfl, _, rfl, a, _, rfl, ha, fun p H1 s1 hp => ?_⟩
    rw [cut_tail] at hp
    have k1 : Ke Nof H H1 := .same s1
    have tg1 := k1.tabs _ tg
    refine ⟨a, p, _, _, rfl, .inr ⟨.of (s1 _ _ ha), .of hp, tg1, fun H2 tb => ?_⟩⟩
    have k2 : Ke Nof H1 H2 := .tabbed tg1 tb
    refine aa_zipT (xs := ns.map V.int) (ys := (ns.drop 1).map V.int) (by rw [List.length_map, List.length_map, List.length_drop]; omega) (Pv := fun i H' => Ke Nof H1 H') k2 (fun i H' k => ⟨.of (k.tups _ _ (s1 _ _ ha)), .of (k.tups _ _ hp)⟩) ?_ ?_
    · rintro i x y T' H3 hx hy k3 nT
      obtain ⟨z, hz, rfl⟩ := at_int hx
      obtain ⟨z2, hz2, rfl⟩ := at_int hy
      refine ⟨T', _, rfl, .of upd_same, rfl, _, _, rfl, _, _, rfl, rfl, rfl, ?_⟩
      refine ⟨_, rfl, _, rfl, _, _, rfl, rfl, .inr ⟨?_, k3.trans (.same (same_new nT))⟩⟩
      show V.bl (decide (z < z2)) = V.bl true
      rw [decide_eq_true (up_at up hz hz2)]
    · exact fun H3 k3 => q H3 (k1.trans k3)
def spHpT (Po : Addr) : Sp := fun vs H Q _ => ∃ (v : V) (ns : List Int), vs = [v] ∧ TupI H v ns ∧ (∀ k ∈ ns, -k ∉ ns) ∧ TabG H Po ∧ ∀ H', Ke Nof H H' → Q (.bl false) H'
theorem ok_hpt {f c Po : Addr} {fd : FuncData} {k : Nat} (F : FunC K "has_opposites" "has_opposites" sHop f c fd) (T : Zi mg) (TB : TabB base mg c Po) : FnOk P w K mg base CX0 (k + 3) f fd ["says"] (spHpT Po) := by
  refine F.ok scHop (fun vs H Q E h => ?_) (fun A outer s H vs Q E hr h => ?_)
  · obtain ⟨v, ns, rfl, _⟩ := h
    rfl
  · obtain ⟨v, ns, rfl, ⟨a, rfl, ha⟩, no, tg, q⟩ := h
    refine ⟨_, (pss_one (ps_ret (Gx.pe_any hr (by rfl) T.z_any rfl scHop.nd TB rfl (pi_tup (pv 0)) (own := [("say", 1)]) (g := gName 1) (blkOk_by (N := nHop) (sc := defScope sHop) (by decide +kernel)) ⟨rfl, by decide +kernel, rfl⟩ (fun _ _ _ _ _ _ _ => pg_name (i := 1) scHop.nd rfl (.inl rfl)) (fun _ _ _ _ _ _ _ => (pts_one (pt_cmpR op_gt (pv 1) pe_int (nomark _)))) (fun _ _ _ _ _ _ _ => (pe_cmpR (op_in_seqB (K := K) rfl) (pe_un un_neg (pv 1)) (pv 0) (by rfl)))))), ?_⟩
    refine ⟨_, rfl, a, rfl, ⟨_, .of ha⟩, tg, fun H1 tb => ?_⟩
    have k1 : Ke Nof H H1 := .tabbed tg tb
    refine Gx.aa_tup (xs := ns.map V.int) (Pv := fun i H' => Ke Nof H H') k1 (fun i H' _ p => .of (p.tups _ _ ha)) ?_ ?_
    · rintro i x H' hx k2
      obtain ⟨z, hz, rfl⟩ := at_int hx
      refine ⟨rfl, _, rfl, _, _, rfl, rfl, _, rfl, ite2 (fun y1 => ?_) (fun y1 => k2)⟩
      refine ⟨_, rfl, _, rfl, _, rfl, a, _, rfl, .inr (.of (k2.tups _ _ ha)), rfl, ints_flat ns, .inr ⟨?_, k2⟩⟩
      have e : inV (.int (-z)) (ns.map V.int) = false := by
        cases e : inV (.int (-z)) (ns.map V.int) with
        | false => rfl
        | true => exact absurd ((in_ints _ _).mp e) (no z (List.mem_of_getElem? hz))
      show V.bl (inV (.int (-z)) (ns.map V.int)) = V.bl false
      rw [e]
    · exact fun H' k2 => q H' k2
abbrev sIcl : Stmt := topS 6
abbrev nIcl : List Str := ["thing", "say"]
theorem scIcl : FnScope nIcl ["thing"] (defScope sIcl) := ⟨rfl, rfl, rfl, by decide +kernel, rfl, by decide +kernel, by decide +kernel⟩
def spIcl (Pc Pr Po : Addr) : Sp := fun vs H Q _ => ∃ (v : V) (ns : List Int), vs = [v] ∧ TupI H v ns ∧ IsCl ns ∧ TabG H Pc ∧ TabG H Pr ∧ TabG H Po ∧ ∀ H', Ke Nof H H' → Q (.bl true) H'
theorem ok_icl {f c Pc Pr Po fS fR fH : Addr} {fd fdS fdR fdH : FuncData} {k : Nat} (F : FunC K "is_claim" "is_claim" sIcl f c fd) (T : Zi mg) (TB : TabB base mg c Pc) (FS : Fun K "is_say" "is_say" sSay fS fdS) (bS : Binds K fdS ["thing"] []) (gS : mg "is_say" = some (.ref fS)) (GS : FnOk P w K mg base CX0 2 fS fdS ["thing"] spSay)
    (kpR : PySem.W.keepIn K (.ref fR) = true) (bR : Binds K fdR ["says"] []) (gR : mg "is_rising" = some (.ref fR)) (GR : FnOk P w K mg base CX0 3 fR fdR ["says"] (spRis Pr))
    (kpH : PySem.W.keepIn K (.ref fH) = true) (bH : Binds K fdH ["says"] []) (gH : mg "has_opposites" = some (.ref fH)) (GH : FnOk P w K mg base CX0 3 fH fdH ["says"] (spHpT Po)) :
    FnOk P w K mg base CX0 (k + 5) f fd ["thing"] (spIcl Pc Pr Po) := by
  refine F.ok scIcl (fun vs H Q E h => ?_) (fun A outer s H vs Q E hr h => ?_)
  · obtain ⟨v, ns, rfl, _⟩ := h
    rfl
  · obtain ⟨v, ns, rfl, tv, hc, t1, t2, t3, q⟩ := h
    obtain ⟨a, rfl, ha⟩ := id tv
    have hr3 : Room (2 + 1) _ := hr.mono (by omega)
    have hr4 : Room 4 _ := hr.mono (by omega)
    refine ⟨_, (pss_cons (ps_if (pt_not (pt_val (pe_callB call_isi (by rfl) T.z_isinstance (by decide +kernel) (pa_cons (pv 0) (pa_cons (pe_bltn (v := .ty "tuple") (u := .type "tuple") (by rfl) T.z_tuple (by decide +kernel) rfl) pa_nil))))) pss_never pss_nil) (pss_cons (ps_if (pt_not (pt_val (pe_cl (Gx.pe_all hr4 (by rfl) T.z_all rfl scIcl.nd TB rfl (pi_tup (pv 0)) (own := [("say", 1)]) (g := gName 1) (tt := tYes) (blkOk_by (N := nIcl) (sc := defScope sIcl) (by decide +kernel)) ⟨rfl, by decide +kernel, rfl⟩ (fun _ _ _ _ _ _ _ => pg_name (i := 1) scIcl.nd rfl (.inl rfl)) (fun _ _ _ _ _ _ _ => pts_nil) (fun _ _ _ _ _ _ _ => pe_call GS (Gx.room_gen hr3) (by rfl) gS FS.kp bS .nil pass0 (pa_cons (pv 1) pa_nil)))))) pss_never pss_nil) (pss_one (ps_ret (pe_and (pe_call GR hr3 (by rfl) gR kpR bR .nil pass0 (pa_cons (pv 0) pa_nil)) (pe_one (pe_not (pe_call GH hr3 (by rfl) gH kpH bH .nil pass0 (pa_cons (pv 0) pa_nil))))))))), ?_⟩
    refine ⟨_, rfl, .ref a, .ty "tuple", .type "tuple", .type "tuple", true, rfl, .ty _, .base (.tup ha), kit_ty (by decide +kernel), _, rfl, ?_⟩
    refine ⟨fun v H' => v = .bl true ∧ Ke Nof H H', fun v H2 ⟨ev, k2⟩ => ?_, _, rfl, a, rfl, ⟨_, .of ha⟩, t1, fun H1 tb => ?_⟩
    · subst ev
      refine ⟨true, rfl, ?_⟩
      refine ⟨_, rfl, .ref a, ns, rfl, tv.ke k2, hc.up, k2.tabs _ t2, fun H3 k3 => ⟨true, rfl, ?_⟩⟩
      have k23 := k2.trans k3
      refine ⟨_, rfl, .ref a, ns, rfl, tv.ke k23, hc.opp, k23.tabs _ t3, fun H4 k4 => ⟨_, rfl, ?_⟩⟩
      exact q H4 (k23.trans k4)
    have k1 : Ke Nof H H1 := .tabbed t1 tb
    refine Gx.aa_tup (xs := ns.map V.int) (stopb := false) (Q := fun v H' => v = .bl true ∧ Ke Nof H H') (Pv := fun i H' => Ke Nof H H') k1 (fun i H' _ p => .of (p.tups _ _ ha)) ?_ ?_
    · rintro i x H' hx k2
      obtain ⟨z, hz, rfl⟩ := at_int hx
      obtain ⟨b1, b2, b3⟩ := hc.says z (List.mem_of_getElem? hz)
      exact ⟨rfl, _, rfl, z, rfl, b1, b2, b3, .inr ⟨rfl, k2⟩⟩
    · exact fun H' k2 => ⟨rfl, k2⟩
end
end Ic
namespace Xb
open PySem PySem.Spec PyProof.Rows L2 Nw Kp Lr
/-! ### is (not) True; enumerate over a list; claims as data -/
def rNotB : R2 := fun x y H Q => ∃ b c : Bool, x = .bl b ∧ y = .bl c ∧ Q (.bl (b != c)) H
theorem op_notB {X : Cx} : OpR X (compareOp .IsNot) rNotB := by
  intro pins s σ H x y v u Q I rx ry h
  obtain ⟨b, c, rfl, rfl, q⟩ := h
  cases rx
  cases ry
  exact isnot_bool ⟨.bl _, H, I, rfl, q⟩
theorem for_enl {K : PySem.W.Frag} {a : Addr} {xs : List V} {g : TG} {tb : TS} {D : Ends} {σ : L2.St} {H : Hp} (Pv : Nat → L2.St → Hp → Prop) (h0 : Pv 0 σ H) (hl : ∀ i σ H, i ≤ xs.length → Pv i σ H → SqL K H a xs)
    (hs : ∀ i x σ H T, xs[i]? = some x → Pv i σ H → H T = none → g (.ref T) σ (upd H T (.tup [.int (i : Nat), x])) fun σ2 H2 => tb { D with nx := Pv (i + 1), ct := Pv (i + 1), bk := D.nx } σ2 H2) (hd : ∀ σ H, Pv xs.length σ H → D.nx σ H) :
    ∃ W : Nat → Nat → L2.St → Hp → Prop, (∃ m, W 0 m σ H) ∧ ∀ i m σ H, W i m σ H →
      ((Ite K a).stop i H ∧ D.nx σ H) ∨ ((Ite K a).go i H ∧ ∃ N : L2.St → Hp → Prop, (∀ σ' H', N σ' H' → ∃ m', m' < m ∧ W (i + 1) m' σ' H') ∧ ∀ x H', (Ite K a).yld i H x H' → g x σ H' fun σ2 H2 => tb { D with nx := N, ct := N, bk := D.nx } σ2 H2) := by
  refine ⟨fun i m σ H => i + m = xs.length ∧ Pv i σ H, ⟨xs.length, Nat.zero_add _, h0⟩, fun i m σ H ⟨e, p⟩ => ?_⟩
  have sq := hl i σ H (by omega) p
  cases m with
  | zero =>
    obtain rfl : i = xs.length := by omega
    exact .inl ⟨⟨xs, sq, Nat.le_refl _⟩, hd σ H p⟩
  | succ m =>
    have hx := List.getElem?_eq_getElem (show i < xs.length by omega)
    refine .inr ⟨⟨xs, _, sq, hx⟩, Pv (i + 1), fun σ' H' q => ⟨m, Nat.lt_succ_self m, by omega, q⟩, ?_⟩
    rintro y H' ⟨T, x, rfl, nT, rfl, hy⟩
    exact hs i x σ H T (hy xs sq) p nT
def cdat (c : List Int) : PyData := .tuple (c.map PyData.int)
theorem dp_cls {K : PySem.W.Frag} {H : Hp} : ∀ {vs : List V} {cls : List (List Int)}, All2 (TupI H) vs cls → DpAll K H vs (cls.map cdat)
  | [], [], _ => .nil
  | [], r :: t, h => by cases h.1
  | v :: t, [], h => by cases h.1
  | v :: t, c :: u, h => by
    obtain ⟨a, rfl, ha⟩ := h.2 0 v c rfl rfl
    exact .cons (.tup (.of ha) (dp_ints c)) (dp_cls ⟨by have := h.1; simp only [List.length_cons] at this; omega, fun i x y h1 h2 => h.2 (i + 1) x y h1 h2⟩)
theorem lay_cls : ∀ cls : List (List Int), PyData.canLayAll0 (cls.map cdat) = true ∧ PyData.depthAll (cls.map cdat) ≤ 3
  | [] => ⟨rfl, by decide⟩
  | c :: t => by
    obtain ⟨h1, h2⟩ := lay_cls t
    refine ⟨?_, ?_⟩
    · show (PyData.canLayAll0 (c.map PyData.int) && PyData.canLayAll0 (t.map cdat)) = true
      rw [h1, flat_lay _ (flat_ints c)]
      rfl
    · show Nat.max (PyData.depthAll (c.map PyData.int) + 1) (PyData.depthAll (t.map cdat)) ≤ 3
      have := flat_depth _ (flat_ints c)
      exact Nat.max_le.mpr ⟨by omega, h2⟩
theorem shaped_cls (cls : List (List Int)) : SeqAt.shaped (.list (cls.map cdat)) = true := by
  obtain ⟨h1, h2⟩ := lay_cls cls
  show (PyData.canLayAll0 (cls.map cdat) && decide (PyData.depthAll (cls.map cdat) + 1 ≤ 64)) = true
  rw [h1, decide_eq_true (by omega)]
  rfl
theorem cut_to (xs : List V) (n : Nat) : cutV xs none (some (n : Int)) = xs.take n := by
  unfold cutV
  rw [HT.sIx_none, HT.sIx_nat, List.drop_zero, Nat.sub_zero]
  by_cases h : n ≤ xs.length
  · rw [Nat.min_eq_left h]
  · rw [Nat.min_eq_right (by omega), List.take_length, List.take_of_length_le (by omega)]
end Xb
namespace So
open PySem PySem.Spec PyProof.Rows L2 GxR Nw Dr Kp Se Ct Lr
/-! ### what is cut follows -/
theorem sh_opp {bs : List Bool} {k : Int} (h : 1 ≤ k) : sh bs (-k) = !sh bs k := by
  unfold sh
  rw [Int.natAbs_neg, decide_eq_true (by omega : 0 < k), decide_eq_false (by omega : ¬ 0 < -k)]
  cases bs.getD (k.natAbs - 1) false <;> rfl
theorem sound {x y c : List Int} {k : Int} {bs : List Bool} (hx : IsCl x) (hy : IsCl y) (h : Comes x y k c) (h1 : x.any (sh bs) = true) (h2 : y.any (sh bs) = true) : c.any (sh bs) = true := by
  obtain ⟨k1, kx, ky, _, _, me⟩ := h
  obtain ⟨s, hs, e⟩ := List.any_eq_true.mp h1
  obtain ⟨t, ht, e2⟩ := List.any_eq_true.mp h2
  by_cases z : s = k
  · by_cases z2 : t = -k
    · rw [z] at e
      rw [z2, sh_opp k1, e] at e2
      cases e2
    · refine List.any_eq_true.mpr ⟨t, (me t).mpr ⟨.inr ht, fun z3 => ?_⟩, e2⟩
      have e3 : t = k := by omega
      rw [e3] at ht
      exact hy.opp k ht ky
  · refine List.any_eq_true.mpr ⟨s, (me s).mpr ⟨.inl hs, fun z3 => ?_⟩, e⟩
    have e3 : s = -k := by omega
    rw [e3] at hs
    exact hx.opp k kx hs
theorem Lad.holds {css cls : List (List Int)} {rows : List Rw} (hb : ∀ c ∈ css, IsCl c) (h : Lad css rows cls) {bs : List Bool} (ha : ah bs css = true) : ∀ c ∈ cls, c.any (sh bs) = true := by
  have ic := h.isCl hb
  have key : ∀ n, n ≤ cls.length → ∀ c ∈ cls.take n, c.any (sh bs) = true := by
    intro n
    induction n with
    | zero => exact fun _ c hc => by simp at hc
    | succ n ih =>
      intro hn c hc
      rw [List.take_add_one] at hc
      rcases List.mem_append.mp hc with hc | hc
      · exact ih (by omega) c hc
      · have ln : n < cls.length := by omega
        have lr : n < rows.length := by rw [h.1]; exact ln
        rw [List.getElem?_eq_getElem ln] at hc
        obtain rfl : c = cls[n] := List.mem_singleton.mp hc
        have rc := h.2 n rows[n] cls[n] (List.getElem?_eq_getElem lr) (List.getElem?_eq_getElem ln)
        cases hr : rows[n] with
        | book m =>
          rw [hr] at rc
          exact List.all_eq_true.mp ha _ (List.mem_of_getElem? rc)
        | cut i j k =>
          rw [hr] at rc
          obtain ⟨x, y, h1, h2, h3⟩ := rc
          have m1 := List.mem_of_getElem? h1
          have m2 := List.mem_of_getElem? h2
          exact sound (ic x (List.mem_of_mem_take m1)) (ic y (List.mem_of_mem_take m2)) h3 (ih (by omega) x m1) (ih (by omega) y m2)
  have := key cls.length (Nat.le_refl _)
  rwa [List.take_length] at this
theorem Lad.noCtr {css cls : List (List Int)} {rows : List Rw} (hb : ∀ c ∈ css, IsCl c) (h : Lad css rows cls) {c : List Int} (hc : c ∈ cls) {bs : List Bool} : ¬ Ctr css c bs := fun ⟨_, h2, h3⟩ => by
  rw [Lad.holds hb h h3 c hc] at h2
  cases h2
theorem shF : SeqAt.shaped (.tuple [.str "follows"]) = true := by decide +kernel
end So
namespace K8
open PySem PySem.Spec PyProof.Rows L2 GxR Nw Dr Kp Se Cl Ct Lr Lp Ll Wd Ic Xb So
abbrev sLaw : Stmt := topS 48
abbrev nLaw : List Str := ["script", "feed", "book", "ladder", "claims", "high", "setting", "number", "row", "claim", "at", "one"]
theorem scL : FnScope nLaw ["script"] (defScope sLaw) := ⟨rfl, rfl, rfl, by decide +kernel, rfl, by decide +kernel, by decide +kernel⟩
structure Zk (mg : Str → Option Value) : Prop where
  z_len : mg "len" = none
  z_max : mg "max" = none
  z_enumerate : mg "enumerate" = none
theorem passF {X : Cx} : Passes (L2.CX X.prog X.w) X (fun _ _ _ => False) := fun _ _ _ _ _ _ _ h => by
  obtain ⟨_, _, _, _, _, _, _, _, _, _, _, _, z⟩ := h
  exact z.elim
/-- the tables -/
structure Tabs (Ph Pa Po Pc Pr : Addr) (H : Hp) : Prop where
  h : TabG H Ph
  a : TabG H Pa
  o : TabG H Po
  c : TabG H Pc
  r : TabG H Pr
theorem Tabs.ke {F : Addr → Prop} {Ph Pa Po Pc Pr : Addr} {H H' : Hp} (x : Tabs Ph Pa Po Pc Pr H) (k : Ke F H H') : Tabs Ph Pa Po Pc Pr H' := ⟨k.tabs _ x.h, k.tabs _ x.a, k.tabs _ x.o, k.tabs _ x.c, k.tabs _ x.r⟩
/-! ### heights -/
theorem hts_pre (a b : List Rw) : ∃ t, hts (a ++ b) = hts a ++ t := by
  have key : ∀ (l : List Rw) (hs : List Int), ∃ t, l.foldl (fun hs r => hs ++ [htOf hs r]) hs = hs ++ t := by
    intro l
    induction l with
    | nil => exact fun hs => ⟨[], (List.append_nil _).symm⟩
    | cons r t ih =>
      intro hs
      obtain ⟨u, e⟩ := ih (hs ++ [htOf hs r])
      exact ⟨[htOf hs r] ++ u, by rw [List.foldl_cons, e, List.append_assoc]⟩
  obtain ⟨t, e⟩ := key b (hts a)
  exact ⟨t, by unfold hts; rw [List.foldl_append]; exact e⟩
theorem hts_take (rows : List Rw) (n : Nat) : hts (rows.take n) = (hts rows).take n := by
  obtain ⟨t, e⟩ := hts_pre (rows.take n) (rows.drop n)
  rw [List.take_append_drop] at e
  have l := hts_len (rows.take n)
  by_cases h : n ≤ rows.length
  · rw [List.length_take, Nat.min_eq_left h] at l
    rw [e, List.take_append_of_le_length (by omega)]
    exact (List.take_of_length_le (by omega)).symm
  · rw [List.take_of_length_le (by omega), List.take_of_length_le (by rw [hts_len]; omega)]
theorem hts_at {rows : List Rw} {i : Nat} {r : Rw} (h : rows[i]? = some r) : (hts rows)[i]? = some (htOf ((hts rows).take i) r) := by
  have e := hts_snoc (rows.take i) r
  rw [← take_snoc h, hts_take, hts_take] at e
  have l : i < (hts rows).length := by rw [hts_len]; exact (List.getElem?_eq_some_iff.mp h).1
  have e2 := take_snoc (List.getElem?_eq_getElem l)
  rw [e2] at e
  have := List.append_cancel_left e
  rw [List.getElem?_eq_getElem l]
  exact congrArg some (List.cons.inj this).1
theorem ht_pos {hs : List Int} (h : ∀ x ∈ hs, 0 ≤ x) (r : Rw) : 0 ≤ htOf hs r ∧ (decide (0 < htOf hs r) = isCut r) := by
  have gd : ∀ i, 0 ≤ hs.getD i 0 := fun i => by
    rw [List.getD_eq_getElem?_getD]
    cases e : hs[i]? with
    | none => exact Int.le_refl _
    | some x => exact h x (List.mem_of_getElem? e)
  cases r with
  | book n => exact ⟨Int.le_refl _, rfl⟩
  | cut i j k =>
    have h1 := gd i
    have h2 := gd j
    have e : 0 < htOf hs (.cut i j k) := by
      show 0 < 1 + (if hs.getD j 0 > hs.getD i 0 then hs.getD j 0 else hs.getD i 0)
      split <;> omega
    exact ⟨Int.le_of_lt e, decide_eq_true e⟩
theorem hts_all (rows : List Rw) : (∀ x ∈ hts rows, 0 ≤ x) ∧ ((hts rows).filter fun x => decide (0 < x)).length = rows.countP isCut := by
  have key : ∀ n, n ≤ rows.length → (∀ x ∈ hts (rows.take n), 0 ≤ x) ∧ ((hts (rows.take n)).filter fun x => decide (0 < x)).length = (rows.take n).countP isCut := by
    intro n
    induction n with
    | zero => exact fun _ => ⟨fun x hx => by simp [hts] at hx, rfl⟩
    | succ n ih =>
      intro hn
      obtain ⟨i1, i2⟩ := ih (by omega)
      have e := take_snoc (List.getElem?_eq_getElem (show n < rows.length by omega))
      rw [e, hts_snoc]
      obtain ⟨p1, p2⟩ := ht_pos i1 rows[n]
      refine ⟨fun x hx => ?_, ?_⟩
      · rcases List.mem_append.mp hx with z | z
        · exact i1 x z
        · rw [List.mem_singleton.mp z]
          exact p1
      · rw [List.filter_append, List.length_append, i2, List.countP_append]
        congr 1
        rw [List.filter_cons, List.countP_cons]
        show (if decide (0 < htOf (hts (rows.take n)) rows[n]) = true then _ else _ : List Int).length = _
        rw [p2]
        cases isCut rows[n] <;> rfl
  have := key rows.length (Nat.le_refl _)
  rwa [List.take_length] at this
theorem getD_take {hs : List Int} {n i : Nat} (h : i < n) : (hs.take n).getD i 0 = hs.getD i 0 := by
  rw [List.getD_eq_getElem?_getD, List.getD_eq_getElem?_getD, List.getElem?_take, if_pos h]
theorem fails_nil {bs : List Bool} {css : List (List Int)} (h : fails bs css css.length = []) : ah bs css = true := by
  unfold fails at h
  have h := List.map_eq_nil_iff.mp h
  refine List.all_eq_true.mpr fun c hc => ?_
  obtain ⟨i, hi, e⟩ := List.getElem_of_mem hc
  have := List.filter_eq_nil_iff.mp h i (List.mem_range.mpr hi)
  rw [List.getD_eq_getElem?_getD, List.getElem?_eq_getElem hi] at this
  subst e
  simpa using this
section
variable {P : Program} {w : World} {K : PySem.W.Frag} {mg : Str → Option Value} {base : Heap}
def spLaw (Ph Pa Po Pc Pr : Addr) (K : PySem.W.Frag) : Sp := fun vs H Q _ => ∃ (a : Addr) (ns : List Int), vs = [.ref a] ∧ SqL K H a (ns.map V.int) ∧ Tabs Ph Pa Po Pc Pr H ∧ ∀ H', Q (.bl true) H'
theorem ok_law {f fD fO fS fC fH fT fI fF fA fB fL fM fU Ph Pa Po Pc Pr C0 : Addr} {fd fdD fdO fdS fdC fdH fdT fdI fdF fdA fdB fdL fdM fdU : FuncData} (FL : Fun K "law" "law" sLaw f fd) (T : Zk mg)
    (FD : Fun K "_law_sdraw" "_law_sdraw" sDrw fD fdD) (bD : Binds K fdD ["feed", "many"] []) (gD : mg "_law_sdraw" = some (.ref fD)) (GD : FnOk P w K mg base CX0 2 fD fdD ["feed", "many"] spDrw)
    (FO : Fun K "_law_sopen" "_law_sopen" sOpn fO fdO) (bO : Binds K fdO ["script"] []) (gO : mg "_law_sopen" = some (.ref fO)) (GO : FnOk P w K mg base CX0 1 fO fdO ["script"] (spOpn K))
    (FS : Fun K "_law_scase" "_law_scase" sSca fS fdS) (bS : Binds K fdS ["feed"] []) (gS : mg "_law_scase" = some (.ref fS)) (GS : FnOk P w K mg base CX0 5 fS fdS ["feed"] spSca)
    (FC : Fun K "claims_of" "claims_of" sClo fC fdC) (bC : Binds K fdC ["book", "ladder"] []) (gC : mg "claims_of" = some (.ref fC)) (GC : FnOk P w K mg base CX0 7 fC fdC ["book", "ladder"] (spClo Po))
    (FH : Fun K "heights" "heights" sHei fH fdH) (bH : Binds K fdH ["book", "ladder"] []) (gH : mg "heights" = some (.ref fH)) (GH : FnOk P w K mg base CX0 9 fH fdH ["book", "ladder"] (spHei Po))
    (FT : Fun K "_law_ssetting" "_law_ssetting" sSst fT fdT) (bT : Binds K fdT ["feed"] []) (gT : mg "_law_ssetting" = some (.ref fT)) (GT : FnOk P w K mg base CX0 3 fT fdT ["feed"] spSst)
    (kpI : PySem.W.keepIn K (.ref fI) = true) (bI : Binds K fdI ["thing"] []) (gI : mg "is_claim" = some (.ref fI)) (GI : FnOk P w K mg base CX0 5 fI fdI ["thing"] (spIcl Pc Pr Po))
    (FF : Fun K "follows" "follows" sFol fF fdF) (bF : Binds K fdF ["book", "claim"] []) (gF : mg "follows" = some (.ref fF)) (GF : FnOk P w K mg base CX0 6 fF fdF ["book", "claim"] (spFol Ph Pa))
    (FA : Fun K "failing" "failing" sFai fA fdA) (bA : Binds K fdA ["book", "setting"] []) (gA : mg "failing" = some (.ref fA)) (GA : FnOk P w K mg base CX0 4 fA fdA ["book", "setting"] (spFai Ph))
    (kpB : PySem.W.keepIn K (.ref fB) = true) (bB : Binds K fdB ["claim", "setting"] []) (gB : mg "holds" = some (.ref fB)) (GB : FnOk P w K mg base CX0 3 fB fdB ["claim", "setting"] (spHol Ph))
    (FL2 : Fun K "is_ladder" "is_ladder" sIsl fL fdL) (bL : Binds K fdL ["book", "thing"] []) (gL : mg "is_ladder" = some (.ref fL)) (GL : FnOk P w K mg base CX0 7 fL fdL ["book", "thing"] (spIsl Po))
    (FM : Fun K "how_many_cuts" "how_many_cuts" sHmc fM fdM) (bM : Binds K fdM ["book", "ladder"] []) (gM : mg "how_many_cuts" = some (.ref fM)) (GM : FnOk P w K mg base CX0 9 fM fdM ["book", "ladder"] (spHmc Po))
    (kpU : PySem.W.keepIn K (.ref fU) = true) (bU : Binds K fdU ["one", "other", "k"] []) (gU : mg "cut" = some (.ref fU)) (GU : Gx2.FnX P w K mg base (L2.CX P w) 5 fU fdU ["one", "other", "k"] (spCut C0 Po)) :
    Gd.FnG P w K mg base 11 f fd ["script"] (spLaw Ph Pa Po Pc Pr K) := by
  refine Gd.okG FL scL (fun vs H Q E h => ?_) (fun cdv A outer s H vs Q E gd0 hr h => ?_)
  · obtain ⟨a, ns, rfl, _⟩ := h
    rfl
  · obtain ⟨a, ns, rfl, hS, tg, q⟩ := h
    have hr1 : Room 1 _ := hr.mono (by decide)
    have hr2 : Room 2 _ := hr.mono (by decide)
    have hr3 : Room 3 _ := hr.mono (by decide)
    have hr4 : Room 4 _ := hr.mono (by decide)
    have hr5 : Room 5 _ := hr.mono (by decide)
    have hr6 : Room 6 _ := hr.mono (by decide)
    have hr7 : Room 7 _ := hr.mono (by decide)
    have hr9 : Room 9 _ := hr.mono (by decide)
    have gd : (A.deeper (envOfC "law" (defScope sLaw) s.heap.objs.size f cdv)).guards = some [] := gd0
    refine ⟨_, (Evl.pss_cut (ps_set (i := 1) scL.nd rfl (.inl rfl) (pe_call GO hr1 (by rfl) gO FO.kp bO .nil pass0 (pa_cons (pv 0) pa_nil)))
      (Evl.pss_cut (ps_asg (pe_call GS hr5 (by rfl) gS FS.kp bS .nil pass0 (pa_cons (pv 1) pa_nil)) (pg_tup rfl (pgs_cons (pg_name (i := 2) scL.nd rfl (.inl rfl)) (pgs_cons (pg_name (i := 3) scL.nd rfl (.inl rfl)) pgs_nil))))
      (Evl.pss_cut (ps_set (i := 4) scL.nd rfl (.inl rfl) (pe_call GC hr7 (by rfl) gC FC.kp bC .nil pass0 (pa_cons (pv 2) (pa_cons (pv 3) pa_nil))))
      (Evl.pss_cut (ps_set (i := 5) scL.nd rfl (.inl rfl) (pe_call GH hr9 (by rfl) gH FH.kp bH .nil pass0 (pa_cons (pv 2) (pa_cons (pv 3) pa_nil))))
      (Evl.pss_cut (ps_set (i := 6) scL.nd rfl (.inl rfl) (pe_call GT hr3 (by rfl) gT FT.kp bT .nil pass0 (pa_cons (pv 1) pa_nil)))
      (Evl.pss_cut (ps_for PassesOwn.never rfl (pi_enum (by rfl) T.z_enumerate (pa_cons (pv 3) pa_nil)) (pg_tup rfl (pgs_cons (pg_name (i := 7) scL.nd rfl (.inl rfl)) (pgs_cons (pg_name (i := 8) scL.nd rfl (.inl rfl)) pgs_nil))) (Evl.pss_cut (ps_set (i := 9) scL.nd rfl (.inl rfl) (pe_ix ix_list (pv 4) (pv 7) (fun _ _ => rfl)))
      (Evl.pss_cut (ps_if (PW.pt (pw_or (pt_cmpR Xb.op_notB (pe_call GI hr5 (by rfl) gI kpI bI .nil pass0 (pa_cons (pv 9) pa_nil)) pe_bl (nomark _)) (pw_or1 (pt_cmpR (op_neD hr.units) (pe_call GF hr6 (by rfl) gF FF.kp bF .nil pass0 (pa_cons (pv 2) (pa_cons (pv 9) pa_nil))) (pe_tupN (pa_cons pe_str pa_nil)) (nomark _))))) pss_never pss_nil)
      (Evl.pss_cut (ps_if (PW.pt (pw_and (pt_cmpR (op_eqD hr.units) (pe_call GA hr4 (by rfl) gA FA.kp bA .nil pass0 (pa_cons (pv 2) (pa_cons (pv 6) pa_nil))) (pe_lstN pa_nil) (nomark _)) (pw_and1 (pt_not (pt_val (pe_call GB hr3 (by rfl) gB kpB bB .nil pass0 (pa_cons (pv 9) (pa_cons (pv 6) pa_nil)))))))) pss_never pss_nil)
      (Evl.pss_cut (ps_if (PW.pt (pw_and (pt_cmpR op_eq (pe_ix ix_tup (pv 8) pe_int (fun _ _ => rfl)) pe_str (nomark _)) (pw_and1 (PW.pt (pw_or (pt_cmpR op_ne (pe_ix ix_list (pv 5) (pv 7) (fun _ _ => rfl)) pe_int (nomark _)) (pw_or1 (pt_cmpR (op_neD hr.units) (pv 9) (pe_ix ix_tup (pv 2) (pe_ix ix_tup (pv 8) pe_int (fun _ _ => rfl)) (fun _ _ => rfl)) (nomark _)))))))) pss_never pss_nil)
      (pss_one (ps_if (pt_cmpR op_eq (pe_ix ix_tup (pv 8) pe_int (fun _ _ => rfl)) pe_str (nomark _)) (Evl.pss_cut (ps_if (pt_cmpR (op_neD hr.units) (pv 9) (Gx2.pe_callX GU gd hr5 (by rfl) gU kpU bU .nil passF (pa_cons (pe_ix ix_list (pv 4) (pe_ix ix_tup (pv 8) pe_int (fun _ _ => rfl)) (fun _ _ => rfl)) (pa_cons (pe_ix ix_list (pv 4) (pe_ix ix_tup (pv 8) pe_int (fun _ _ => rfl)) (fun _ _ => rfl)) (pa_cons (pe_ix ix_tup (pv 8) pe_int (fun _ _ => rfl)) pa_nil)))) (nomark _)) pss_never pss_nil)
      (pss_one (ps_if (pt_cmpR op_le (pe_ix ix_list (pv 5) (pv 7) (fun _ _ => rfl)) (pe_callB (call_max2 rfl) (by rfl) T.z_max (by decide +kernel) (pa_cons (pe_ix ix_list (pv 5) (pe_ix ix_tup (pv 8) pe_int (fun _ _ => rfl)) (fun _ _ => rfl)) (pa_cons (pe_ix ix_list (pv 5) (pe_ix ix_tup (pv 8) pe_int (fun _ _ => rfl)) (fun _ _ => rfl)) pa_nil))) (nomark _)) pss_never pss_nil))) pss_nil)))))))
      (Evl.pss_cut (ps_set (i := 10) scL.nd rfl (.inl rfl) (pe_op op_add pe_int (pe_call GD hr2 (by rfl) gD FD.kp bD .nil pass0 (pa_cons (pv 1) (pa_cons (pe_callB call_len_seq (by rfl) T.z_len (by decide +kernel) (pa_cons (pv 3) pa_nil)) pa_nil)))))
      (Evl.pss_cut (ps_if (pt_cmpR Xb.op_notB (pe_call GL hr7 (by rfl) gL FL2.kp bL .nil pass0 (pa_cons (pv 2) (pa_cons (pe_slice sl_listN (pv 3) po_none (po_some (pv 10))) pa_nil))) pe_bl (nomark _)) pss_never pss_nil)
      (Evl.pss_cut (ps_if (pt_cmpR (op_neD hr.units) (pe_call GC hr7 (by rfl) gC FC.kp bC .nil pass0 (pa_cons (pv 2) (pa_cons (pe_slice sl_listN (pv 3) po_none (po_some (pv 10))) pa_nil))) (pe_slice sl_listN (pv 4) po_none (po_some (pv 10))) (nomark _)) pss_never pss_nil)
      (pss_one (ps_ret (pe_cmpR op_eq (pe_call GM hr9 (by rfl) gM FM.kp bM .nil pass0 (pa_cons (pv 2) (pa_cons (pv 3) pa_nil))) (pe_callB call_len_seq (by rfl) T.z_len (by decide +kernel) (pa_cons (pe_lc (own := [("one", 11)]) (g := (gName 11))  rfl scL.nd (pi_list (pv 5)) (blkOk_by (N := nLaw) (sc := defScope sLaw) (by decide +kernel)) (fun _ _ _ _ _ => (pg_name (i := 11) scL.nd rfl (.inl rfl))) (fun _ _ _ _ _ => (pts_one (pt_cmpR op_gt (pv 11) pe_int (nomark _)))) (fun _ _ _ _ _ => (pv 11))) pa_nil)) (nomark _))))))))))))), ?_⟩
    refine Evl.q_cut (M := fun σ' H' => ∃ fe c : Addr, σ' = [some (.ref a), some (.ref fe), none, none, none, none, none, none, none, none, none, none] ∧ Feed H' fe c 0 ∧ Tabs Ph Pa Po Pc Pr H') ?_ ?_
    · exact ⟨.ref a, rfl, a, ns, rfl, hS, fun fe c H1 nf nc s1 F1 => ⟨fe, c, rfl, F1, tg.ke (Ke.same (F := Nof) s1)⟩⟩
    rintro σ' H1 ⟨fe, c, rfl, F1, t1⟩
    -- book, ladder
    refine Evl.q_cut (M := fun σ' H' => ∃ (b : V) (L : Addr) (css cls : List (List Int)) (rows : List Rw), σ' = [some (.ref a), some (.ref fe), some b, some (.ref L), none, none, none, none, none, none, none, none] ∧ Feed H' fe c 3000 ∧ Tabs Ph Pa Po Pc Pr H' ∧ L ≠ fe ∧ BL H' b L css rows cls ∧ 1 ≤ css.length ∧ css.length ≤ 16 ∧ 1 ≤ rows.length ∧ rows.length ≤ 40) ?_ ?_
    · refine ⟨_, rfl, fe, c, 0, rfl, F1, by decide, fun t L b css cls rows H2 F2 k2 ht nLf nLc fr x lb1 lb2 lr1 lr2 => ?_⟩
      exact ⟨t, _, rfl, .of ht, rfl, _, _, rfl, _, _, rfl, rfl, b, L, css, cls, rows, rfl, F2.mono (by decide), t1.ke k2, nLf, x, lb1, lb2, lr1, lr2⟩
    rintro σ' H2 ⟨b, L, css, cls, rows, rfl, F2, t2, nLf, x2, lb1, lb2, lr1, lr2⟩
    have ld := x2.ld
    have ib := x2.ib
    have ic := x2.ic
    have l12 := ld.1
    -- claims
    refine Evl.q_cut (M := fun σ' H' => ∃ C : Addr, σ' = [some (.ref a), some (.ref fe), some b, some (.ref L), some (.ref C), none, none, none, none, none, none, none] ∧ Ke Nof H2 H' ∧ ClL H' C cls ∧ C ≠ fe) ?_ ?_
    · exact ⟨_, rfl, _, rfl, b, L, css, cls, rows, rfl, x2, by omega, t2.o, fun C H3 nC k3 hC => ⟨C, rfl, k3, hC, F2.nf nC⟩⟩
    rintro σ' H3 ⟨C, rfl, k3, hC, nCf⟩
    -- high
    refine Evl.q_cut (M := fun σ' H' => ∃ G : Addr, σ' = [some (.ref a), some (.ref fe), some b, some (.ref L), some (.ref C), some (.ref G), none, none, none, none, none, none] ∧ Ke Nof H2 H' ∧ ClL H' C cls ∧ H' G = some (.lst ((hts rows).map V.int)) ∧ G ≠ fe) ?_ ?_
    · refine ⟨_, rfl, _, rfl, b, L, css, cls, rows, rfl, x2.ke k3 (fun z => z), by omega, (t2.ke k3).o, fun G H4 fr k4 hG => ?_⟩
      exact ⟨G, rfl, k3.trans k4, hC.ke k4 (fun z => z), hG, (Ll.not_f fr (k3.feed F2)).1⟩
    clear hC k3
    rintro σ' H4 ⟨G, rfl, k4, hC, hG, nGf⟩
    have F4 := k4.feed F2
    -- setting
    refine Evl.q_cut (M := fun σ' H' => ∃ (S : Addr) (bs : List Bool), σ' = [some (.ref a), some (.ref fe), some b, some (.ref L), some (.ref C), some (.ref G), some (.ref S), none, none, none, none, none] ∧ Feed H' fe c 3008 ∧ BL H' b L css rows cls ∧ Tabs Ph Pa Po Pc Pr H' ∧ ClL H' C cls ∧ H' G = some (.lst ((hts rows).map V.int)) ∧ H' S = some (.tup (bs.map V.bl)) ∧ bs.length = 8) ?_ ?_
    · refine ⟨_, rfl, fe, c, _, rfl, F4, by decide, fun bs S H5 F5 k5 hS8 l8 => ?_⟩
      exact ⟨S, bs, rfl, F5, (x2.ke k4 (fun z => z)).ke k5 nLf, (t2.ke k4).ke k5, hC.ke k5 nCf, k5.lst hG nGf, hS8, l8⟩
    clear hC hG x2 F4
    rintro σ' H5 ⟨S, bs, rfl, F5, x5, t5, hC, hG, hS5, l8⟩
    have says : ∀ {c}, IsCl c → Says c := fun h => h.says
    have sayB : ∀ c ∈ css, Says c := fun c hc => (ib c hc).says
    obtain ⟨rvs, hL5, aR⟩ := x5.rw
    obtain ⟨cvs, hC5, aC⟩ := hC
    obtain ⟨ba, bvs, rfl, hb5, aB⟩ := bk_all x5.bk
    have lrv := aR.1
    have lcv := aC.1
    obtain ⟨hnn, hcnt⟩ := hts_all rows
    have hlen := hts_len rows
    refine Evl.q_cut (M := fun σ' H' => ∃ y7 y8 y9 : Option V, σ' = [some (.ref a), some (.ref fe), some (.ref ba), some (.ref L), some (.ref C), some (.ref G), some (.ref S), y7, y8, y9, none, none] ∧ Ke Nof H5 H') ?_ ?_
    · refine ⟨_, rfl, L, rvs, rfl, .of hL5, for_enl (K := K) (a := L) (xs := rvs) (Pv := fun i σ H' => ∃ y7 y8 y9 : Option V, σ = [some (.ref a), some (.ref fe), some (.ref ba), some (.ref L), some (.ref C), some (.ref G), some (.ref S), y7, y8, y9, none, none] ∧ Ke Nof H5 H') ?_ (fun i σ H' _ p => ?_) ?_ ?_⟩
      · exact ⟨none, none, none, rfl, .refl _ _⟩
      · obtain ⟨_, _, _, _, k6⟩ := p
        exact .of (k6.lst hL5 fun z => z)
      · rintro i v σ H6 T' hv ⟨y7, y8, y9, rfl, k6⟩ nT
        obtain ⟨r, hr', ⟨ra, rfl, hra⟩⟩ := aR.at hv
        have li := (List.getElem?_eq_some_iff.mp hr').1
        have lc : i < cls.length := by omega
        have hci := List.getElem?_eq_getElem lc
        have rc := ld.2 i r cls[i] hr' hci
        obtain ⟨cv, hcv, tcv⟩ := aC.atR hci
        have icl := ic cls[i] (List.getElem_mem lc)
        have nctr := fun bs => Lad.noCtr ib ld (List.getElem_mem lc) (bs := bs)
        have hold := fun (ha : ah bs css = true) => Lad.holds ib ld ha cls[i] (List.getElem_mem lc)
        have hhi := hts_at hr'
        generalize hcc : cls[i] = cc at rc tcv icl nctr hold
        have k7 : Ke Nof H5 (upd H6 T' (.tup [.int (i : Nat), .ref ra])) := k6.trans (.same (same_new nT))
        refine ⟨T', _, rfl, .of upd_same, rfl, _, _, rfl, _, _, rfl, rfl, ?_⟩
        generalize upd H6 T' (.tup [.int (i : Nat), .ref ra]) = H7 at k7
        -- claim
        refine Evl.q_cut (M := fun σ' H' => σ' = [some (.ref a), some (.ref fe), some (.ref ba), some (.ref L), some (.ref C), some (.ref G), some (.ref S), some (.int (i : Nat)), some (.ref ra), some cv, none, none] ∧ Ke Nof H5 H') ?_ ?_
        · exact ⟨_, rfl, _, rfl, C, cvs, _, cv, rfl, rfl, .of (k7.lst hC5 fun z => z), at_of (j := i) rfl hcv, rfl, k7⟩
        clear k7
        rintro σ' H8 ⟨rfl, k8⟩
        -- a claim that follows
        refine Evl.q_cut (M := fun σ' H' => σ' = [some (.ref a), some (.ref fe), some (.ref ba), some (.ref L), some (.ref C), some (.ref G), some (.ref S), some (.int (i : Nat)), some (.ref ra), some cv, none, none] ∧ Ke Nof H5 H') ?_ ?_
        · refine ⟨_, rfl, cv, cc, rfl, tcv.ke k8, icl, (t5.ke k8).c, (t5.ke k8).r, (t5.ke k8).o, fun H9 k9 => ⟨true, true, rfl, rfl, false, rfl, ?_⟩⟩
          have k59 := k8.trans k9
          refine ⟨_, rfl, _, rfl, .ref ba, cv, css, cc, rfl, x5.bk.ke k59, tcv.ke k59, says icl, sayB, (t5.ke k59).h, (t5.ke k59).a, fun p H10 k10 hp _ => ?_, fun p r' H10 bs' k10 _ _ ctr => (nctr bs' ctr).elim⟩
          refine ⟨by show 1 ≤ sizeLine; decide, fun p2 H11 np2 s11 hp2 _ => ?_⟩
          refine ⟨_, _, .tup (.of (s11 _ _ hp)) (.cons (.str _) .nil), .tup (.of hp2) (.cons (.str _) .nil), shF, shF, false, ?_, ?_⟩
          · rw [eqv_self shF]
            rfl
          exact ⟨rfl, (k59.trans k10).trans (.same s11)⟩
        clear k8
        rintro σ' H9 ⟨rfl, k9⟩
        -- it holds where none fails
        refine Evl.q_cut (M := fun σ' H' => σ' = [some (.ref a), some (.ref fe), some (.ref ba), some (.ref L), some (.ref C), some (.ref G), some (.ref S), some (.int (i : Nat)), some (.ref ra), some cv, none, none] ∧ Ke Nof H5 H') ?_ ?_
        · have tb : TupB H5 (.ref S) bs := ⟨S, rfl, hS5⟩
          refine ⟨_, rfl, _, rfl, .ref ba, .ref S, css, bs, rfl, x5.bk.ke k9, tb.ke k9, l8, sayB, by omega, (t5.ke k9).h, fun p H10 np k10 hp => ?_⟩
          refine ⟨Nat.zero_le _, fun p2 H11 np2 s11 hp2 _ => ?_⟩
          have k11 := (k9.trans k10).trans (.same s11)
          have hp11 := s11 _ _ hp
          cases hf : fails bs css css.length with
          | nil =>
            rw [hf] at hp11
            refine ⟨_, _, .lst (.of hp11) .nil, .lst (.of hp2) .nil, rfl, rfl, true, rfl, ?_⟩
            refine ⟨_, rfl, _, rfl, cv, .ref S, cc, bs, rfl, tcv.ke k11, tb.ke k11, l8, says icl, (t5.ke k11).h, fun H12 k12 => ?_⟩
            rw [hold (fails_nil hf)]
            exact ⟨true, rfl, rfl, k11.trans k12⟩
          | cons n0 nt =>
            rw [hf] at hp11
            refine ⟨_, _, .lst (.of hp11) (dp_ints (n0 :: nt)), .lst (.of hp2) .nil, shaped_list (flat_ints _), rfl, false, rfl, ?_⟩
            exact ⟨rfl, k11⟩
        clear k9
        rintro σ' H10 ⟨rfl, k10⟩
        have hra10 := k10.tups _ _ hra
        have hG10 := k10.lst hG fun z => z
        have hb10 := k10.tups _ _ hb5
        have hC10 := k10.lst hC5 fun z => z
        have shc : ∀ c : List Int, SeqAt.shaped (.tuple (c.map PyData.int)) = true := fun c => shaped_tuple (flat_ints c)
        cases r with
        | book n =>
          refine Evl.q_cut (M := fun σ' H' => σ' = [some (.ref a), some (.ref fe), some (.ref ba), some (.ref L), some (.ref C), some (.ref G), some (.ref S), some (.int (i : Nat)), some (.ref ra), some cv, none, none] ∧ Ke Nof H5 H') ?_ ?_
          · refine ⟨_, rfl, ra, _, 0, .str "book", rfl, rfl, .of hra10, rfl, rfl, true, by simp, ?_⟩
            refine ⟨_, rfl, _, rfl, G, _, _, .int 0, rfl, rfl, .of hG10, at_of (j := i) rfl (by rw [List.getElem?_map, hhi]; rfl), rfl, false, by simp, ?_⟩
            obtain ⟨p, e, hp⟩ := tcv.ke k10
            obtain ⟨y, hy, p', e', hp'⟩ := aB.atR rc
            refine ⟨_, rfl, _, rfl, _, rfl, ra, _, 1, .int (n : Nat), rfl, rfl, .of hra10, rfl, ba, bvs, _, .ref p', rfl, rfl, .of hb10, at_of (j := n) rfl (by rw [hy, e']), ?_⟩
            rw [e]
            refine ⟨_, _, .tup (.of hp) (dp_ints cc), .tup (.of (k10.tups _ _ hp')) (dp_ints cc), shc cc, shc cc, false, ?_, ?_⟩
            · rw [eqv_self (shc cc)]
              rfl
            rw [← e]
            exact ⟨rfl, k10⟩
          clear hra10 hG10 hb10 hC10 k10
          rintro σ' H11 ⟨rfl, k11⟩
          refine ⟨_, rfl, ra, _, 0, .str "book", rfl, rfl, .of (k11.tups _ _ hra), rfl, rfl, false, by simp; decide, ?_⟩
          exact ⟨_, _, _, rfl, k11⟩
        | cut i1 j1 k1 =>
          refine Evl.q_cut (M := fun σ' H' => σ' = [some (.ref a), some (.ref fe), some (.ref ba), some (.ref L), some (.ref C), some (.ref G), some (.ref S), some (.int (i : Nat)), some (.ref ra), some cv, none, none] ∧ Ke Nof H5 H') ?_ ?_
          · refine ⟨_, rfl, ra, _, 0, .str "cut", rfl, rfl, .of hra10, rfl, rfl, false, by simp; decide, ?_⟩
            exact ⟨rfl, k10⟩
          clear hra10 hG10 hb10 hC10 k10
          rintro σ' H11 ⟨rfl, k11⟩
          have hra11 := k11.tups _ _ hra
          have hC11 := k11.lst hC5 fun z => z
          obtain ⟨li1, lj1⟩ := Lad.parts ld hr'
          refine ⟨_, rfl, ra, _, 0, .str "cut", rfl, rfl, .of hra11, rfl, rfl, true, by simp, ?_⟩
          refine Evl.q_cut (M := fun σ' H' => σ' = [some (.ref a), some (.ref fe), some (.ref ba), some (.ref L), some (.ref C), some (.ref G), some (.ref S), some (.int (i : Nat)), some (.ref ra), some cv, none, none] ∧ Ke Nof H5 H') ?_ ?_
          · obtain ⟨x, y, hx1, hy1, cm⟩ := rc
            rw [List.getElem?_take, if_pos li1] at hx1
            rw [List.getElem?_take, if_pos lj1] at hy1
            obtain ⟨xv, hxv, txv⟩ := aC.atR hx1
            obtain ⟨yv, hyv, tyv⟩ := aC.atR hy1
            have ix := ic x (List.mem_of_getElem? hx1)
            have iy := ic y (List.mem_of_getElem? hy1)
            have kb : 1 ≤ k1 ∧ k1 ≤ 8 := ⟨cm.1, (ix.says k1 cm.2.1).2.2⟩
            have kk : k1.natAbs.log2 < 1920 ∧ (toString k1 : Str).length ≤ 1000 := by
              obtain ⟨z1, z2⟩ := kb
              have : k1 = 1 ∨ k1 = 2 ∨ k1 = 3 ∨ k1 = 4 ∨ k1 = 5 ∨ k1 = 6 ∨ k1 = 7 ∨ k1 = 8 := by omega
              rcases this with rfl | rfl | rfl | rfl | rfl | rfl | rfl | rfl <;> decide +kernel
            refine ⟨_, rfl, _, rfl, _, rfl, ra, _, 1, .int (i1 : Nat), rfl, rfl, .of hra11, rfl, C, cvs, _, xv, rfl, rfl, .of hC11, at_of (j := i1) rfl hxv, ?_⟩
            refine ⟨_, rfl, _, rfl, ra, _, 2, .int (j1 : Nat), rfl, rfl, .of hra11, rfl, C, cvs, _, yv, rfl, rfl, .of hC11, at_of (j := j1) rfl hyv, ?_⟩
            refine ⟨_, rfl, ra, _, 3, .int k1, rfl, rfl, .of hra11, rfl, xv, yv, k1, x, y, rfl, txv.ke k11, tyv.ke k11, ix, iy, kk.1, kk.2, (t5.ke k11).o, fun H12 k12 no => cm.no no, fun ns p H12 k12 cm' hp => ?_⟩
            obtain rfl := cm.one cm'
            obtain ⟨pc, ec, hpc⟩ := tcv.ke (k11.trans k12)
            rw [ec]
            refine ⟨_, _, .tup (.of hpc) (dp_ints cc), .tup (.of hp) (dp_ints cc), shc cc, shc cc, false, ?_, ?_⟩
            · rw [eqv_self (shc cc)]
              rfl
            rw [← ec]
            exact ⟨rfl, k11.trans k12⟩
          clear hra11 hC11 k11
          rintro σ' H12 ⟨rfl, k12⟩
          have hra12 := k12.tups _ _ hra
          have hG12 := k12.lst hG fun z => z
          have lgi : i1 < (hts rows).length := by omega
          have lgj : j1 < (hts rows).length := by omega
          have e1 : (hts rows).getD i1 0 = (hts rows)[i1] := by rw [List.getD_eq_getElem?_getD, List.getElem?_eq_getElem lgi]; rfl
          have e2 : (hts rows).getD j1 0 = (hts rows)[j1] := by rw [List.getD_eq_getElem?_getD, List.getElem?_eq_getElem lgj]; rfl
          have ev : htOf ((hts rows).take i) (.cut i1 j1 k1) = 1 + (if (hts rows)[j1] > (hts rows)[i1] then (hts rows)[j1] else (hts rows)[i1]) := by
            show 1 + (if ((hts rows).take i).getD j1 0 > ((hts rows).take i).getD i1 0 then ((hts rows).take i).getD j1 0 else ((hts rows).take i).getD i1 0) = _
            rw [getD_take li1, getD_take lj1, e1, e2]
          rw [ev] at hhi
          refine ⟨_, rfl, _, rfl, G, _, _, .int (1 + (if (hts rows)[j1] > (hts rows)[i1] then (hts rows)[j1] else (hts rows)[i1])), rfl, rfl, .of hG12, at_of (j := i) rfl (by rw [List.getElem?_map, hhi]; rfl), ?_⟩
          refine ⟨_, rfl, _, rfl, ra, _, 1, .int (i1 : Nat), rfl, rfl, .of hra12, rfl, G, _, _, .int (hts rows)[i1], rfl, rfl, .of hG12, at_of (j := i1) rfl (by rw [List.getElem?_map, List.getElem?_eq_getElem lgi]; rfl), ?_⟩
          refine ⟨_, rfl, _, rfl, ra, _, 2, .int (j1 : Nat), rfl, rfl, .of hra12, rfl, G, _, _, .int (hts rows)[j1], rfl, rfl, .of hG12, at_of (j := j1) rfl (by rw [List.getElem?_map, List.getElem?_eq_getElem lgj]; rfl), ?_⟩
          refine ⟨_, _, rfl, _, _, rfl, rfl, false, ?_, ?_⟩
          · show V.bl (decide _) = V.bl false
            rw [decide_eq_false]
            omega
          exact ⟨_, _, _, rfl, k12⟩
      · rintro σ H6 ⟨y7, y8, y9, rfl, k6⟩
        exact ⟨y7, y8, y9, rfl, k6⟩
    rintro σ' H6 ⟨y7, y8, y9, rfl, k6⟩
    -- at
    refine Evl.q_cut (M := fun σ' H' => ∃ n : Nat, σ' = [some (.ref a), some (.ref fe), some (.ref ba), some (.ref L), some (.ref C), some (.ref G), some (.ref S), y7, y8, y9, some (.int (n : Nat)), none] ∧ 1 ≤ n ∧ n ≤ rows.length ∧ Ke (· = fe) H5 H') ?_ ?_
    · refine ⟨_, rfl, _, rfl, L, _, rfl, .inl (.of (k6.lst hL5 fun z => z)), fe, c, _, _, rfl, by omega, by omega, k6.feed F5, by decide, fun d H7 d0 d1 F7 b7 => ?_⟩
      refine ⟨_, _, rfl, rfl, ?_⟩
      refine ⟨(1 + d).toNat, ?_, by omega, by omega, k6.all.trans (.but (k6.feed F5) b7)⟩
      rw [Int.toNat_of_nonneg (by omega)]
      rfl
    rintro σ' H7 ⟨n, rfl, n1, n2, k7⟩
    have nCf' : C ≠ fe := nCf
    have hL7 := k7.lst hL5 nLf
    have hC7 := k7.lst hC5 nCf
    have hG7 := k7.lst hG nGf
    have part : ∀ {J : Hp} {p : Addr}, Ke (· = fe) H5 J → J p = some (.lst (cutV rvs none (some (n : Nat)))) → BL J (.ref ba) p css (rows.take n) (cls.take n) := fun kk hp =>
      ⟨x5.bk.ke kk, ⟨_, hp, by rw [cut_to]; exact (aR.take n).imp fun _ _ r => r.ke kk⟩, ld.take n, ib, by rw [List.length_take]; omega⟩
    have lpos : 0 < (rows.take n).length := by rw [List.length_take]; omega
    -- is_ladder
    refine Evl.q_cut (M := fun σ' H' => σ' = [some (.ref a), some (.ref fe), some (.ref ba), some (.ref L), some (.ref C), some (.ref G), some (.ref S), y7, y8, y9, some (.int (n : Nat)), none] ∧ Ke Nof H7 H') ?_ ?_
    · refine ⟨_, rfl, _, rfl, _, rfl, _, rfl, L, _, rfl, .of hL7, fun p H8 np s8 hp _ => ?_⟩
      have k8 : Ke (· = fe) H5 H8 := k7.trans (.same s8)
      refine ⟨.ref ba, p, css, _, _, rfl, part k8 hp, lpos, (t5.ke k8).o, fun H9 k9 => ⟨true, true, rfl, rfl, false, rfl, ?_⟩⟩
      exact ⟨rfl, (Ke.same s8).trans k9⟩
    rintro σ' H8 ⟨rfl, k8⟩
    have k58 : Ke (· = fe) H5 H8 := k7.trans k8.all
    -- claims_of
    refine Evl.q_cut (M := fun σ' H' => σ' = [some (.ref a), some (.ref fe), some (.ref ba), some (.ref L), some (.ref C), some (.ref G), some (.ref S), y7, y8, y9, some (.int (n : Nat)), none] ∧ Ke Nof H7 H') ?_ ?_
    · refine ⟨_, rfl, _, rfl, _, rfl, _, rfl, L, _, rfl, .of (k8.lst hL7 fun z => z), fun p H9 np s9 hp _ => ?_⟩
      have k9 : Ke (· = fe) H5 H9 := k58.trans (.same s9)
      refine ⟨.ref ba, p, css, _, _, rfl, part k9 hp, lpos, (t5.ke k9).o, fun p2 H10 np2 k10 hp2 => ?_⟩
      have k710 : Ke Nof H7 H10 := (k8.trans (.same s9)).trans k10
      refine ⟨_, rfl, _, rfl, _, rfl, C, _, rfl, .of (k710.lst hC7 fun z => z), fun p3 H11 np3 s11 hp3 _ => ?_⟩
      have k11 : Ke Nof H7 H11 := k710.trans (.same s11)
      obtain ⟨vs2, h2, a2⟩ := hp2
      rw [cut_to] at hp3
      refine ⟨_, _, .lst (.of (s11 _ _ h2)) (dp_cls (a2.imp fun _ _ r => r.ke (Ke.same (F := Nof) s11))), .lst (.of hp3) (dp_cls ((aC.take n).imp fun _ _ r => (r.ke k7).ke k11)), shaped_cls _, shaped_cls _, false, ?_, ?_⟩
      · rw [eqv_self (shaped_cls _)]
        rfl
      exact ⟨rfl, k11⟩
    clear k58 k8
    rintro σ' H9 ⟨rfl, k9⟩
    have k59 : Ke (· = fe) H5 H9 := k7.trans k9.all
    refine ⟨_, rfl, _, rfl, .ref ba, L, css, cls, rows, rfl, ⟨x5.bk.ke k59, ⟨rvs, k9.lst hL7 fun z => z, aR.imp fun _ _ r => r.ke k59⟩, ld, ib, x5.le⟩, by omega, (t5.ke k59).o, fun H10 k10 => ?_⟩
    have hG10 := k10.lst (k9.lst hG7 fun z => z) fun z => z
    refine ⟨_, rfl, G, rfl, ⟨_, .of hG10⟩, fun D nD => ?_⟩
    refine lc_list (xs := (hts rows).map V.int) (Pv := fun i H' => Same H10 H' ∧ H' D = some (.lst ((((hts rows).take i).filter fun x => decide (0 < x)).map V.int))) ⟨same_new nD, upd_same⟩ (fun i H' _ z => .of (z.1 _ _ hG10)) ?_ ?_
    · rintro i x H11 hx ⟨s11, hD⟩
      obtain ⟨z, hz, rfl⟩ := Ct.at_int hx
      have ft := filt_take (f := fun x : Int => decide (0 < x)) hz
      refine ⟨rfl, _, rfl, _, _, rfl, rfl, _, rfl, ite2 (fun y1 => ?_) (fun y1 => ?_)⟩
      · have y1 : decide (0 < z) = true := y1
        refine ⟨_, rfl, _, hD, ?_, fun c' o' y => ?_, ?_⟩
        · rw [List.length_map]
          exact small1000 (Nat.le_trans (List.length_filter_le _ _) (by rw [List.length_take]; omega))
        · rw [upd_ne (ne_of_none y nD)]
          exact s11 _ _ y
        · rw [upd_same, ft, if_pos y1, List.map_append]
          rfl
      · have y1 : ¬ decide (0 < z) = true := y1
        refine ⟨s11, ?_⟩
        rw [ft, if_neg y1, List.append_nil]
        exact hD
    · rintro H11 ⟨s11, hD⟩
      rw [List.length_map, List.take_length] at hD
      refine ⟨D, _, rfl, .inl (.of hD), rfl, ?_⟩
      rw [List.length_map, hcnt, decide_eq_true rfl]
      exact q H11
end
end K8
namespace Eg
open PySem PySem.Spec PyProof.Rows L2 GxR Nw Dr Kp
/-! ### the end of a law that shows lists: defs whose code objects have tables -/
/-- what stands where a def's code object has its table -/
abbrev Own (K : PySem.W.Frag) (h : Heap) (mg : Str → Option Value) (ys : List Str) : Prop := ∀ y ∈ ys, ∀ f, mg y = some (.ref f) → LamX.OwnTab K f h
/-- what is to be known of a law at the heap h -/
def LawG (l : PySem.W.OpenLaw) (w : World) (K : PySem.W.Frag) (k m : Nat) (x : Str) (mg : Str → Option Value) (g : Addr) (h : Heap) : Prop :=
  ∃ (fd : FuncData) (cs : List (Addr × Addr)) (sp : Sp), (∀ p ∈ cs, h.get? p.2 = some (PySem.W.tabObj #[])) ∧ (∀ p ∈ cs, K.lookup p.2 = none) ∧ (∀ p ∈ cs, PySem.W.CodeHd h p.1 p.2) ∧ (∀ (s : Shared) (u : Value), BindsTo s fd ⟨[u], []⟩ [(x, u)]) ∧
    (∀ (H : Hp) (a : Addr) (ns : List Int), ns.length ≤ m → (∀ p ∈ cs, H p.2 = some (.tbl #[])) → SqL K H a (ns.map V.int) → sp [.ref a] H (fun v _ => v = .bl true) fun _ _ _ => False) ∧
    ∀ base : Heap, K.In base → base.Ns mainGlobals mg → (∀ p ∈ cs, LamX.TabB base mg p.1 p.2) → Gd.FnG l.prog w K mg base k g fd [x] sp
theorem walk_own {l : PySem.W.OpenLaw} {m k : Nat} {pr : Program} {ls : List Str} {XP : (Str → Option Value) → Heap → Prop} {YP : World → Heap → Prop} {d : DefRec} {K : Params → PySem.W.Frag} {x : Str} (ys : List Str)
    (e1 : l.most = some m) (e2 : m ≤ sizeLine) (e3 : d.params.defaults = []) (room : Room k callerA) (named : ∀ y ∈ ys, ((recsOf pr).any fun e => e.name == y) = true) (inK : ∀ (w : World) (h : Heap), YP w h → (K w.params).In h)
    (go : ∀ (w : World) (mg : Str → Option Value) (g : Addr) (h : Heap), YP w h → (K w.params).In h → h.Ns mainGlobals mg → mg d.name = some (.ref g) → Own (K w.params) h mg ys → LawG l w (K w.params) k m x mg g h) :
    PySem.W.WalkO pr ls XP YP l.row.toRowW d [] (fun f vs => PySem.call f vs) := by
  refine Att.attach_callB e1 e3 fun w s0 s1 mg mb fa o pm cd doc a us ns G Y ho hd hcd hmg hobj hints hlen hbits hg => ?_
  have inH := inK w _ Y
  have tabs : Own (K w.params) s1.heap mg ys := fun y hy f hf c P ob fd e dd vs sl q1 q2 q3 q4 q5 => by
    obtain ⟨r, hr1, hr2⟩ := List.any_eq_true.mp (named y hy)
    obtain ⟨f', ob', fd', c', P', t1, t2, t3, t4, t5, ⟨⟨oc, vc, u1, _, u3, u4⟩, u5⟩⟩ := G.T.tab r hr1
    rw [show r.name = y from beq_iff_eq.mp hr2, hf] at t1
    cases t1
    rw [inH _ _ q1] at t2
    cases t2
    rw [q2] at t3
    cases t3
    rw [q3] at t4
    cases t4
    rw [inH _ _ q4] at u1
    cases u1
    cases u3
    rw [q5] at u4
    cases u4
    exact u5
  obtain ⟨fd, cs, sp, h1, h2, h3, h4, h5, h6⟩ := go w mg fa _ Y inH G.T.g hmg tabs
  exact Gd.law_at inH G.T.g G.T.b G.T.builtins G.T.nolimit hg h1 h2 h3 G.T.bmain hobj hints (Nat.le_trans hlen e2) room h6 h4 fun H z1 z2 => h5 H a ns hlen z1 z2
end Eg
namespace K8
open PySem PySem.Spec PyProof.Rows L2 GxR Nw Dr Kp Se Cl Ct Lr Lp Ll Wd Ic Xb So Eg
theorem all_mk {l : PySem.W.OpenLaw} {w : World} {K : PySem.W.Frag} {h : Heap} {mg : Str → Option Value} {top : Addr} (X : K.In h) (G : h.Ns mainGlobals mg) (htop : mg "law" = some (.ref top)) (ow : Own K h mg ["has_opposites", "is_rising", "is_claim", "holds", "all_hold"]) {fM fD fO fT fC fB fS fw fr fy fl fc ft fW fY fE fN fU fn fR fA fI fK fk fh fG fm fs fF fb fv fo fL gH gR gC gO gA cH PH cR PR cC PC cO PO cA PA c0 : Addr}
    {od_fM an_fM : Option Addr} {sl_fM : Array (Option Value)} {oc_fM kV_fM dc_fM pm_fM ct_fM : Value} {cd_fM : Value} {od_fD an_fD : Option Addr} {sl_fD : Array (Option Value)} {oc_fD kV_fD dc_fD pm_fD ct_fD : Value} {cd_fD : Value} {od_fO an_fO : Option Addr} {sl_fO : Array (Option Value)} {oc_fO kV_fO dc_fO pm_fO ct_fO : Value} {cd_fO : Value} {od_fT an_fT : Option Addr} {sl_fT : Array (Option Value)} {oc_fT kV_fT dc_fT pm_fT ct_fT : Value} {cd_fT : Value} {od_fC an_fC : Option Addr} {sl_fC : Array (Option Value)} {oc_fC kV_fC dc_fC pm_fC ct_fC : Value} {cd_fC : Value} {od_fB an_fB : Option Addr} {sl_fB : Array (Option Value)} {oc_fB kV_fB dc_fB pm_fB ct_fB : Value} {cd_fB : Value} {od_fS an_fS : Option Addr} {sl_fS : Array (Option Value)} {oc_fS kV_fS dc_fS pm_fS ct_fS : Value} {cd_fS : Value} {od_fw an_fw : Option Addr} {sl_fw : Array (Option Value)} {oc_fw kV_fw dc_fw pm_fw ct_fw : Value} {cd_fw : Value} {od_fr an_fr : Option Addr} {sl_fr : Array (Option Value)} {oc_fr kV_fr dc_fr pm_fr ct_fr : Value} {cd_fr : Value} {od_fy an_fy : Option Addr} {sl_fy : Array (Option Value)} {oc_fy kV_fy dc_fy pm_fy ct_fy : Value} {cd_fy : Value} {od_fl an_fl : Option Addr} {sl_fl : Array (Option Value)} {oc_fl kV_fl dc_fl pm_fl ct_fl : Value} {cd_fl : Value} {od_fc an_fc : Option Addr} {sl_fc : Array (Option Value)} {oc_fc kV_fc dc_fc pm_fc ct_fc : Value} {cd_fc : Value} {od_ft an_ft : Option Addr} {sl_ft : Array (Option Value)} {oc_ft kV_ft dc_ft pm_ft ct_ft : Value} {cd_ft : Value} {od_fW an_fW : Option Addr} {sl_fW : Array (Option Value)} {oc_fW kV_fW dc_fW pm_fW ct_fW : Value} {cd_fW : Value} {od_fY an_fY : Option Addr} {sl_fY : Array (Option Value)} {oc_fY kV_fY dc_fY pm_fY ct_fY : Value} {cd_fY : Value} {od_fE an_fE : Option Addr} {sl_fE : Array (Option Value)} {oc_fE kV_fE dc_fE pm_fE ct_fE : Value} {cd_fE : Value} {od_fN an_fN : Option Addr} {sl_fN : Array (Option Value)} {oc_fN kV_fN dc_fN pm_fN ct_fN : Value} {cd_fN : Value} {od_fU an_fU : Option Addr} {sl_fU : Array (Option Value)} {oc_fU kV_fU dc_fU pm_fU ct_fU : Value} {cd_fU : Value} {od_fn an_fn : Option Addr} {sl_fn : Array (Option Value)} {oc_fn kV_fn dc_fn pm_fn ct_fn : Value} {cd_fn : Value} {od_fR an_fR : Option Addr} {sl_fR : Array (Option Value)} {oc_fR kV_fR dc_fR pm_fR ct_fR : Value} {cd_fR : Value} {od_fA an_fA : Option Addr} {sl_fA : Array (Option Value)} {oc_fA kV_fA dc_fA pm_fA ct_fA : Value} {cd_fA : Value} {od_fI an_fI : Option Addr} {sl_fI : Array (Option Value)} {oc_fI kV_fI dc_fI pm_fI ct_fI : Value} {cd_fI : Value} {od_fK an_fK : Option Addr} {sl_fK : Array (Option Value)} {oc_fK kV_fK dc_fK pm_fK ct_fK : Value} {cd_fK : Value} {od_fk an_fk : Option Addr} {sl_fk : Array (Option Value)} {oc_fk kV_fk dc_fk pm_fk ct_fk : Value} {cd_fk : Value} {od_fh an_fh : Option Addr} {sl_fh : Array (Option Value)} {oc_fh kV_fh dc_fh pm_fh ct_fh : Value} {cd_fh : Value} {od_fG an_fG : Option Addr} {sl_fG : Array (Option Value)} {oc_fG kV_fG dc_fG pm_fG ct_fG : Value} {cd_fG : Value} {od_fm an_fm : Option Addr} {sl_fm : Array (Option Value)} {oc_fm kV_fm dc_fm pm_fm ct_fm : Value} {cd_fm : Value} {od_fs an_fs : Option Addr} {sl_fs : Array (Option Value)} {oc_fs kV_fs dc_fs pm_fs ct_fs : Value} {cd_fs : Value} {od_fF an_fF : Option Addr} {sl_fF : Array (Option Value)} {oc_fF kV_fF dc_fF pm_fF ct_fF : Value} {cd_fF : Value} {od_fb an_fb : Option Addr} {sl_fb : Array (Option Value)} {oc_fb kV_fb dc_fb pm_fb ct_fb : Value} {cd_fb : Value} {od_fv an_fv : Option Addr} {sl_fv : Array (Option Value)} {oc_fv kV_fv dc_fv pm_fv ct_fv : Value} {cd_fv : Value} {od_fo an_fo : Option Addr} {sl_fo : Array (Option Value)} {oc_fo kV_fo dc_fo pm_fo ct_fo : Value} {cd_fo : Value} {od_fL an_fL : Option Addr} {sl_fL : Array (Option Value)} {oc_fL kV_fL dc_fL pm_fL ct_fL : Value} {cd_fL : Value} {od_gH an_gH : Option Addr} {sl_gH : Array (Option Value)} {oc_gH kV_gH dc_gH pm_gH ct_gH : Value} {od_gR an_gR : Option Addr} {sl_gR : Array (Option Value)} {oc_gR kV_gR dc_gR pm_gR ct_gR : Value} {od_gC an_gC : Option Addr} {sl_gC : Array (Option Value)} {oc_gC kV_gC dc_gC pm_gC ct_gC : Value} {od_gO an_gO : Option Addr} {sl_gO : Array (Option Value)} {oc_gO kV_gO dc_gO pm_gO ct_gO : Value} {od_gA an_gA : Option Addr} {sl_gA : Array (Option Value)} {oc_gA kV_gA dc_gA pm_gA ct_gA : Value} {e_H : Value} {dd_H : Option Addr} {vs_H : Array Value} {sf_H : Array (Option Value)} {e_R : Value} {dd_R : Option Addr} {vs_R : Array Value} {sf_R : Array (Option Value)} {e_C : Value} {dd_C : Option Addr} {vs_C : Array Value} {sf_C : Array (Option Value)} {e_O : Value} {dd_O : Option Addr} {vs_O : Array Value} {sf_O : Array (Option Value)} {e_A : Value} {dd_A : Option Addr} {vs_A : Array Value} {sf_A : Array (Option Value)} {tk_MOST_THINGS : Tok} {tk_MOST_ROWS : Tok}
    (b_fM : PySem.W.nsIn K mainGlobals "_law_smixed" = some (some (.ref fM)))
    (l_fM : K.lookup fM = some ⟨oc_fM, od_fM, .func (PySem.W.fnOf "_law_smixed" "_law_smixed" (defArgs sMix) (defBody sMix) (defScope sMix) .none kV_fM dc_fM pm_fM an_fM cd_fM ct_fM), sl_fM⟩)
    (c_fM : PySem.W.codeIn K cd_fM "_law_smixed" = true)
    (k_fM : PySem.W.keepIn K (.ref fM) = true)
    (b_fD : PySem.W.nsIn K mainGlobals "_law_sdraw" = some (some (.ref fD)))
    (l_fD : K.lookup fD = some ⟨oc_fD, od_fD, .func (PySem.W.fnOf "_law_sdraw" "_law_sdraw" (defArgs sDrw) (defBody sDrw) (defScope sDrw) .none kV_fD dc_fD pm_fD an_fD cd_fD ct_fD), sl_fD⟩)
    (c_fD : PySem.W.codeIn K cd_fD "_law_sdraw" = true)
    (k_fD : PySem.W.keepIn K (.ref fD) = true)
    (b_fO : PySem.W.nsIn K mainGlobals "_law_sopen" = some (some (.ref fO)))
    (l_fO : K.lookup fO = some ⟨oc_fO, od_fO, .func (PySem.W.fnOf "_law_sopen" "_law_sopen" (defArgs sOpn) (defBody sOpn) (defScope sOpn) .none kV_fO dc_fO pm_fO an_fO cd_fO ct_fO), sl_fO⟩)
    (c_fO : PySem.W.codeIn K cd_fO "_law_sopen" = true)
    (k_fO : PySem.W.keepIn K (.ref fO) = true)
    (b_fT : PySem.W.nsIn K mainGlobals "_law_sthings" = some (some (.ref fT)))
    (l_fT : K.lookup fT = some ⟨oc_fT, od_fT, .func (PySem.W.fnOf "_law_sthings" "_law_sthings" (defArgs sThg) (defBody sThg) (defScope sThg) .none kV_fT dc_fT pm_fT an_fT cd_fT ct_fT), sl_fT⟩)
    (c_fT : PySem.W.codeIn K cd_fT "_law_sthings" = true)
    (k_fT : PySem.W.keepIn K (.ref fT) = true)
    (b_fC : PySem.W.nsIn K mainGlobals "_law_sclaim" = some (some (.ref fC)))
    (l_fC : K.lookup fC = some ⟨oc_fC, od_fC, .func (PySem.W.fnOf "_law_sclaim" "_law_sclaim" (defArgs sClm) (defBody sClm) (defScope sClm) .none kV_fC dc_fC pm_fC an_fC cd_fC ct_fC), sl_fC⟩)
    (c_fC : PySem.W.codeIn K cd_fC "_law_sclaim" = true)
    (k_fC : PySem.W.keepIn K (.ref fC) = true)
    (b_fB : PySem.W.nsIn K mainGlobals "_law_sbook" = some (some (.ref fB)))
    (l_fB : K.lookup fB = some ⟨oc_fB, od_fB, .func (PySem.W.fnOf "_law_sbook" "_law_sbook" (defArgs sBok) (defBody sBok) (defScope sBok) .none kV_fB dc_fB pm_fB an_fB cd_fB ct_fB), sl_fB⟩)
    (c_fB : PySem.W.codeIn K cd_fB "_law_sbook" = true)
    (k_fB : PySem.W.keepIn K (.ref fB) = true)
    (b_fS : PySem.W.nsIn K mainGlobals "_law_scut" = some (some (.ref fS)))
    (l_fS : K.lookup fS = some ⟨oc_fS, od_fS, .func (PySem.W.fnOf "_law_scut" "_law_scut" (defArgs sSct) (defBody sSct) (defScope sSct) .none kV_fS dc_fS pm_fS an_fS cd_fS ct_fS), sl_fS⟩)
    (c_fS : PySem.W.codeIn K cd_fS "_law_scut" = true)
    (k_fS : PySem.W.keepIn K (.ref fS) = true)
    (b_fw : PySem.W.nsIn K mainGlobals "_law_swhole" = some (some (.ref fw)))
    (l_fw : K.lookup fw = some ⟨oc_fw, od_fw, .func (PySem.W.fnOf "_law_swhole" "_law_swhole" (defArgs sSwh) (defBody sSwh) (defScope sSwh) .none kV_fw dc_fw pm_fw an_fw cd_fw ct_fw), sl_fw⟩)
    (c_fw : PySem.W.codeIn K cd_fw "_law_swhole" = true)
    (k_fw : PySem.W.keepIn K (.ref fw) = true)
    (b_fr : PySem.W.nsIn K mainGlobals "_law_srow" = some (some (.ref fr)))
    (l_fr : K.lookup fr = some ⟨oc_fr, od_fr, .func (PySem.W.fnOf "_law_srow" "_law_srow" (defArgs sSrw) (defBody sSrw) (defScope sSrw) .none kV_fr dc_fr pm_fr an_fr cd_fr ct_fr), sl_fr⟩)
    (c_fr : PySem.W.codeIn K cd_fr "_law_srow" = true)
    (k_fr : PySem.W.keepIn K (.ref fr) = true)
    (b_fy : PySem.W.nsIn K mainGlobals "_law_sways" = some (some (.ref fy)))
    (l_fy : K.lookup fy = some ⟨oc_fy, od_fy, .func (PySem.W.fnOf "_law_sways" "_law_sways" (defArgs sSwy) (defBody sSwy) (defScope sSwy) .none kV_fy dc_fy pm_fy an_fy cd_fy ct_fy), sl_fy⟩)
    (c_fy : PySem.W.codeIn K cd_fy "_law_sways" = true)
    (k_fy : PySem.W.keepIn K (.ref fy) = true)
    (b_fl : PySem.W.nsIn K mainGlobals "_law_sladder" = some (some (.ref fl)))
    (l_fl : K.lookup fl = some ⟨oc_fl, od_fl, .func (PySem.W.fnOf "_law_sladder" "_law_sladder" (defArgs sSld) (defBody sSld) (defScope sSld) .none kV_fl dc_fl pm_fl an_fl cd_fl ct_fl), sl_fl⟩)
    (c_fl : PySem.W.codeIn K cd_fl "_law_sladder" = true)
    (k_fl : PySem.W.keepIn K (.ref fl) = true)
    (b_fc : PySem.W.nsIn K mainGlobals "_law_scase" = some (some (.ref fc)))
    (l_fc : K.lookup fc = some ⟨oc_fc, od_fc, .func (PySem.W.fnOf "_law_scase" "_law_scase" (defArgs sSca) (defBody sSca) (defScope sSca) .none kV_fc dc_fc pm_fc an_fc cd_fc ct_fc), sl_fc⟩)
    (c_fc : PySem.W.codeIn K cd_fc "_law_scase" = true)
    (k_fc : PySem.W.keepIn K (.ref fc) = true)
    (b_ft : PySem.W.nsIn K mainGlobals "_law_ssetting" = some (some (.ref ft)))
    (l_ft : K.lookup ft = some ⟨oc_ft, od_ft, .func (PySem.W.fnOf "_law_ssetting" "_law_ssetting" (defArgs sSst) (defBody sSst) (defScope sSst) .none kV_ft dc_ft pm_ft an_ft cd_ft ct_ft), sl_ft⟩)
    (c_ft : PySem.W.codeIn K cd_ft "_law_ssetting" = true)
    (k_ft : PySem.W.keepIn K (.ref ft) = true)
    (b_fW : PySem.W.nsIn K mainGlobals "is_whole" = some (some (.ref fW)))
    (l_fW : K.lookup fW = some ⟨oc_fW, od_fW, .func (PySem.W.fnOf "is_whole" "is_whole" (defArgs sWho) (defBody sWho) (defScope sWho) .none kV_fW dc_fW pm_fW an_fW cd_fW ct_fW), sl_fW⟩)
    (c_fW : PySem.W.codeIn K cd_fW "is_whole" = true)
    (k_fW : PySem.W.keepIn K (.ref fW) = true)
    (b_fY : PySem.W.nsIn K mainGlobals "is_say" = some (some (.ref fY)))
    (l_fY : K.lookup fY = some ⟨oc_fY, od_fY, .func (PySem.W.fnOf "is_say" "is_say" (defArgs sSay) (defBody sSay) (defScope sSay) .none kV_fY dc_fY pm_fY an_fY cd_fY ct_fY), sl_fY⟩)
    (c_fY : PySem.W.codeIn K cd_fY "is_say" = true)
    (k_fY : PySem.W.keepIn K (.ref fY) = true)
    (b_fE : PySem.W.nsIn K mainGlobals "can_meet" = some (some (.ref fE)))
    (l_fE : K.lookup fE = some ⟨oc_fE, od_fE, .func (PySem.W.fnOf "can_meet" "can_meet" (defArgs sCme) (defBody sCme) (defScope sCme) .none kV_fE dc_fE pm_fE an_fE cd_fE ct_fE), sl_fE⟩)
    (c_fE : PySem.W.codeIn K cd_fE "can_meet" = true)
    (k_fE : PySem.W.keepIn K (.ref fE) = true)
    (b_fN : PySem.W.nsIn K mainGlobals "cut_or_none" = some (some (.ref fN)))
    (l_fN : K.lookup fN = some ⟨oc_fN, od_fN, .func (PySem.W.fnOf "cut_or_none" "cut_or_none" (defArgs sCon) (defBody sCon) (defScope sCon) .none kV_fN dc_fN pm_fN an_fN cd_fN ct_fN), sl_fN⟩)
    (c_fN : PySem.W.codeIn K cd_fN "cut_or_none" = true)
    (k_fN : PySem.W.keepIn K (.ref fN) = true)
    (b_fU : PySem.W.nsIn K mainGlobals "cut" = some (some (.ref fU)))
    (l_fU : K.lookup fU = some ⟨oc_fU, od_fU, .func (PySem.W.fnOf "cut" "cut" (defArgs sCut) (defBody sCut) (defScope sCut) .none kV_fU dc_fU pm_fU an_fU cd_fU ct_fU), sl_fU⟩)
    (c_fU : PySem.W.codeIn K cd_fU "cut" = true)
    (k_fU : PySem.W.keepIn K (.ref fU) = true)
    (b_fn : PySem.W.nsIn K mainGlobals "is_number_of" = some (some (.ref fn)))
    (l_fn : K.lookup fn = some ⟨oc_fn, od_fn, .func (PySem.W.fnOf "is_number_of" "is_number_of" (defArgs sNum) (defBody sNum) (defScope sNum) .none kV_fn dc_fn pm_fn an_fn cd_fn ct_fn), sl_fn⟩)
    (c_fn : PySem.W.codeIn K cd_fn "is_number_of" = true)
    (k_fn : PySem.W.keepIn K (.ref fn) = true)
    (b_fR : PySem.W.nsIn K mainGlobals "claim_of_row" = some (some (.ref fR)))
    (l_fR : K.lookup fR = some ⟨oc_fR, od_fR, .func (PySem.W.fnOf "claim_of_row" "claim_of_row" (defArgs sRow) (defBody sRow) (defScope sRow) .none kV_fR dc_fR pm_fR an_fR cd_fR ct_fR), sl_fR⟩)
    (c_fR : PySem.W.codeIn K cd_fR "claim_of_row" = true)
    (k_fR : PySem.W.keepIn K (.ref fR) = true)
    (b_fA : PySem.W.nsIn K mainGlobals "claims_ahead_of_fault" = some (some (.ref fA)))
    (l_fA : K.lookup fA = some ⟨oc_fA, od_fA, .func (PySem.W.fnOf "claims_ahead_of_fault" "claims_ahead_of_fault" (defArgs sAhe) (defBody sAhe) (defScope sAhe) .none kV_fA dc_fA pm_fA an_fA cd_fA ct_fA), sl_fA⟩)
    (c_fA : PySem.W.codeIn K cd_fA "claims_ahead_of_fault" = true)
    (k_fA : PySem.W.keepIn K (.ref fA) = true)
    (b_fI : PySem.W.nsIn K mainGlobals "is_ladder" = some (some (.ref fI)))
    (l_fI : K.lookup fI = some ⟨oc_fI, od_fI, .func (PySem.W.fnOf "is_ladder" "is_ladder" (defArgs sIsl) (defBody sIsl) (defScope sIsl) .none kV_fI dc_fI pm_fI an_fI cd_fI ct_fI), sl_fI⟩)
    (c_fI : PySem.W.codeIn K cd_fI "is_ladder" = true)
    (k_fI : PySem.W.keepIn K (.ref fI) = true)
    (b_fK : PySem.W.nsIn K mainGlobals "claims_of" = some (some (.ref fK)))
    (l_fK : K.lookup fK = some ⟨oc_fK, od_fK, .func (PySem.W.fnOf "claims_of" "claims_of" (defArgs sClo) (defBody sClo) (defScope sClo) .none kV_fK dc_fK pm_fK an_fK cd_fK ct_fK), sl_fK⟩)
    (c_fK : PySem.W.codeIn K cd_fK "claims_of" = true)
    (k_fK : PySem.W.keepIn K (.ref fK) = true)
    (b_fk : PySem.W.nsIn K mainGlobals "check_ladder" = some (some (.ref fk)))
    (l_fk : K.lookup fk = some ⟨oc_fk, od_fk, .func (PySem.W.fnOf "check_ladder" "check_ladder" (defArgs sChk) (defBody sChk) (defScope sChk) .none kV_fk dc_fk pm_fk an_fk cd_fk ct_fk), sl_fk⟩)
    (c_fk : PySem.W.codeIn K cd_fk "check_ladder" = true)
    (k_fk : PySem.W.keepIn K (.ref fk) = true)
    (b_fh : PySem.W.nsIn K mainGlobals "height_of_row" = some (some (.ref fh)))
    (l_fh : K.lookup fh = some ⟨oc_fh, od_fh, .func (PySem.W.fnOf "height_of_row" "height_of_row" (defArgs sHor) (defBody sHor) (defScope sHor) .none kV_fh dc_fh pm_fh an_fh cd_fh ct_fh), sl_fh⟩)
    (c_fh : PySem.W.codeIn K cd_fh "height_of_row" = true)
    (k_fh : PySem.W.keepIn K (.ref fh) = true)
    (b_fG : PySem.W.nsIn K mainGlobals "heights" = some (some (.ref fG)))
    (l_fG : K.lookup fG = some ⟨oc_fG, od_fG, .func (PySem.W.fnOf "heights" "heights" (defArgs sHei) (defBody sHei) (defScope sHei) .none kV_fG dc_fG pm_fG an_fG cd_fG ct_fG), sl_fG⟩)
    (c_fG : PySem.W.codeIn K cd_fG "heights" = true)
    (k_fG : PySem.W.keepIn K (.ref fG) = true)
    (b_fm : PySem.W.nsIn K mainGlobals "how_many_cuts" = some (some (.ref fm)))
    (l_fm : K.lookup fm = some ⟨oc_fm, od_fm, .func (PySem.W.fnOf "how_many_cuts" "how_many_cuts" (defArgs sHmc) (defBody sHmc) (defScope sHmc) .none kV_fm dc_fm pm_fm an_fm cd_fm ct_fm), sl_fm⟩)
    (c_fm : PySem.W.codeIn K cd_fm "how_many_cuts" = true)
    (k_fm : PySem.W.keepIn K (.ref fm) = true)
    (b_fs : PySem.W.nsIn K mainGlobals "say_holds" = some (some (.ref fs)))
    (l_fs : K.lookup fs = some ⟨oc_fs, od_fs, .func (PySem.W.fnOf "say_holds" "say_holds" (defArgs sShd) (defBody sShd) (defScope sShd) .none kV_fs dc_fs pm_fs an_fs cd_fs ct_fs), sl_fs⟩)
    (c_fs : PySem.W.codeIn K cd_fs "say_holds" = true)
    (k_fs : PySem.W.keepIn K (.ref fs) = true)
    (b_fF : PySem.W.nsIn K mainGlobals "failing" = some (some (.ref fF)))
    (l_fF : K.lookup fF = some ⟨oc_fF, od_fF, .func (PySem.W.fnOf "failing" "failing" (defArgs sFai) (defBody sFai) (defScope sFai) .none kV_fF dc_fF pm_fF an_fF cd_fF ct_fF), sl_fF⟩)
    (c_fF : PySem.W.codeIn K cd_fF "failing" = true)
    (k_fF : PySem.W.keepIn K (.ref fF) = true)
    (b_fb : PySem.W.nsIn K mainGlobals "setting_by_number" = some (some (.ref fb)))
    (l_fb : K.lookup fb = some ⟨oc_fb, od_fb, .func (PySem.W.fnOf "setting_by_number" "setting_by_number" (defArgs sSbn) (defBody sSbn) (defScope sSbn) .none kV_fb dc_fb pm_fb an_fb cd_fb ct_fb), sl_fb⟩)
    (c_fb : PySem.W.codeIn K cd_fb "setting_by_number" = true)
    (k_fb : PySem.W.keepIn K (.ref fb) = true)
    (b_fv : PySem.W.nsIn K mainGlobals "every_setting" = some (some (.ref fv)))
    (l_fv : K.lookup fv = some ⟨oc_fv, od_fv, .func (PySem.W.fnOf "every_setting" "every_setting" (defArgs sEve) (defBody sEve) (defScope sEve) .none kV_fv dc_fv pm_fv an_fv cd_fv ct_fv), sl_fv⟩)
    (c_fv : PySem.W.codeIn K cd_fv "every_setting" = true)
    (k_fv : PySem.W.keepIn K (.ref fv) = true)
    (b_fo : PySem.W.nsIn K mainGlobals "follows" = some (some (.ref fo)))
    (l_fo : K.lookup fo = some ⟨oc_fo, od_fo, .func (PySem.W.fnOf "follows" "follows" (defArgs sFol) (defBody sFol) (defScope sFol) .none kV_fo dc_fo pm_fo an_fo cd_fo ct_fo), sl_fo⟩)
    (c_fo : PySem.W.codeIn K cd_fo "follows" = true)
    (k_fo : PySem.W.keepIn K (.ref fo) = true)
    (b_fL : PySem.W.nsIn K mainGlobals "law" = some (some (.ref fL)))
    (l_fL : K.lookup fL = some ⟨oc_fL, od_fL, .func (PySem.W.fnOf "law" "law" (defArgs sLaw) (defBody sLaw) (defScope sLaw) .none kV_fL dc_fL pm_fL an_fL cd_fL ct_fL), sl_fL⟩)
    (c_fL : PySem.W.codeIn K cd_fL "law" = true)
    (k_fL : PySem.W.keepIn K (.ref fL) = true)
    (b_gH : PySem.W.nsIn K mainGlobals "has_opposites" = some (some (.ref gH)))
    (l_gH : K.lookup gH = some ⟨oc_gH, od_gH, .func (PySem.W.fnOf "has_opposites" "has_opposites" (defArgs sHop) (defBody sHop) (defScope sHop) .none kV_gH dc_gH pm_gH an_gH (.ref cH) ct_gH), sl_gH⟩)
    (c_gH : PySem.W.codeIn K (.ref cH) "has_opposites" = true)
    (k_gH : PySem.W.keepIn K (.ref gH) = true)
    (b_gR : PySem.W.nsIn K mainGlobals "is_rising" = some (some (.ref gR)))
    (l_gR : K.lookup gR = some ⟨oc_gR, od_gR, .func (PySem.W.fnOf "is_rising" "is_rising" (defArgs sRis) (defBody sRis) (defScope sRis) .none kV_gR dc_gR pm_gR an_gR (.ref cR) ct_gR), sl_gR⟩)
    (c_gR : PySem.W.codeIn K (.ref cR) "is_rising" = true)
    (k_gR : PySem.W.keepIn K (.ref gR) = true)
    (b_gC : PySem.W.nsIn K mainGlobals "is_claim" = some (some (.ref gC)))
    (l_gC : K.lookup gC = some ⟨oc_gC, od_gC, .func (PySem.W.fnOf "is_claim" "is_claim" (defArgs sIcl) (defBody sIcl) (defScope sIcl) .none kV_gC dc_gC pm_gC an_gC (.ref cC) ct_gC), sl_gC⟩)
    (c_gC : PySem.W.codeIn K (.ref cC) "is_claim" = true)
    (k_gC : PySem.W.keepIn K (.ref gC) = true)
    (b_gO : PySem.W.nsIn K mainGlobals "holds" = some (some (.ref gO)))
    (l_gO : K.lookup gO = some ⟨oc_gO, od_gO, .func (PySem.W.fnOf "holds" "holds" (defArgs sHol) (defBody sHol) (defScope sHol) .none kV_gO dc_gO pm_gO an_gO (.ref cO) ct_gO), sl_gO⟩)
    (c_gO : PySem.W.codeIn K (.ref cO) "holds" = true)
    (k_gO : PySem.W.keepIn K (.ref gO) = true)
    (b_gA : PySem.W.nsIn K mainGlobals "all_hold" = some (some (.ref gA)))
    (l_gA : K.lookup gA = some ⟨oc_gA, od_gA, .func (PySem.W.fnOf "all_hold" "all_hold" (defArgs sAhd) (defBody sAhd) (defScope sAhd) .none kV_gA dc_gA pm_gA an_gA (.ref cA) ct_gA), sl_gA⟩)
    (c_gA : PySem.W.codeIn K (.ref cA) "all_hold" = true)
    (k_gA : PySem.W.keepIn K (.ref gA) = true)
    (lc_H : K.lookup cH = some ⟨e_H, dd_H, .fields vs_H, sf_H⟩)
    (v_H : vs_H[11]? = some (Value.ref PH))
    (hd_H : PySem.W.codeHdIn K cH PH = true)
    (np_H : K.lookup PH = none)
    (lc_R : K.lookup cR = some ⟨e_R, dd_R, .fields vs_R, sf_R⟩)
    (v_R : vs_R[11]? = some (Value.ref PR))
    (hd_R : PySem.W.codeHdIn K cR PR = true)
    (np_R : K.lookup PR = none)
    (lc_C : K.lookup cC = some ⟨e_C, dd_C, .fields vs_C, sf_C⟩)
    (v_C : vs_C[11]? = some (Value.ref PC))
    (hd_C : PySem.W.codeHdIn K cC PC = true)
    (np_C : K.lookup PC = none)
    (lc_O : K.lookup cO = some ⟨e_O, dd_O, .fields vs_O, sf_O⟩)
    (v_O : vs_O[11]? = some (Value.ref PO))
    (hd_O : PySem.W.codeHdIn K cO PO = true)
    (np_O : K.lookup PO = none)
    (lc_A : K.lookup cA = some ⟨e_A, dd_A, .fields vs_A, sf_A⟩)
    (v_A : vs_A[11]? = some (Value.ref PA))
    (hd_A : PySem.W.codeHdIn K cA PA = true)
    (np_A : K.lookup PA = none)
    (b_MOST_THINGS : PySem.W.nsIn K mainGlobals "MOST_THINGS" = some (some (.int 8 tk_MOST_THINGS)))
    (b_MOST_ROWS : PySem.W.nsIn K mainGlobals "MOST_ROWS" = some (some (.int 200 tk_MOST_ROWS)))
    (z_range : PySem.W.nsIn K mainGlobals "range" = some none)
    (z_isinstance : PySem.W.nsIn K mainGlobals "isinstance" = some none)
    (z_len : PySem.W.nsIn K mainGlobals "len" = some none)
    (z_list : PySem.W.nsIn K mainGlobals "list" = some none)
    (z_min : PySem.W.nsIn K mainGlobals "min" = some none)
    (z_max : PySem.W.nsIn K mainGlobals "max" = some none)
    (z_tuple : PySem.W.nsIn K mainGlobals "tuple" = some none)
    (z_sorted : PySem.W.nsIn K mainGlobals "sorted" = some none)
    (z_set : PySem.W.nsIn K mainGlobals "set" = some none)
    (z_abs : PySem.W.nsIn K mainGlobals "abs" = some none)
    (z_any : PySem.W.nsIn K mainGlobals "any" = some none)
    (z_all : PySem.W.nsIn K mainGlobals "all" = some none)
    (z_bool : PySem.W.nsIn K mainGlobals "bool" = some none)
    (z_int : PySem.W.nsIn K mainGlobals "int" = some none)
    (z_zip : PySem.W.nsIn K mainGlobals "zip" = some none)
    (z_enumerate : PySem.W.nsIn K mainGlobals "enumerate" = some none)
    (n0 : PySem.W.nsIn K mainGlobals "NoCut" = some (some (.ref c0)))
    (x0 : PySem.W.excIn K c0 Ct.veB "ValueError.__new__" = true)
    (p0 : PySem.W.keepIn K (.ref c0) = true)
    (s0 : PySem.W.subIn K (.ref c0) (.type "BaseException") = some true)
    (t0 : PySem.W.typeIn K (.ref c0) = some (.type "type")) :
    LawG l w K 11 63 "script" mg top h := by
  have e := htop.symm.trans (PySem.W.mg_of X G b_fL)
  cases e
  have F_fM := fun_mk (st := sMix) l_fM c_fM k_fM
  have B_fM := F_fM.binds (ps := ["cell", "at"]) fun _ _ _ _ _ _ us hl => match us, hl with | [_, _], _ => rfl
  have g_fM := PySem.W.mg_of X G b_fM
  have F_fD := fun_mk (st := sDrw) l_fD c_fD k_fD
  have B_fD := F_fD.binds (ps := ["feed", "many"]) fun _ _ _ _ _ _ us hl => match us, hl with | [_, _], _ => rfl
  have g_fD := PySem.W.mg_of X G b_fD
  have F_fO := fun_mk (st := sOpn) l_fO c_fO k_fO
  have B_fO := F_fO.binds (ps := ["script"]) fun _ _ _ _ _ _ us hl => match us, hl with | [_], _ => rfl
  have g_fO := PySem.W.mg_of X G b_fO
  have F_fT := fun_mk (st := sThg) l_fT c_fT k_fT
  have B_fT := F_fT.binds (ps := ["feed", "least", "most"]) fun _ _ _ _ _ _ us hl => match us, hl with | [_, _, _], _ => rfl
  have g_fT := PySem.W.mg_of X G b_fT
  have F_fC := fun_mk (st := sClm) l_fC c_fC k_fC
  have B_fC := F_fC.binds (ps := ["feed", "things", "most"]) fun _ _ _ _ _ _ us hl => match us, hl with | [_, _, _], _ => rfl
  have g_fC := PySem.W.mg_of X G b_fC
  have F_fB := fun_mk (st := sBok) l_fB c_fB k_fB
  have B_fB := F_fB.binds (ps := ["feed", "things", "most"]) fun _ _ _ _ _ _ us hl => match us, hl with | [_, _, _], _ => rfl
  have g_fB := PySem.W.mg_of X G b_fB
  have F_fS := fun_mk (st := sSct) l_fS c_fS k_fS
  have B_fS := F_fS.binds (ps := ["one", "other", "k"]) fun _ _ _ _ _ _ us hl => match us, hl with | [_, _, _], _ => rfl
  have g_fS := PySem.W.mg_of X G b_fS
  have F_fw := fun_mk (st := sSwh) l_fw c_fw k_fw
  have B_fw := F_fw.binds (ps := ["thing"]) fun _ _ _ _ _ _ us hl => match us, hl with | [_], _ => rfl
  have g_fw := PySem.W.mg_of X G b_fw
  have F_fr := fun_mk (st := sSrw) l_fr c_fr k_fr
  have B_fr := F_fr.binds (ps := ["book", "claims", "row"]) fun _ _ _ _ _ _ us hl => match us, hl with | [_, _, _], _ => rfl
  have g_fr := PySem.W.mg_of X G b_fr
  have F_fy := fun_mk (st := sSwy) l_fy c_fy k_fy
  have B_fy := F_fy.binds (ps := ["book", "claims", "i", "j"]) fun _ _ _ _ _ _ us hl => match us, hl with | [_, _, _, _], _ => rfl
  have g_fy := PySem.W.mg_of X G b_fy
  have F_fl := fun_mk (st := sSld) l_fl c_fl k_fl
  have B_fl := F_fl.binds (ps := ["feed", "book", "many"]) fun _ _ _ _ _ _ us hl => match us, hl with | [_, _, _], _ => rfl
  have g_fl := PySem.W.mg_of X G b_fl
  have F_fc := fun_mk (st := sSca) l_fc c_fc k_fc
  have B_fc := F_fc.binds (ps := ["feed"]) fun _ _ _ _ _ _ us hl => match us, hl with | [_], _ => rfl
  have g_fc := PySem.W.mg_of X G b_fc
  have F_ft := fun_mk (st := sSst) l_ft c_ft k_ft
  have B_ft := F_ft.binds (ps := ["feed"]) fun _ _ _ _ _ _ us hl => match us, hl with | [_], _ => rfl
  have g_ft := PySem.W.mg_of X G b_ft
  have F_fW := fun_mk (st := sWho) l_fW c_fW k_fW
  have B_fW := F_fW.binds (ps := ["thing"]) fun _ _ _ _ _ _ us hl => match us, hl with | [_], _ => rfl
  have g_fW := PySem.W.mg_of X G b_fW
  have F_fY := fun_mk (st := sSay) l_fY c_fY k_fY
  have B_fY := F_fY.binds (ps := ["thing"]) fun _ _ _ _ _ _ us hl => match us, hl with | [_], _ => rfl
  have g_fY := PySem.W.mg_of X G b_fY
  have F_fE := fun_mk (st := sCme) l_fE c_fE k_fE
  have B_fE := F_fE.binds (ps := ["one", "other", "k"]) fun _ _ _ _ _ _ us hl => match us, hl with | [_, _, _], _ => rfl
  have g_fE := PySem.W.mg_of X G b_fE
  have F_fN := fun_mk (st := sCon) l_fN c_fN k_fN
  have B_fN := F_fN.binds (ps := ["one", "other", "k"]) fun _ _ _ _ _ _ us hl => match us, hl with | [_, _, _], _ => rfl
  have g_fN := PySem.W.mg_of X G b_fN
  have F_fU := fun_mk (st := sCut) l_fU c_fU k_fU
  have B_fU := F_fU.binds (ps := ["one", "other", "k"]) fun _ _ _ _ _ _ us hl => match us, hl with | [_, _, _], _ => rfl
  have g_fU := PySem.W.mg_of X G b_fU
  have F_fn := fun_mk (st := sNum) l_fn c_fn k_fn
  have B_fn := F_fn.binds (ps := ["thing", "many"]) fun _ _ _ _ _ _ us hl => match us, hl with | [_, _], _ => rfl
  have g_fn := PySem.W.mg_of X G b_fn
  have F_fR := fun_mk (st := sRow) l_fR c_fR k_fR
  have B_fR := F_fR.binds (ps := ["book", "claims", "row"]) fun _ _ _ _ _ _ us hl => match us, hl with | [_, _, _], _ => rfl
  have g_fR := PySem.W.mg_of X G b_fR
  have F_fA := fun_mk (st := sAhe) l_fA c_fA k_fA
  have B_fA := F_fA.binds (ps := ["book", "thing"]) fun _ _ _ _ _ _ us hl => match us, hl with | [_, _], _ => rfl
  have g_fA := PySem.W.mg_of X G b_fA
  have F_fI := fun_mk (st := sIsl) l_fI c_fI k_fI
  have B_fI := F_fI.binds (ps := ["book", "thing"]) fun _ _ _ _ _ _ us hl => match us, hl with | [_, _], _ => rfl
  have g_fI := PySem.W.mg_of X G b_fI
  have F_fK := fun_mk (st := sClo) l_fK c_fK k_fK
  have B_fK := F_fK.binds (ps := ["book", "ladder"]) fun _ _ _ _ _ _ us hl => match us, hl with | [_, _], _ => rfl
  have g_fK := PySem.W.mg_of X G b_fK
  have F_fk := fun_mk (st := sChk) l_fk c_fk k_fk
  have B_fk := F_fk.binds (ps := ["book", "ladder"]) fun _ _ _ _ _ _ us hl => match us, hl with | [_, _], _ => rfl
  have g_fk := PySem.W.mg_of X G b_fk
  have F_fh := fun_mk (st := sHor) l_fh c_fh k_fh
  have B_fh := F_fh.binds (ps := ["row", "heights_ahead"]) fun _ _ _ _ _ _ us hl => match us, hl with | [_, _], _ => rfl
  have g_fh := PySem.W.mg_of X G b_fh
  have F_fG := fun_mk (st := sHei) l_fG c_fG k_fG
  have B_fG := F_fG.binds (ps := ["book", "ladder"]) fun _ _ _ _ _ _ us hl => match us, hl with | [_, _], _ => rfl
  have g_fG := PySem.W.mg_of X G b_fG
  have F_fm := fun_mk (st := sHmc) l_fm c_fm k_fm
  have B_fm := F_fm.binds (ps := ["book", "ladder"]) fun _ _ _ _ _ _ us hl => match us, hl with | [_, _], _ => rfl
  have g_fm := PySem.W.mg_of X G b_fm
  have F_fs := fun_mk (st := sShd) l_fs c_fs k_fs
  have B_fs := F_fs.binds (ps := ["say", "setting"]) fun _ _ _ _ _ _ us hl => match us, hl with | [_, _], _ => rfl
  have g_fs := PySem.W.mg_of X G b_fs
  have F_fF := fun_mk (st := sFai) l_fF c_fF k_fF
  have B_fF := F_fF.binds (ps := ["book", "setting"]) fun _ _ _ _ _ _ us hl => match us, hl with | [_, _], _ => rfl
  have g_fF := PySem.W.mg_of X G b_fF
  have F_fb := fun_mk (st := sSbn) l_fb c_fb k_fb
  have B_fb := F_fb.binds (ps := ["number"]) fun _ _ _ _ _ _ us hl => match us, hl with | [_], _ => rfl
  have g_fb := PySem.W.mg_of X G b_fb
  have F_fv := fun_mk (st := sEve) l_fv c_fv k_fv
  have B_fv := F_fv.binds (ps := []) fun _ _ _ _ _ _ us hl => match us, hl with | [], _ => rfl
  have g_fv := PySem.W.mg_of X G b_fv
  have F_fo := fun_mk (st := sFol) l_fo c_fo k_fo
  have B_fo := F_fo.binds (ps := ["book", "claim"]) fun _ _ _ _ _ _ us hl => match us, hl with | [_, _], _ => rfl
  have g_fo := PySem.W.mg_of X G b_fo
  have F_fL := fun_mk (st := sLaw) l_fL c_fL k_fL
  have B_fL := F_fL.binds (ps := ["script"]) fun _ _ _ _ _ _ us hl => match us, hl with | [_], _ => rfl
  have g_fL := PySem.W.mg_of X G b_fL
  have F_gH := fun_mk (st := sHop) l_gH c_gH k_gH
  have B_gH := F_gH.binds (ps := ["says"]) fun _ _ _ _ _ _ us hl => match us, hl with | [_], _ => rfl
  have g_gH := PySem.W.mg_of X G b_gH
  have F_gR := fun_mk (st := sRis) l_gR c_gR k_gR
  have B_gR := F_gR.binds (ps := ["says"]) fun _ _ _ _ _ _ us hl => match us, hl with | [_], _ => rfl
  have g_gR := PySem.W.mg_of X G b_gR
  have F_gC := fun_mk (st := sIcl) l_gC c_gC k_gC
  have B_gC := F_gC.binds (ps := ["thing"]) fun _ _ _ _ _ _ us hl => match us, hl with | [_], _ => rfl
  have g_gC := PySem.W.mg_of X G b_gC
  have F_gO := fun_mk (st := sHol) l_gO c_gO k_gO
  have B_gO := F_gO.binds (ps := ["claim", "setting"]) fun _ _ _ _ _ _ us hl => match us, hl with | [_, _], _ => rfl
  have g_gO := PySem.W.mg_of X G b_gO
  have F_gA := fun_mk (st := sAhd) l_gA c_gA k_gA
  have B_gA := F_gA.binds (ps := ["book", "setting"]) fun _ _ _ _ _ _ us hl => match us, hl with | [_, _], _ => rfl
  have g_gA := PySem.W.mg_of X G b_gA
  have C_gH : Se.FunC K "has_opposites" "has_opposites" sHop gH cH _ := ⟨⟨_, _, _, _, _, _, _, _, rfl, l_gH, c_gH⟩, k_gH⟩
  have C_gR : Se.FunC K "is_rising" "is_rising" sRis gR cR _ := ⟨⟨_, _, _, _, _, _, _, _, rfl, l_gR, c_gR⟩, k_gR⟩
  have C_gC : Se.FunC K "is_claim" "is_claim" sIcl gC cC _ := ⟨⟨_, _, _, _, _, _, _, _, rfl, l_gC, c_gC⟩, k_gC⟩
  have C_gO : Se.FunC K "holds" "holds" sHol gO cO _ := ⟨⟨_, _, _, _, _, _, _, _, rfl, l_gO, c_gO⟩, k_gO⟩
  have C_gA : Se.FunC K "all_hold" "all_hold" sAhd gA cA _ := ⟨⟨_, _, _, _, _, _, _, _, rfl, l_gA, c_gA⟩, k_gA⟩
  have M_MOST_THINGS := PySem.W.mg_of X G b_MOST_THINGS
  have M_MOST_ROWS := PySem.W.mg_of X G b_MOST_ROWS
  have Z_range := PySem.W.mg_none_of X G z_range
  have Z_isinstance := PySem.W.mg_none_of X G z_isinstance
  have Z_len := PySem.W.mg_none_of X G z_len
  have Z_list := PySem.W.mg_none_of X G z_list
  have Z_min := PySem.W.mg_none_of X G z_min
  have Z_max := PySem.W.mg_none_of X G z_max
  have Z_tuple := PySem.W.mg_none_of X G z_tuple
  have Z_sorted := PySem.W.mg_none_of X G z_sorted
  have Z_set := PySem.W.mg_none_of X G z_set
  have Z_abs := PySem.W.mg_none_of X G z_abs
  have Z_any := PySem.W.mg_none_of X G z_any
  have Z_all := PySem.W.mg_none_of X G z_all
  have Z_bool := PySem.W.mg_none_of X G z_bool
  have Z_int := PySem.W.mg_none_of X G z_int
  have Z_zip := PySem.W.mg_none_of X G z_zip
  have Z_enumerate := PySem.W.mg_none_of X G z_enumerate
  refine ⟨PySem.W.fnOf "law" "law" (defArgs sLaw) (defBody sLaw) (defScope sLaw) .none kV_fL dc_fL pm_fL an_fL cd_fL ct_fL, [(cH, PH), (cR, PR), (cC, PC), (cO, PO), (cA, PA)], spLaw PO PA PH PC PR K, ?_, ?_, ?_, fun s u => .of_eq rfl, fun H a ns _ hT hS => ?_, fun base hb hn hT => ?_⟩
  · intro p hp
    simp only [List.mem_cons, List.not_mem_nil, or_false] at hp
    rcases hp with rfl | rfl | rfl | rfl | rfl
    · exact ow "has_opposites" (by simp) _ g_gH cH PH _ _ _ _ _ _ l_gH rfl rfl lc_H v_H
    · exact ow "is_rising" (by simp) _ g_gR cR PR _ _ _ _ _ _ l_gR rfl rfl lc_R v_R
    · exact ow "is_claim" (by simp) _ g_gC cC PC _ _ _ _ _ _ l_gC rfl rfl lc_C v_C
    · exact ow "holds" (by simp) _ g_gO cO PO _ _ _ _ _ _ l_gO rfl rfl lc_O v_O
    · exact ow "all_hold" (by simp) _ g_gA cA PA _ _ _ _ _ _ l_gA rfl rfl lc_A v_A
  · intro p hp
    simp only [List.mem_cons, List.not_mem_nil, or_false] at hp
    rcases hp with rfl | rfl | rfl | rfl | rfl
    · exact np_H
    · exact np_R
    · exact np_C
    · exact np_O
    · exact np_A
  · intro p hp
    simp only [List.mem_cons, List.not_mem_nil, or_false] at hp
    rcases hp with rfl | rfl | rfl | rfl | rfl
    · exact PySem.W.codeHd_of_K X hd_H
    · exact PySem.W.codeHd_of_K X hd_R
    · exact PySem.W.codeHd_of_K X hd_C
    · exact PySem.W.codeHd_of_K X hd_O
    · exact PySem.W.codeHd_of_K X hd_A
  · exact ⟨a, ns, rfl, hS, ⟨⟨#[], hT (cO, PO) (by simp), trivial⟩, ⟨#[], hT (cA, PA) (by simp), trivial⟩, ⟨#[], hT (cH, PH) (by simp), trivial⟩, ⟨#[], hT (cC, PC) (by simp), trivial⟩, ⟨#[], hT (cR, PR) (by simp), trivial⟩⟩, fun _ => rfl⟩
  · have t_H := hT (cH, PH) (by simp)
    have T_H : TabB base mg cH PH := ⟨t_H.code, t_H.bm, t_H.gP⟩
    have t_R := hT (cR, PR) (by simp)
    have T_R : TabB base mg cR PR := ⟨t_R.code, t_R.bm, t_R.gP⟩
    have t_C := hT (cC, PC) (by simp)
    have T_C : TabB base mg cC PC := ⟨t_C.code, t_C.bm, t_C.gP⟩
    have t_O := hT (cO, PO) (by simp)
    have T_O : TabB base mg cO PO := ⟨t_O.code, t_O.bm, t_O.gP⟩
    have t_A := hT (cA, PA) (by simp)
    have T_A : TabB base mg cA PA := ⟨t_A.code, t_A.bm, t_A.gP⟩
    have Ts : Zs mg := ⟨Z_len, Z_list, Z_range, Z_min, Z_tuple, Z_sorted⟩
    have Tc : Zc mg := ⟨Z_any, Z_isinstance, Z_int, Z_bool, Z_tuple, Z_sorted, Z_set⟩
    have Td : Zd mg := ⟨Z_tuple, Z_sorted, Z_set, Z_abs⟩
    have Tt : Zt mg := ⟨Z_len, Z_abs, Z_any, Z_all, Z_tuple, Z_range⟩
    have Tw : Zw mg := ⟨Z_len, Z_all, Z_tuple, Z_range, Z_enumerate⟩
    have Tp : Zp mg := ⟨Z_len, Z_isinstance, Z_tuple, Z_list, Z_max⟩
    have Ty : Zy mg := ⟨Z_len, Z_isinstance, Z_tuple, Z_int, Z_bool, Z_all, Z_min, Z_max, Z_range⟩
    have Ti : Zi mg := ⟨Z_all, Z_any, Z_zip, Z_isinstance, Z_tuple⟩
    have Tk : Zk mg := ⟨Z_len, Z_max, Z_enumerate⟩
    have GD : FnOk l.prog w K mg base CX0 2 fD _ ["feed", "many"] spDrw := ok_drw F_fD F_fM B_fM g_fM Z_len
    have GO : FnOk l.prog w K mg base CX0 1 fO _ ["script"] (spOpn K) := ok_opn F_fO Z_list
    have GT : FnOk l.prog w K mg base CX0 3 fT _ ["feed", "least", "most"] spThg := ok_thg F_fT Ts F_fD B_fD g_fD GD
    have GC : FnOk l.prog w K mg base CX0 3 fC _ ["feed", "things", "most"] spClm := ok_clm F_fC Ts F_fD B_fD g_fD GD
    have GB : FnOk l.prog w K mg base CX0 4 fB _ ["feed", "things", "most"] spBok := ok_bok F_fB Ts F_fD B_fD g_fD GD F_fC B_fC g_fC GC
    have GS : FnOk l.prog w K mg base CX0 1 fS _ ["one", "other", "k"] spSct := ok_sct F_fS Td
    have Gw : FnOk l.prog w K mg base CX0 1 fw _ ["thing"] spWho := ok_swh F_fw Ty
    have Gr : FnOk l.prog w K mg base CX0 2 fr _ ["book", "claims", "row"] spSrw := ok_srw F_fr Ty F_fw B_fw g_fw Gw F_fS B_fS g_fS GS
    have Gy : FnOk l.prog w K mg base CX0 3 fy _ ["book", "claims", "i", "j"] spSwy := ok_swy F_fy Ty F_fr B_fr g_fr Gr
    have Gl : FnOk l.prog w K mg base CX0 4 fl _ ["feed", "book", "many"] spSld := ok_sld F_fl Ty F_fD B_fD g_fD GD F_fy B_fy g_fy Gy F_fr B_fr g_fr Gr
    have Gc : FnOk l.prog w K mg base CX0 5 fc _ ["feed"] spSca := ok_sca F_fc F_fD B_fD g_fD GD F_fT B_fT g_fT GT F_fB B_fB g_fB GB F_fl B_fl g_fl Gl
    have Gt : FnOk l.prog w K mg base CX0 3 ft _ ["feed"] spSst := ok_sst F_ft Tw F_fD B_fD g_fD GD
    have GW : FnOk l.prog w K mg base CX0 1 fW _ ["thing"] spWho := ok_who F_fW Tc
    have GY : FnOk l.prog w K mg base CX0 2 fY _ ["thing"] spSay := ok_say F_fY M_MOST_THINGS F_fW B_fW g_fW GW
    have GE : FnOk l.prog w K mg base CX0 2 fE _ ["one", "other", "k"] spCme := ok_cme F_fE Tc M_MOST_THINGS F_fW B_fW g_fW GW
    have GH : FnOk l.prog w K mg base CX0 3 gH _ ["says"] (spHop PH) := ok_hop C_gH Tc T_H
    have GHT : FnOk l.prog w K mg base CX0 3 gH _ ["says"] (spHpT PH) := ok_hpt C_gH Ti T_H
    have GRI : FnOk l.prog w K mg base CX0 3 gR _ ["says"] (spRis PR) := ok_ris C_gR Ti T_R
    have GIC : FnOk l.prog w K mg base CX0 5 gC _ ["thing"] (spIcl PC PR PH) := ok_icl C_gC Ti T_C F_fY B_fY g_fY GY k_gR B_gR g_gR GRI k_gH B_gH g_gH GHT
    have GN : FnOk l.prog w K mg base CX0 4 fN _ ["one", "other", "k"] (spCon PH) := ok_con F_fN Tc F_fE B_fE g_fE GE k_gH B_gH g_gH GH
    have C0 : CN K mg c0 := ⟨x0, PySem.W.mg_of X G n0, p0, s0, t0⟩
    have GU : Gx2.FnX l.prog w K mg base (L2.CX l.prog w) 5 fU _ ["one", "other", "k"] (spCut c0 PH) := ok_cut F_fU C0 F_fN B_fN g_fN GN
    have Gn : FnOk l.prog w K mg base CX0 2 fn _ ["thing", "many"] spNum := ok_num F_fn F_fW B_fW g_fW GW
    have GR : FnOk l.prog w K mg base CX0 5 fR _ ["book", "claims", "row"] (spRow PH) := ok_row F_fR Tp F_fn B_fn g_fn Gn F_fN B_fN g_fN GN
    have GA : FnOk l.prog w K mg base CX0 6 fA _ ["book", "thing"] (spAhe PH) := ok_ahe F_fA Tp M_MOST_ROWS F_fR B_fR g_fR GR
    have GI : FnOk l.prog w K mg base CX0 7 fI _ ["book", "thing"] (spIsl PH) := ok_isl F_fI Tp F_fA B_fA g_fA GA
    have GK : FnOk l.prog w K mg base CX0 7 fK _ ["book", "ladder"] (spClo PH) := ok_clo F_fK Tp F_fA B_fA g_fA GA
    have Gk : FnOk l.prog w K mg base CX0 8 fk _ ["book", "ladder"] (spChk PH) := ok_chk F_fk F_fK B_fK g_fK GK
    have Gh : FnOk l.prog w K mg base CX0 1 fh _ ["row", "heights_ahead"] spHor := ok_hor F_fh Tp
    have GG : FnOk l.prog w K mg base CX0 9 fG _ ["book", "ladder"] (spHei PH) := ok_hei F_fG F_fk B_fk g_fk Gk F_fh B_fh g_fh Gh
    have Gm : FnOk l.prog w K mg base CX0 9 fm _ ["book", "ladder"] (spHmc PH) := ok_hmc F_fm Tp F_fk B_fk g_fk Gk
    have Gs : FnOk l.prog w K mg base CX0 1 fs _ ["say", "setting"] spShd := ok_shd F_fs Tt
    have GHO : FnOk l.prog w K mg base CX0 3 gO _ ["claim", "setting"] (spHol PO) := ok_hol C_gO Tt T_O F_fs B_fs g_fs Gs
    have GAH : FnOk l.prog w K mg base CX0 5 gA _ ["book", "setting"] (spAhd PO PA) := ok_ahd C_gA Tt T_A k_gO B_gO g_gO GHO
    have Gb : FnOk l.prog w K mg base CX0 2 fb _ ["number"] spSbn := ok_sbn F_fb Tt M_MOST_THINGS
    have Gf : FnOk l.prog w K mg base CX0 6 fo _ ["book", "claim"] (spFol PO PA) := ok_fol F_fo Tt M_MOST_THINGS F_fb B_fb g_fb Gb F_fv B_fv g_fv F_gO B_gO g_gO GHO F_gA B_gA g_gA GAH
    have GF : FnOk l.prog w K mg base CX0 4 fF _ ["book", "setting"] (spFai PO) := ok_fai F_fF Tw F_gO B_gO g_gO GHO
    exact ok_law F_fL Tk F_fD B_fD g_fD GD F_fO B_fO g_fO GO F_fc B_fc g_fc Gc F_fK B_fK g_fK GK F_fG B_fG g_fG GG F_ft B_ft g_ft Gt k_gC B_gC g_gC GIC F_fo B_fo g_fo Gf F_fF B_fF g_fF GF k_gO B_gO g_gO GHO F_fI B_fI g_fI GI F_fm B_fm g_fm Gm k_fU B_fU g_fU GU
end K8
open PySem PySem.W PyProof.Rows
set_option maxHeartbeats 0 in
theorem PySem.Challenge.cw_sparecut_k08_whole_ladders_follow_holds : PySem.Challenge.rw_sparecut_k08_whole_ladders_follow.Holds := by
  w_on; o_law; k_head; (case hw => w_witness2)
  k_fill
  refine Eg.walk_own (l := PySem.Challenge.rw_sparecut_k08_whole_ladders_follow) (m := 63) (k := 11) (x := "script") ["has_opposites", "is_rising", "is_claim", "holds", "all_hold"] rfl (by decide) rfl ⟨rfl, by decide, by decide⟩ (by decide +kernel) (fun w h Y => PySem.W.kIn_of Y) ?F
  case F =>
    intro w mg fa h Y KX G hmg ow
    refine' K8.all_mk KX G hmg ow ?b_fM ?l_fM ?c_fM ?k_fM ?b_fD ?l_fD ?c_fD ?k_fD ?b_fO ?l_fO ?c_fO ?k_fO ?b_fT ?l_fT ?c_fT ?k_fT ?b_fC ?l_fC ?c_fC ?k_fC ?b_fB ?l_fB ?c_fB ?k_fB ?b_fS ?l_fS ?c_fS ?k_fS ?b_fw ?l_fw ?c_fw ?k_fw ?b_fr ?l_fr ?c_fr ?k_fr ?b_fy ?l_fy ?c_fy ?k_fy ?b_fl ?l_fl ?c_fl ?k_fl ?b_fc ?l_fc ?c_fc ?k_fc ?b_ft ?l_ft ?c_ft ?k_ft ?b_fW ?l_fW ?c_fW ?k_fW ?b_fY ?l_fY ?c_fY ?k_fY ?b_fE ?l_fE ?c_fE ?k_fE ?b_fN ?l_fN ?c_fN ?k_fN ?b_fU ?l_fU ?c_fU ?k_fU ?b_fn ?l_fn ?c_fn ?k_fn ?b_fR ?l_fR ?c_fR ?k_fR ?b_fA ?l_fA ?c_fA ?k_fA ?b_fI ?l_fI ?c_fI ?k_fI ?b_fK ?l_fK ?c_fK ?k_fK ?b_fk ?l_fk ?c_fk ?k_fk ?b_fh ?l_fh ?c_fh ?k_fh ?b_fG ?l_fG ?c_fG ?k_fG ?b_fm ?l_fm ?c_fm ?k_fm ?b_fs ?l_fs ?c_fs ?k_fs ?b_fF ?l_fF ?c_fF ?k_fF ?b_fb ?l_fb ?c_fb ?k_fb ?b_fv ?l_fv ?c_fv ?k_fv ?b_fo ?l_fo ?c_fo ?k_fo ?b_fL ?l_fL ?c_fL ?k_fL ?b_gH ?l_gH ?c_gH ?k_gH ?b_gR ?l_gR ?c_gR ?k_gR ?b_gC ?l_gC ?c_gC ?k_gC ?b_gO ?l_gO ?c_gO ?k_gO ?b_gA ?l_gA ?c_gA ?k_gA ?lc_H ?v_H ?hd_H ?np_H ?lc_R ?v_R ?hd_R ?np_R ?lc_C ?v_C ?hd_C ?np_C ?lc_O ?v_O ?hd_O ?np_O ?lc_A ?v_A ?hd_A ?np_A ?b_MOST_THINGS ?b_MOST_ROWS ?z_range ?z_isinstance ?z_len ?z_list ?z_min ?z_max ?z_tuple ?z_sorted ?z_set ?z_abs ?z_any ?z_all ?z_bool ?z_int ?z_zip ?z_enumerate ?n0 ?x0 ?p0 ?s0 ?t0
    (case b_fM => k_is)
    (case l_fM => k_is)
    (case c_fM => k_is)
    (case k_fM => k_is)
    (case b_fD => k_is)
    (case l_fD => k_is)
    (case c_fD => k_is)
    (case k_fD => k_is)
    (case b_fO => k_is)
    (case l_fO => k_is)
    (case c_fO => k_is)
    (case k_fO => k_is)
    (case b_fT => k_is)
    (case l_fT => k_is)
    (case c_fT => k_is)
    (case k_fT => k_is)
    (case b_fC => k_is)
    (case l_fC => k_is)
    (case c_fC => k_is)
    (case k_fC => k_is)
    (case b_fB => k_is)
    (case l_fB => k_is)
    (case c_fB => k_is)
    (case k_fB => k_is)
    (case b_fS => k_is)
    (case l_fS => k_is)
    (case c_fS => k_is)
    (case k_fS => k_is)
    (case b_fw => k_is)
    (case l_fw => k_is)
    (case c_fw => k_is)
    (case k_fw => k_is)
    (case b_fr => k_is)
    (case l_fr => k_is)
    (case c_fr => k_is)
    (case k_fr => k_is)
    (case b_fy => k_is)
    (case l_fy => k_is)
    (case c_fy => k_is)
    (case k_fy => k_is)
    (case b_fl => k_is)
    (case l_fl => k_is)
    (case c_fl => k_is)
    (case k_fl => k_is)
    (case b_fc => k_is)
    (case l_fc => k_is)
    (case c_fc => k_is)
    (case k_fc => k_is)
    (case b_ft => k_is)
    (case l_ft => k_is)
    (case c_ft => k_is)
    (case k_ft => k_is)
    (case b_fW => k_is)
    (case l_fW => k_is)
    (case c_fW => k_is)
    (case k_fW => k_is)
    (case b_fY => k_is)
    (case l_fY => k_is)
    (case c_fY => k_is)
    (case k_fY => k_is)
    (case b_fE => k_is)
    (case l_fE => k_is)
    (case c_fE => k_is)
    (case k_fE => k_is)
    (case b_fN => k_is)
    (case l_fN => k_is)
    (case c_fN => k_is)
    (case k_fN => k_is)
    (case b_fU => k_is)
    (case l_fU => k_is)
    (case c_fU => k_is)
    (case k_fU => k_is)
    (case b_fn => k_is)
    (case l_fn => k_is)
    (case c_fn => k_is)
    (case k_fn => k_is)
    (case b_fR => k_is)
    (case l_fR => k_is)
    (case c_fR => k_is)
    (case k_fR => k_is)
    (case b_fA => k_is)
    (case l_fA => k_is)
    (case c_fA => k_is)
    (case k_fA => k_is)
    (case b_fI => k_is)
    (case l_fI => k_is)
    (case c_fI => k_is)
    (case k_fI => k_is)
    (case b_fK => k_is)
    (case l_fK => k_is)
    (case c_fK => k_is)
    (case k_fK => k_is)
    (case b_fk => k_is)
    (case l_fk => k_is)
    (case c_fk => k_is)
    (case k_fk => k_is)
    (case b_fh => k_is)
    (case l_fh => k_is)
    (case c_fh => k_is)
    (case k_fh => k_is)
    (case b_fG => k_is)
    (case l_fG => k_is)
    (case c_fG => k_is)
    (case k_fG => k_is)
    (case b_fm => k_is)
    (case l_fm => k_is)
    (case c_fm => k_is)
    (case k_fm => k_is)
    (case b_fs => k_is)
    (case l_fs => k_is)
    (case c_fs => k_is)
    (case k_fs => k_is)
    (case b_fF => k_is)
    (case l_fF => k_is)
    (case c_fF => k_is)
    (case k_fF => k_is)
    (case b_fb => k_is)
    (case l_fb => k_is)
    (case c_fb => k_is)
    (case k_fb => k_is)
    (case b_fv => k_is)
    (case l_fv => k_is)
    (case c_fv => k_is)
    (case k_fv => k_is)
    (case b_fo => k_is)
    (case l_fo => k_is)
    (case c_fo => k_is)
    (case k_fo => k_is)
    (case b_fL => k_is)
    (case l_fL => k_is)
    (case c_fL => k_is)
    (case k_fL => k_is)
    (case b_gH => k_is)
    (case l_gH => k_is)
    (case c_gH => k_is)
    (case k_gH => k_is)
    (case b_gR => k_is)
    (case l_gR => k_is)
    (case c_gR => k_is)
    (case k_gR => k_is)
    (case b_gC => k_is)
    (case l_gC => k_is)
    (case c_gC => k_is)
    (case k_gC => k_is)
    (case b_gO => k_is)
    (case l_gO => k_is)
    (case c_gO => k_is)
    (case k_gO => k_is)
    (case b_gA => k_is)
    (case l_gA => k_is)
    (case c_gA => k_is)
    (case k_gA => k_is)
    (case lc_H => k_is)
    (case v_H => exact rfl)
    (case hd_H => kernel_rfl)
    (case np_H => kernel_rfl)
    (case lc_R => k_is)
    (case v_R => exact rfl)
    (case hd_R => kernel_rfl)
    (case np_R => kernel_rfl)
    (case lc_C => k_is)
    (case v_C => exact rfl)
    (case hd_C => kernel_rfl)
    (case np_C => kernel_rfl)
    (case lc_O => k_is)
    (case v_O => exact rfl)
    (case hd_O => kernel_rfl)
    (case np_O => kernel_rfl)
    (case lc_A => k_is)
    (case v_A => exact rfl)
    (case hd_A => kernel_rfl)
    (case np_A => kernel_rfl)
    (case b_MOST_THINGS => k_is)
    (case b_MOST_ROWS => k_is)
    (case z_range => k_is)
    (case z_isinstance => k_is)
    (case z_len => k_is)
    (case z_list => k_is)
    (case z_min => k_is)
    (case z_max => k_is)
    (case z_tuple => k_is)
    (case z_sorted => k_is)
    (case z_set => k_is)
    (case z_abs => k_is)
    (case z_any => k_is)
    (case z_all => k_is)
    (case z_bool => k_is)
    (case z_int => k_is)
    (case z_zip => k_is)
    (case z_enumerate => k_is)
    (case n0 => k_is)
    (case x0 => k_exc)
    (case p0 => k_is)
    (case s0 => k_is)
    (case t0 => k_is)
